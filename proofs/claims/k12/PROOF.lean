import PyProof.Rows.All
import Wide.All
import OpenK.AllK
import Wide.FinOn
import Lean
import PyProof.EqAt
import PyProof.EqKinds
import PyProof.TupleCall
import PySem.Challenge.RW_crowdroads_k12_loads_and_sums
import PyProof.Rows.SumAny
import PyProof.Rows.SortWalk
import PyProof.ConsumeWalk
set_option Elab.async false
set_option linter.all false
set_option maxRecDepth 100000
/-! THE HAND LAYER, for ints, bools, texts, own classes, LISTS and tuples (index, slices, in, append, pop ..), calls, loops. Paste it whole ahead of your own text; what your proof does not reach may be deleted. -/
namespace L2
open PySem PySem.Spec PyProof.Rows

/-- a key: an int or a str -/
abbrev Key := Sum Int Str
def keyIs : Key → Value → Bool
  | .inl k, v => Value.isInt k v
  | .inr x, v => Value.isStrOf x v
def keyH (w : World) : Key → Int
  | .inl k => hashInt k
  | .inr x => hashStr w x
theorem keyIs_shape : ∀ {k : Key} {v : Value}, keyIs k v = true → (∃ i t, k = Sum.inl i ∧ v = Value.int i t) ∨ (∃ x t, k = Sum.inr x ∧ v = Value.str x t)
  | .inl i, v, h => by
    obtain ⟨t, e⟩ := Value.isInt_shape (k := i) (v := v) h
    exact .inl ⟨i, t, rfl, e⟩
  | .inr x, v, h => by
    obtain ⟨t, e⟩ := Value.isStrOf_shape (x := x) (v := v) h
    exact .inr ⟨x, t, rfl, e⟩
theorem key_ll (a b : Int) : decide ((Sum.inl a : Key) = Sum.inl b) = (a == b) := by
  by_cases e : a = b
  · subst e; simp
  · have h : ¬ (Sum.inl a : Key) = Sum.inl b := fun q => e (Sum.inl.inj q)
    rw [decide_eq_false h]
    exact (beq_eq_false_iff_ne.mpr e).symm
theorem key_rr (a b : Str) : decide ((Sum.inr a : Key) = Sum.inr b) = decide (a = b) := by
  by_cases e : a = b
  · subst e; simp
  · have h : ¬ (Sum.inr a : Key) = Sum.inr b := fun q => e (Sum.inr.inj q)
    rw [decide_eq_false h, decide_eq_false e]
theorem key_lr (a : Int) (b : Str) : decide ((Sum.inl a : Key) = Sum.inr b) = false := decide_eq_false (fun q => nomatch q)
theorem key_rl (a : Str) (b : Int) : decide ((Sum.inr a : Key) = Sum.inl b) = false := decide_eq_false (fun q => nomatch q)

def mixKind (prog : Program) (w : World) : PySem.KeyKind prog w Key where
  is := keyIs
  hash := keyH w
  inj := fun v a b ha hb => by
    rcases keyIs_shape ha with ⟨i, t, rfl, rfl⟩ | ⟨x, t, rfl, rfl⟩
    · rcases keyIs_shape hb with ⟨j, u, rfl, e⟩ | ⟨y, u, rfl, e⟩
      · injection e with e1 _; rw [e1]
      · exact nomatch e
    · rcases keyIs_shape hb with ⟨j, u, rfl, e⟩ | ⟨y, u, rfl, e⟩
      · exact nomatch e
      · injection e with e1 _; rw [e1]
  byValue := fun k v h => by
    rcases keyIs_shape h with ⟨i, t, rfl, rfl⟩ | ⟨x, t, rfl, rfl⟩ <;> rfl
  pyHash := fun hv h => by
    rcases keyIs_shape hv with ⟨i, t, rfl, rfl⟩ | ⟨x, t, rfl, rfl⟩
    · exact wpAny_pyHash_int h
    · exact wpAny_pyHash_str h
  eqBool := fun hu hv h => by
    rcases keyIs_shape hu with ⟨i, t, rfl, rfl⟩ | ⟨x, t, rfl, rfl⟩
    · rcases keyIs_shape hv with ⟨j, u, rfl, rfl⟩ | ⟨y, u, rfl, rfl⟩
      · rw [key_ll] at h; exact wpAny_eqBool_int h
      · rw [key_lr] at h; exact SeqAt.EqAt.int_str i t y u _ _ _ _ h
    · rcases keyIs_shape hv with ⟨j, u, rfl, rfl⟩ | ⟨y, u, rfl, rfl⟩
      · rw [key_rl] at h; exact SeqAt.EqAt.str_int x t j u _ _ _ _ h
      · rw [key_rr] at h; exact wpAny_eqBool_str h
  «strs» := fun k x t v h => by
    rcases keyIs_shape h with ⟨i, u, rfl, e⟩ | ⟨y, u, rfl, e⟩
    · exact nomatch e
    · injection e with e1 _
      subst e1
      cases v <;> rfl

end L2

namespace L2
open PySem PySem.Spec PyProof.Rows

/-- a value, without the heap -/
inductive V where
  | non | bl (b : Bool) | int (i : Int) | str (x : Str) | byt (b : Array UInt8) | flt (b : UInt64) | ref (a : Addr) | ty (n : String)
  deriving DecidableEq

def RelV : V → Value → Prop
  | .non, u => u = Value.none
  | .bl b, u => u = Value.bool b
  | .int i, u => ∃ t, u = Value.int i t
  | .str x, u => ∃ t, u = Value.str x t
  | .byt b, u => ∃ t, u = Value.bytes b t
  | .flt b, u => ∃ t, u = Value.float b t
  | .ref a, u => u = Value.ref a
  | .ty n, u => u = Value.type n

abbrev Vals : List V → List Value → Prop := Paired RelV
theorem Vals.length {xs : List V} {us : List Value} (r : Vals xs us) : xs.length = us.length := Paired.length r
theorem Vals.get : ∀ {xs : List V} {us : List Value} {i : Nat} {x : V}, Vals xs us → xs[i]? = some x → ∃ u, us[i]? = some u ∧ RelV x u
  | _, _, _, _, .nil, e => by simp at e
  | _, _, 0, _, .cons r _, e => by simp at e; subst e; exact ⟨_, rfl, r⟩
  | _, _, i + 1, x, .cons _ t, e => by
    obtain ⟨u, h1, h2⟩ := Vals.get (i := i) (x := x) t (by simpa using e)
    exact ⟨u, by simpa using h1, h2⟩
theorem Vals.set {x : V} {u : Value} (r : RelV x u) : ∀ {xs : List V} {us : List Value} (i : Nat), Vals xs us → Vals (xs.set i x) (us.set i u)
  | _, _, _, .nil => .nil
  | _, _, 0, .cons _ t => .cons r t
  | _, _, i + 1, .cons q t => .cons q (Vals.set r i t)
theorem Vals.append : ∀ {xs ys : List V} {us ws : List Value}, Vals xs us → Vals ys ws → Vals (xs ++ ys) (us ++ ws)
  | _, _, _, _, .nil, s => s
  | _, _, _, _, .cons r t, s => .cons r (Vals.append t s)
theorem Vals.take : ∀ {xs : List V} {us : List Value} (n : Nat), Vals xs us → Vals (xs.take n) (us.take n)
  | _, _, 0, _ => .nil
  | _, _, _ + 1, .nil => .nil
  | _, _, n + 1, .cons r t => .cons r (Vals.take n t)
theorem Vals.drop : ∀ {xs : List V} {us : List Value} (n : Nat), Vals xs us → Vals (xs.drop n) (us.drop n)
  | _, _, 0, r => r
  | _, _, _ + 1, .nil => .nil
  | _, _, n + 1, .cons _ t => Vals.drop n t

def RelO : Option V → Option Value → Prop
  | some v, some u => RelV v u
  | none, none => True
  | _, _ => False
def KV {κ : Type} : List (κ × V) → List (κ × Value) → Prop := Paired fun (p : κ × V) (q : κ × Value) => p.1 = q.1 ∧ RelV p.2 q.2

/-- a key of a dict (00_mix): an int or a text -/
def kV : Key → V
  | .inl i => .int i
  | .inr x => .str x

/-- what stands at a tracked address -/
inductive HO where
  /-- a list -/
  | lst (xs : List V)
  /-- a tuple (never changes) -/
  | tup (xs : List V)
  /-- a dict whose keys are ints and texts; one whose keys are tuples of ints and texts (the empty one is both) -/
  | dK (kvs : List (Key × V)) | dT (kvs : List (List Key × V))
  /-- a set of ints: its members, its size -/
  | set (S : Int → Bool) (n : Nat)
  /-- an instance of the class at C, its dict at dx, its attributes -/
  | ins (C dx : Addr) (fs : List (Str × V))
  /-- the dict of the instance at x -/
  | own (x : Addr)
  /-- the dict of an exception -/
  | xd (fs : List (Str × V))
  /-- a bound method, f of x -/
  | met (f x : Addr)
  /-- a range object lo, lo + 1, .. below hi -/
  | rng (lo hi : Int)
  /-- a thing that is known to the object (the script; a dict while a loop walks it): read, never written while it is so -/
  | frz (o : Obj) (u : HO)
  /-- a code object's table -/
  | tbl (ps : Array Value)
  /-- any other thing, by what is true of its one object (a def of one's own: SetO a S n := HO.ext fun h => ..) -/
  | ext (φ : Heap → Prop)

abbrev Hp := Addr → Option HO
def upd (H : Hp) (a : Addr) (o : HO) : Hp := fun b => if b = a then some o else H b
theorem upd_same {H : Hp} {a : Addr} {o : HO} : upd H a o a = some o := by unfold upd; rw [if_pos rfl]
theorem upd_ne {H : Hp} {a b : Addr} {o : HO} (h : b ≠ a) : upd H a o b = H b := by unfold upd; rw [if_neg h]
/-- two objects of different content stand apart -/
theorem ne_of {H : Hp} {a b : Addr} {o u : HO} (h : H a = some o) (h' : H b = some u) (d : o ≠ u) : a ≠ b := by
  intro e; subst e; rw [h] at h'; exact d (Option.some.inj h')
theorem ne_of_none {H : Hp} {a b : Addr} {o : HO} (h : H a = some o) (h' : H b = none) : a ≠ b := by
  intro e; subst e; rw [h] at h'; cases h'

section
variable (P : Program) (w : World)
def ObjOk (H : Hp) (h : Heap) (a : Addr) : HO → Prop
  | .lst xs => xs.length ≤ sizeLine ∧ ∃ (its : List Value) (n : Nat), Vals xs its ∧ h.get? a = some { cls := .type "list", data := .seq its.toArray n }
  | .tup xs => xs.length ≤ sizeLine ∧ ∃ its : List Value, Vals xs its ∧ IsTup h a its.toArray
  | .dK kvs => kvs.length ≤ sizeLine ∧ (a == sysModules) = false ∧ ∃ vs, KV kvs vs ∧ h.DictOf (mixKind P w) a vs
  | .dT kvs => kvs.length ≤ sizeLine ∧ (a == sysModules) = false ∧ ∃ xs : List (List Key × Addr × Value),
      Paired (fun (p : List Key × V) (q : List Key × Addr × Value) => p.1 = q.1 ∧ H q.2.1 = some (.tup (p.1.map kV)) ∧ RelV p.2 q.2.2) kvs xs ∧
      ∃ o es ep, h.get? a = some o ∧ o.ExactDict ∧ o.data = .dict es ep ∧ es.toList = xs.map (entryOfKey (tupleKind (mixKind P w))) ∧ (xs.map (·.1)).Nodup
  | .set S n => h.SetOf (intKind P w) a S n
  | .ins C dx fs => H dx = some (.own a) ∧ fs.length ≤ 1000 ∧ dx ≠ a ∧ h.get? a = some (PySem.W.instObj C dx) ∧
      ∃ mA, h.Ns1 dx mA ∧ (∀ f, RelO (fs.lookup f) (mA f)) ∧ PySem.Within mA (fs.map (·.1))
  | .own _ => ∃ o, h.get? a = some o
  | .xd fs => ∃ mA, h.Ns1 a mA ∧ ∀ f, RelO (fs.lookup f) (mA f)
  | .rng lo hi => ∃ t u v, h.get? a = some { cls := .type "range", data := .fields #[.int lo t, .int hi u, .int 1 v] }
  | .frz o u => h.get? a = some o ∧ ObjOk H h a u
  | .tbl ps => h.get? a = some { cls := .none, data := .fields ps }
  | .met f x => h.get? a = some (PySem.W.methodObj (.ref f) (.ref x))
  | .ext φ => φ h ∧ (∃ o, h.get? a = some o) ∧ ∀ h1 h2 : Heap, φ h1 → (∀ o, h1.get? a = some o → h2.get? a = some o) → φ h2
/-- the abstract heap is held -/
def HOk (H : Hp) (h : Heap) : Prop := ∀ a o, H a = some o → ObjOk P w H h a o
end

section
variable {P : Program} {w : World} {H H' : Hp} {h h' : Heap} {a : Addr} {o : HO}
theorem ObjOk.lt (x : ObjOk P w H h a o) : a < h.objs.size := by
  cases o with
  | lst xs => obtain ⟨_, _, _, _, e⟩ := x; exact Heap.lt_size e
  | tup xs => obtain ⟨_, _, _, p⟩ := x; exact p.lt
  | dK kvs => obtain ⟨_, _, _, _, o, _, _, e, _⟩ := x; exact Heap.lt_size e
  | dT kvs => obtain ⟨_, _, _, _, o, _, _, e, _⟩ := x; exact Heap.lt_size e
  | set S n => obtain ⟨o, _, _, _, e, _⟩ := x; exact Heap.lt_size e
  | ins C dx fs => obtain ⟨_, _, _, e, _⟩ := x; exact Heap.lt_size e
  | own y => obtain ⟨_, e⟩ := x; exact Heap.lt_size e
  | xd fs => obtain ⟨_, ⟨_, _, _, e, _⟩, _⟩ := x; exact Heap.lt_size e
  | rng lo hi => obtain ⟨_, _, _, e⟩ := x; exact Heap.lt_size e
  | frz ob u => obtain ⟨e, _⟩ := x; exact Heap.lt_size e
  | tbl ps => exact Heap.lt_size (show h.get? a = some _ from x)
  | met f y => exact Heap.lt_size (show h.get? a = some _ from x)
  | ext φ => obtain ⟨_, ⟨_, e⟩, _⟩ := x; exact Heap.lt_size e
theorem Paired.mapP {α β : Type} {F G : α → β → Prop} : ∀ {l₁ : List α} {l₂ : List β}, Paired F l₁ l₂ → (∀ a b, F a b → G a b) → Paired G l₁ l₂
  | _, _, .nil, _ => .nil
  | _, _, .cons r t, f => .cons (f _ _ r) (Paired.mapP t f)
/-- what an object's description leans on: its own object, its own dict, the tuples -/
theorem ObjOk.stay (x : ObjOk P w H h a o) (k : ∀ b u, (b = a ∨ H b = some (.own a)) → h.get? b = some u → h'.get? b = some u)
    (ho : ∀ b, H b = some (.own a) → H' b = some (.own a)) (ht : ∀ b xs, H b = some (.tup xs) → H' b = some (.tup xs)) : ObjOk P w H' h' a o := by
  induction o with
  | lst xs => obtain ⟨z, its, n, r, e⟩ := x; exact ⟨z, its, n, r, k _ _ (.inl rfl) e⟩
  | tup xs => obtain ⟨z, its, r, ob, e, c⟩ := x; exact ⟨z, its, r, ob, k _ _ (.inl rfl) e, c⟩
  | dK kvs => obtain ⟨z, y, vs, r, ob, es, ep, e, c⟩ := x; exact ⟨z, y, vs, r, ob, es, ep, k _ _ (.inl rfl) e, c⟩
  | dT kvs =>
    obtain ⟨z, y, xs, r, ob, es, ep, e, c⟩ := x
    exact ⟨z, y, xs, Paired.mapP r fun p q z => ⟨z.1, ht _ _ z.2.1, z.2.2⟩, ob, es, ep, k _ _ (.inl rfl) e, c⟩
  | set S n => obtain ⟨ob, es, ep, t, e, c⟩ := x; exact ⟨ob, es, ep, t, k _ _ (.inl rfl) e, c⟩
  | ins C dx fs =>
    obtain ⟨d, z, ne, e, mA, ⟨od, es, ep, e2, c⟩, r⟩ := x
    exact ⟨ho _ d, z, ne, k _ _ (.inl rfl) e, mA, ⟨od, es, ep, k _ _ (.inr d) e2, c⟩, r⟩
  | own y => obtain ⟨ob, e⟩ := x; exact ⟨ob, k _ _ (.inl rfl) e⟩
  | xd fs => obtain ⟨mA, ⟨od, es, ep, e, c⟩, r⟩ := x; exact ⟨mA, ⟨od, es, ep, k _ _ (.inl rfl) e, c⟩, r⟩
  | rng lo hi => obtain ⟨t, u, v, e⟩ := x; exact ⟨t, u, v, k _ _ (.inl rfl) e⟩
  | frz ob u ih => obtain ⟨e, q⟩ := x; exact ⟨k _ _ (.inl rfl) e, ih q⟩
  | tbl ps =>
    have e : h.get? a = some { cls := .none, data := .fields ps } := x
    show h'.get? a = some { cls := .none, data := .fields ps }
    exact k a _ (.inl rfl) e
  | met f y =>
    have e : h.get? a = some (PySem.W.methodObj (.ref f) (.ref y)) := x
    show h'.get? a = some (PySem.W.methodObj (.ref f) (.ref y))
    exact k a _ (.inl rfl) e
  | ext φ => obtain ⟨p, ⟨o, e⟩, st⟩ := x; exact ⟨st _ _ p fun o q => k _ _ (.inl rfl) q, ⟨o, k _ _ (.inl rfl) e⟩, st⟩
theorem HOk.lt (x : HOk P w H h) (e : H a = some o) : a < h.objs.size := (x a o e).lt
theorem HOk.fresh (x : HOk P w H h) (e : h.objs.size ≤ a) : H a = none := by
  cases q : H a with
  | none => rfl
  | some u => exact absurd (Nat.lt_of_lt_of_le (x.lt q) e) (Nat.lt_irrefl _)
/-- every object of the heap is kept -/
theorem HOk.kept (x : HOk P w H h) (k : ∀ b u, h.get? b = some u → h'.get? b = some u) : HOk P w H h' := fun a o e =>
  (x a o e).stay (fun b u _ q => k b u q) (fun _ q => q) fun _ _ q => q
/-- a new object is laid and tracked -/
theorem HOk.laid (x : HOk P w H h) (k : ∀ b u, h.get? b = some u → h'.get? b = some u) (hp : h.objs.size ≤ a) (new : ObjOk P w (upd H a o) h' a o) : HOk P w (upd H a o) h' := fun b u e => by
  have hn := x.fresh hp
  by_cases hb : b = a
  · subst hb; rw [upd_same] at e; cases e; exact new
  · rw [upd_ne hb] at e
    exact (x b u e).stay (fun c v _ q => k c v q) (fun c q => by rw [upd_ne (ne_of_none q hn)]; exact q) fun c xs q => by rw [upd_ne (ne_of_none q hn)]; exact q
end

/-- what may be read as u: it is u, or a known u -/
def Rd (H : Hp) (a : Addr) (u : HO) : Prop := H a = some u ∨ ∃ o, H a = some (.frz o u)
theorem Rd.ok {P : Program} {w : World} {H : Hp} {h : Heap} {a : Addr} {u : HO} (r : Rd H a u) (x : HOk P w H h) : ObjOk P w H h a u := by
  rcases r with r | ⟨o, r⟩
  · exact x a u r
  · obtain ⟨_, q⟩ := x a _ r
    exact q
/-- what may be written -/
def Mut : Option HO → Prop
  | some (.lst _) => True
  | some (.dK _) => True
  | some (.dT _) => True
  | some (.set _ _) => True
  | some (.ins _ _ _) => True
  | some (.ext _) => True
  | _ => False
section
variable {P : Program} {w : World} {H : Hp} {h h' : Heap} {x e : Addr} {o' : HO}
/-- the object at e is changed: x itself, or the dict of the instance x -/
theorem HOk.write (ok : HOk P w H h) (mu : Mut (H x)) (he : e = x ∨ H e = some (.own x)) (k : ∀ b u, b ≠ e → h.get? b = some u → h'.get? b = some u) (heo : ∃ u, h'.get? e = some u)
    (new : ObjOk P w (upd H x o') h' x o') : HOk P w (upd H x o') h' := fun b u q => by
  have nown : ∀ c y, H c = some (.own y) → c ≠ x := fun c y r z => by subst z; rw [r] at mu; exact mu
  have ntup : ∀ c xs, H c = some (.tup xs) → c ≠ x := fun c xs r z => by subst z; rw [r] at mu; exact mu
  by_cases hb : b = x
  · subst hb; rw [upd_same] at q; cases q; exact new
  · rw [upd_ne hb] at q
    by_cases hbe : b = e
    · have q' : H b = some (.own x) := by
        rcases he with z | z
        · exact absurd (hbe.trans z) hb
        · rw [hbe]; exact z
      rw [q] at q'; cases q'
      obtain ⟨v, hv⟩ := heo
      exact ⟨v, by rw [hbe]; exact hv⟩
    · refine (ok b u q).stay (fun c v hc r => k c v ?_ r) (fun c r => by rw [upd_ne (nown c b r)]; exact r) fun c xs r => by rw [upd_ne (ntup c xs r)]; exact r
      rcases hc with rfl | hc
      · exact hbe
      · rintro rfl
        rcases he with z | z
        · exact nown c b hc z
        · rw [hc] at z; cases z; exact hb rfl
end

/-! ### kept unless tracked; of the frames at fs (the callers') the slots may change (an exception that passes writes there); of the records at ex (iterators) nothing is said -/
structure Un (fs ex : List Addr) (H H' : Hp) (h h' : Heap) : Prop where
  keep : ∀ b o, h.get? b = some o → H b = none → b ∉ fs → b ∉ ex → h'.get? b = some o
  slot : ∀ b o, h.get? b = some o → H b = none → b ∈ fs → b ∉ ex → ∃ sl, h'.get? b = some { o with slots := sl }
  free : ∀ b o, h.get? b = some o → H b = none → b ∉ ex → H' b = none
  there : ∀ b o, h.get? b = some o → b ∉ ex → ∃ o', h'.get? b = some o'
  tups : ∀ b xs, H b = some (.tup xs) → H' b = some (.tup xs)
  frzs : ∀ b o u, H b = some (.frz o u) → H' b = some (.frz o u)
  tbls : ∀ b ps, H b = some (.tbl ps) → ∃ more, H' b = some (.tbl (ps ++ more))
section
variable {fs fs' ex ex' : List Addr} {H H1 H2 : Hp} {h h1 h2 h' : Heap} {a x e : Addr} {o : HO}
theorem Un.any (u : Un fs ex H H1 h h1) {b : Addr} {ob : Obj} (q : h.get? b = some ob) (n : H b = none) (hx : b ∉ ex) : ∃ sl, h1.get? b = some { ob with slots := sl } := by
  by_cases hb : b ∈ fs
  · exact u.slot b ob q n hb hx
  · exact ⟨ob.slots, u.keep b ob q n hb hx⟩
theorem Un.kept (k : ∀ b u, h.get? b = some u → h'.get? b = some u) : Un fs ex H H h h' :=
  ⟨fun b ob q _ _ _ => k b ob q, fun b ob q _ _ _ => ⟨ob.slots, k b ob q⟩, fun _ _ _ n _ => n, fun b ob q _ => ⟨ob, k b ob q⟩, fun _ _ q => q, fun _ _ _ q => q, fun _ ps q => ⟨#[], by rw [q]; simp⟩⟩
theorem Un.refl : Un fs ex H H h h := Un.kept fun _ _ q => q
theorem Un.laid (k : ∀ b u, h.get? b = some u → h'.get? b = some u) (hp : h.objs.size ≤ a) (hn : H a = none) : Un fs ex H (upd H a o) h h' where
  keep := fun b u q _ _ _ => k b u q
  slot := fun b u q _ _ _ => ⟨u.slots, k b u q⟩
  free := fun b u q n _ => by rw [upd_ne (Nat.ne_of_lt (Nat.lt_of_lt_of_le (Heap.lt_size q) hp))]; exact n
  there := fun b u q _ => ⟨u, k b u q⟩
  tups := fun b xs q => by rw [upd_ne (ne_of_none q hn)]; exact q
  frzs := fun b u xs q => by rw [upd_ne (ne_of_none q hn)]; exact q
  tbls := fun b ps q => ⟨#[], by rw [upd_ne (ne_of_none q hn), q]; simp⟩
theorem Un.write (mu : Mut (H x)) (he : e = x ∨ H e = some (.own x)) (k : ∀ b u, b ≠ e → h.get? b = some u → h'.get? b = some u) (heo : ∃ u, h'.get? e = some u) : Un fs ex H (upd H x o) h h' := by
  have hx : ∀ b, H b = none → b ≠ x := fun b n z => by subst z; rw [n] at mu; exact mu
  have hb : ∀ b, H b = none → b ≠ e := fun b n z => by
    subst z
    rcases he with r | r
    · exact hx b n r
    · rw [n] at r; cases r
  have hm : ∀ b u, H b = some u → ¬ Mut (some u) → b ≠ x := fun b u q nm z => by subst z; rw [q] at mu; exact nm mu
  refine ⟨fun b u q n _ _ => k b u (hb b n) q, fun b u q n _ _ => ⟨u.slots, k b u (hb b n) q⟩, fun b u q n _ => by rw [upd_ne (hx b n)]; exact n, fun b u q _ => ?_,
    fun b xs q => by rw [upd_ne (hm b _ q fun z => z)]; exact q, fun b u xs q => by rw [upd_ne (hm b _ q fun z => z)]; exact q, fun b ps q => ⟨#[], by rw [upd_ne (hm b _ q fun z => z), q]; simp⟩⟩
  by_cases hbe : b = e
  · subst hbe; exact heo
  · exact ⟨u, k b u hbe q⟩
end

/-! ### the heap without what is tracked -/
def trk (h : Heap) (H : Hp) : List Addr := (List.range h.objs.size).filter fun a => (H a).isSome
def hidT (h : Heap) (H : Hp) : Heap := PySem.W.hideAll h (trk h H)
theorem hidT_size (h : Heap) (H : Hp) : (hidT h H).objs.size = h.objs.size := PySem.W.hideAll_size _ _
theorem hidT_get {h : Heap} {H : Hp} {b : Addr} {o : Obj} (e : h.get? b = some o) (n : H b = none) : (hidT h H).get? b = some o :=
  PySem.W.hideAll_get _ e fun hm => by
    have q : (H b).isSome = true := (List.mem_filter.mp hm).2
    rw [n] at q; simp at q
theorem of_hidT {h : Heap} {H : Hp} {b : Addr} {o : Obj} (e : (hidT h H).get? b = some o) : h.get? b = some o ∧ H b = none := by
  have e' : h.get? b = some o := PySem.W.of_hideAll (trk h H) e
  refine ⟨e', ?_⟩
  cases q : H b with
  | none => rfl
  | some x =>
    have hm : b ∈ trk h H := List.mem_filter.mpr ⟨List.mem_range.mpr (Heap.lt_size e'), by simp [q]⟩
    have z : (hidT h H).get? b = none := PySem.W.hideAll_none (trk h H) hm
    rw [z] at e; cases e

/-! ### OpenK's ledger, filled with every new object but one -/
end L2

namespace L2
open PySem PySem.Spec PyProof.Rows

/-- the module's facts, over the base: the heap at the law's entry without what is tracked there -/
structure Mod (K : PySem.W.Frag) (mg : Str → Option Value) (base : Heap) : Prop where
  kin : K.In base
  glob : base.Ns mainGlobals mg
  blt : ∃ mb, base.Ns builtinsNs mb ∧ ∀ x : Str, x ≠ "__name__" → mb x = bootBuiltins x
  nolimit : base.NoLimit

/-- the context: a def's body (or a comprehension's block) running. base: fixed through the whole law; s₀, H₀: the entry; outer: the frames whose slots others may change (a def's callers); stack: all frames that run;
   ex: iterators that were made ahead of the entry and are walked here (a comprehension's); fn: the names whose cells were made at the entry (a def: all; a comprehension's block: its own); calm: not within an except suite; pn: pins that every state bears; xe: what is wanted of an exception that leaves the code -/
structure Cx where
  prog : Program
  w : World
  K : PySem.W.Frag
  mg : Str → Option Value
  base : Heap
  A : Around
  N : List Str
  s₀ : Shared
  H₀ : Hp
  env : Env
  outer : List Env
  stack : List Env
  ex : List Addr
  fn : Str → Bool
  calm : Bool
  pn : List (Addr × Obj)
  xe : Value → Shared → Prop
/-- the callers' frames -/
def frs (l : List Env) : List Addr := l.filterMap (·.frame)
abbrev Cx.fs (X : Cx) : List Addr := frs X.outer

def Vis (sc : Scope) (x : Str) : Prop := sc.names.lookup x = some .local ∨ sc.names.lookup x = some .cell ∨ sc.names.lookup x = some .free
def Loc (sc : Scope) (x : Str) : Prop := sc.names.lookup x = some .local ∨ sc.names.lookup x = some .cell
def Look (env : Env) (h : Heap) (m : Str → Option Value) (x : Str) (u : Value) : Prop :=
  (env.kindOf x = some .local ∧ m x = some u) ∨ ((env.kindOf x = some .cell ∨ env.kindOf x = some .free) ∧ ∃ c, env.cells.lookup x = some c ∧ h.IsCell c (some u))

structure Cx.Ok (X : Cx) : Prop where
  mod : Mod X.K X.mg X.base
  kind : X.env.scope.kind = .function
  glob : X.env.globals = mainGlobals
  blt : X.env.builtins = builtinsNs
  above : X.s₀.heap.objs.size ≤ X.env.locals
  inj : ∀ x y c, X.env.cells.lookup x = some c → X.env.cells.lookup y = some c → x = y
  has : ∀ x, (X.env.kindOf x = some .cell ∨ X.env.kindOf x = some .free) → ∃ c, X.env.cells.lookup x = some c
  cab : ∀ x c, X.fn x = true → X.env.cells.lookup x = some c → X.s₀.heap.objs.size ≤ c
  hd : X.calm = true → X.A.handled = none
  frames : X.A.frames = some X.stack
  stk : X.stack = X.outer ∨ (X.stack = X.env :: X.outer ∧ X.env.frame = some X.env.locals)
  exf : ∀ b ∈ X.ex, b ≠ X.env.locals ∧ ∀ x c, X.env.cells.lookup x = some c → c ≠ b
  bs : ∀ b o, X.base.get? b = some o → X.s₀.heap.get? b = some o ∧ X.H₀ b = none
  bsz : X.base.objs.size ≤ X.s₀.heap.objs.size
  noex : ∀ b o, X.base.get? b = some o → b ∉ X.ex
  exfs : ∀ b ∈ X.ex, b ∉ X.fs
  funs : X.s₀.heap.FunFrames X.base X.outer
  frf : ∀ b ∈ X.fs, X.H₀ b = none

structure Inv (X : Cx) (pins : List (Addr × Obj)) (σ : List (Option V)) (H : Hp) (s : Shared) : Prop where
  ok : X.Ok
  os : s.os = X.s₀.os
  bare : AllBare s.gens
  base : Un X.fs X.ex X.H₀ H X.s₀.heap s.heap
  loc : ∃ m, s.heap.Ns X.env.locals m ∧ ∀ (i : Nat) (x : Str) (v : V), X.N[i]? = some x → σ[i]? = some (some v) → Vis X.env.scope x → ∃ u, RelV v u ∧ Look X.env s.heap m x u
  cell : ∀ x c, X.env.cells.lookup x = some c → ∃ v, s.heap.IsCell c v
  free : H X.env.locals = none
  freeC : ∀ x c, X.env.cells.lookup x = some c → H c = none
  pin : ∀ p ∈ X.pn ++ pins, s.heap.get? p.1 = some p.2 ∧ H p.1 = none ∧ p.1 ≠ X.env.locals ∧ p.1 ∉ X.fs ∧ ∀ v, p.2.data ≠ .cell v
  hok : HOk X.prog X.w H s.heap
  len : σ.length = X.N.length

section
variable {X : Cx} {pins : List (Addr × Obj)} {σ : List (Option V)} {H H' : Hp} {s : Shared} {h' : Heap}

theorem Cx.Ok.nofr (ok : X.Ok) {b : Addr} {o : Obj} (e : X.base.get? b = some o) : b ∉ X.fs := fun hb => by
  have := (ok.funs.mem hb).1
  rw [e] at this; cases this
theorem Inv.bs (I : Inv X pins σ H s) : ∀ b o, X.base.get? b = some o → s.heap.get? b = some o ∧ H b = none := fun b o e =>
  ⟨I.base.keep b o (I.ok.bs b o e).1 (I.ok.bs b o e).2 (I.ok.nofr e) (I.ok.noex b o e), I.base.free b o (I.ok.bs b o e).1 (I.ok.bs b o e).2 (I.ok.noex b o e)⟩
theorem Inv.bk (I : Inv X pins σ H s) : ∀ b o, X.base.get? b = some o → s.heap.get? b = some o := fun b o e => (I.bs b o e).1
theorem Inv.mod (I : Inv X pins σ H s) : Mod X.K X.mg X.base := I.ok.mod
theorem Inv.kIn (I : Inv X pins σ H s) : X.K.In s.heap := I.ok.mod.kin.keeps I.bk
theorem Inv.lt (I : Inv X pins σ H s) : X.env.locals < s.heap.objs.size := let ⟨_, hn, _⟩ := I.loc; hn.lt
theorem Inv.sz (I : Inv X pins σ H s) : X.s₀.heap.objs.size ≤ s.heap.objs.size := Nat.le_trans I.ok.above (Nat.le_of_lt I.lt)
theorem Inv.nofs (I : Inv X pins σ H s) {a : Addr} (h : s.heap.objs.size ≤ a) : a ∉ X.fs := fun hb => by
  obtain ⟨_, o, ho, _⟩ := I.ok.funs.mem hb
  exact absurd (Nat.lt_of_lt_of_le (Heap.lt_size ho) (Nat.le_trans I.sz h)) (Nat.lt_irrefl _)
theorem Inv.cne (I : Inv X pins σ H s) : ∀ x c, X.env.cells.lookup x = some c → c ≠ X.env.locals := fun x c e z => by
  obtain ⟨v, o, ho, hd⟩ := I.cell x c e
  obtain ⟨m, ⟨o', es, ep, ho', hd', _⟩, _⟩ := I.loc
  rw [z, ho'] at ho; cases ho; rw [hd'] at hd; cases hd
theorem Inv.funs (I : Inv X pins σ H s) : s.heap.FunFrames X.base X.outer := by
  have all : ∀ (l : List Env), (∀ b ∈ frs l, b ∈ X.fs) → X.s₀.heap.FunFrames X.base l → s.heap.FunFrames X.base l := by
    intro l
    induction l with
    | nil => intro _ _; trivial
    | cons env r ih =>
      intro hs hl
      obtain ⟨hk, ⟨L, o, hf, hn, ho, hd⟩, hr⟩ := hl
      have hL : L ∈ X.fs := hs L (by unfold frs; rw [List.filterMap_cons, hf]; exact List.mem_cons_self)
      obtain ⟨sl, e⟩ := I.base.slot L o ho (I.ok.frf L hL) hL fun z => I.ok.exfs L z hL
      exact ⟨hk, ⟨L, _, hf, hn, e, hd⟩, ih (fun b hb => hs b (by unfold frs; rw [List.filterMap_cons, hf]; exact List.mem_cons_of_mem _ hb)) hr⟩
  exact all X.outer (fun _ hb => hb) I.ok.funs

/-- the frames that run, for a call -/
theorem Inv.stack (I : Inv X pins σ H s) : s.heap.FunFrames X.base X.stack := by
  rcases I.ok.stk with e | ⟨e, hf⟩
  · rw [e]; exact I.funs
  · rw [e]
    obtain ⟨m, hn, _⟩ := I.loc
    refine .cons (by rw [I.ok.kind]; decide) hf hn ?_ I.funs
    exact Heap.get?_none_of_le (Nat.le_trans I.ok.bsz I.ok.above)
theorem Inv.stkSub (I : Inv X pins σ H s) : ∀ b ∈ frs X.stack, b ∈ X.env.locals :: X.fs := fun b hb => by
  rcases I.ok.stk with e | ⟨e, hf⟩
  · rw [e] at hb; exact List.mem_cons_of_mem _ hb
  · rw [e] at hb
    unfold frs at hb
    rw [List.filterMap_cons, hf] at hb
    exact hb
theorem Inv.stkFree (I : Inv X pins σ H s) : ∀ b ∈ frs X.stack, H b = none := fun b hb => by
  rcases List.mem_cons.mp (I.stkSub b hb) with e | hb
  · rw [e]; exact I.free
  · obtain ⟨_, o, ho, _⟩ := I.ok.funs.mem hb
    exact I.base.free b o ho (I.ok.frf b hb) fun z => I.ok.exfs b z hb

/-- THE STEP: the untracked objects but the frame and the records at ch are kept (the callers' frames up to slots), the frame's map is kept, the new abstract heap is held -/
theorem Inv.step {g' : Array GenState} {t' : Nat} {d' : Drawn} {ch : List Addr} (I : Inv X pins σ H s)
    (hch : ∀ b ∈ ch, (b ∈ X.ex ∨ X.s₀.heap.objs.size ≤ b) ∧ b ≠ X.env.locals ∧ (∀ x c, X.env.cells.lookup x = some c → c ≠ b) ∧ ∀ p ∈ X.pn ++ pins, p.1 ≠ b)
    (keep : ∀ b o, b ≠ X.env.locals → b ∉ X.fs → b ∉ ch → s.heap.get? b = some o → H b = none → h'.get? b = some o)
    (slot : ∀ b o, b ≠ X.env.locals → b ∈ X.fs → b ∉ ch → s.heap.get? b = some o → H b = none → ∃ sl, h'.get? b = some { o with slots := sl }) (free : ∀ b o, b ∉ ch → s.heap.get? b = some o → H b = none → H' b = none)
    (there : ∀ b o, b ∉ ch → s.heap.get? b = some o → ∃ o', h'.get? b = some o')
    (tups : ∀ b xs, H b = some (.tup xs) → H' b = some (.tup xs)) (frzs : ∀ b o u, H b = some (.frz o u) → H' b = some (.frz o u)) (tbls : ∀ b ps, H b = some (.tbl ps) → ∃ more, H' b = some (.tbl (ps ++ more)))
    (ns : ∀ m, s.heap.Ns X.env.locals m → h'.Ns X.env.locals m) (hok : HOk X.prog X.w H' h') (hg : AllBare g') :
    Inv X pins σ H' { s with heap := h', gens := g', drawn := d', toks := t' } := by
  have neL : ∀ b o, X.s₀.heap.get? b = some o → b ≠ X.env.locals := fun b o e => Nat.ne_of_lt (Nat.lt_of_lt_of_le (Heap.lt_size e) I.ok.above)
  have neC : ∀ b o, X.s₀.heap.get? b = some o → b ∉ X.ex → b ∉ ch := fun b o e hx hb => by
    rcases (hch b hb).1 with z | z
    · exact hx z
    · exact absurd (Nat.lt_of_lt_of_le (Heap.lt_size e) z) (Nat.lt_irrefl _)
  have cellK : ∀ x c, X.env.cells.lookup x = some c → ∀ v, s.heap.IsCell c v → h'.IsCell c v := fun x c e v ⟨o, ho, hd⟩ => by
    have nch : c ∉ ch := fun z => (hch c z).2.2.1 x c e rfl
    by_cases hc : c ∈ X.fs
    · obtain ⟨sl, q⟩ := slot c o (I.cne x c e) hc nch ho (I.freeC x c e)
      exact ⟨_, q, hd⟩
    · exact ⟨o, keep c o (I.cne x c e) hc nch ho (I.freeC x c e), hd⟩
  refine ⟨I.ok, I.os, hg, ⟨fun b o e n hb hx => ?_, fun b o e n hb hx => ?_, fun b o e n hx => ?_, fun b o e hx => ?_, fun b xs e => tups b xs (I.base.tups b xs e), fun b o xs e => frzs b o xs (I.base.frzs b o xs e), fun b ps e => ?_⟩, ?_, fun x c e => ?_, ?_, fun x c e => ?_, fun p hp => ?_, hok, I.len⟩
  · exact keep b o (neL b o e) hb (neC b o e hx) (I.base.keep b o e n hb hx) (I.base.free b o e n hx)
  · obtain ⟨sl, e1⟩ := I.base.slot b o e n hb hx
    obtain ⟨sl', e2⟩ := slot b _ (neL b o e) hb (neC b o e hx) e1 (I.base.free b o e n hx)
    exact ⟨sl', e2⟩
  · obtain ⟨o', e1⟩ := I.base.there b o e hx
    exact free b o' (neC b o e hx) e1 (I.base.free b o e n hx)
  · obtain ⟨o', e1⟩ := I.base.there b o e hx
    exact there b o' (neC b o e hx) e1
  · obtain ⟨m1, e1⟩ := I.base.tbls b ps e
    obtain ⟨m2, e2⟩ := tbls b _ e1
    exact ⟨m1 ++ m2, by rw [e2, Array.append_assoc]⟩
  · obtain ⟨m, hn, hl⟩ := I.loc
    refine ⟨m, ns m hn, fun i x v e1 e2 e3 => ?_⟩
    obtain ⟨u, r, l⟩ := hl i x v e1 e2 e3
    refine ⟨u, r, ?_⟩
    rcases l with l | ⟨k, c, e, z⟩
    · exact .inl l
    · exact .inr ⟨k, c, e, cellK x c e _ z⟩
  · obtain ⟨v, z⟩ := I.cell x c e
    exact ⟨v, cellK x c e v z⟩
  · obtain ⟨m, ⟨o, _, _, ho, _⟩, _⟩ := I.loc
    exact free _ o (fun z => (hch _ z).2.1 rfl) ho I.free
  · obtain ⟨v, o, ho, hd⟩ := I.cell x c e
    exact free c o (fun z => (hch c z).2.2.1 x c e rfl) ho (I.freeC x c e)
  · obtain ⟨e, n, ne, nf, d⟩ := I.pin p hp
    have nch : p.1 ∉ ch := fun z => (hch p.1 z).2.2.2 p hp rfl
    exact ⟨keep p.1 p.2 ne nf nch e n, free p.1 p.2 nch e n, ne, nf, d⟩
/-- .. where the frame's own object is kept too -/
theorem Inv.un {t' : Nat} (I : Inv X pins σ H s) (u : Un X.fs [] H H' s.heap h') (hok : HOk X.prog X.w H' h') : Inv X pins σ H' { s with heap := h', toks := t' } := by
  obtain ⟨m, ⟨o, es, ep, ho, r⟩, _⟩ := id I.loc
  obtain ⟨sl, hL⟩ := u.any ho I.free (by simp)
  exact I.step (g' := s.gens) (d' := s.drawn) (ch := []) (fun _ z => nomatch z) (fun b o _ hb _ e n => u.keep b o e n hb (by simp)) (fun b o _ hb _ e n => u.slot b o e n hb (by simp)) (fun b o _ e n => u.free b o e n (by simp)) (fun b o _ e => u.there b o e (by simp)) u.tups u.frzs u.tbls (fun m' hm => by
    obtain ⟨o', es', ep', ho', r'⟩ := hm
    rw [ho] at ho'; cases ho'
    exact ⟨_, es', ep', hL, r'⟩) hok I.bare
/-- behind a call (or a comprehension's block): the slots of this frame may have changed too, the records at ch may have turned -/
theorem Inv.call {g' : Array GenState} {t' : Nat} {d' : Drawn} {ch : List Addr} (I : Inv X pins σ H s) (u : Un (frs X.stack) ch H H' s.heap h') (hok : HOk X.prog X.w H' h') (hg : AllBare g')
    (hch : ∀ b ∈ ch, (b ∈ X.ex ∨ X.s₀.heap.objs.size ≤ b) ∧ b ≠ X.env.locals ∧ (∀ x c, X.env.cells.lookup x = some c → c ≠ b) ∧ ∀ p ∈ X.pn ++ pins, p.1 ≠ b) :
    Inv X pins σ H' { s with heap := h', gens := g', drawn := d', toks := t' } := by
  obtain ⟨m, ⟨o, es, ep, ho, r⟩, _⟩ := id I.loc
  obtain ⟨sl, hL⟩ := u.any ho I.free fun z => (hch _ z).2.1 rfl
  exact I.step (ch := ch) hch (fun b o hL hb hc e n => u.keep b o e n (fun z => (List.mem_cons.mp (I.stkSub b z)).elim hL hb) hc) (fun b o _ _ hc e n => u.any e n hc) (fun b o hc e n => u.free b o e n hc) (fun b o hc e => u.there b o e hc) u.tups u.frzs u.tbls (fun m' hm => by
    obtain ⟨o', es', ep', ho', r'⟩ := hm
    rw [ho] at ho'; cases ho'
    exact ⟨_, es', ep', hL, r'⟩) hok hg
/-- an untracked record of ours (an iterator) has turned -/
theorem Inv.turned {t' : Nat} {it : Addr} (I : Inv X pins σ H s) (k : ∀ b o, b ≠ it → s.heap.get? b = some o → h'.get? b = some o) (hn : H it = none) (hL : it ≠ X.env.locals)
    (h1 : it ∈ X.ex ∨ X.s₀.heap.objs.size ≤ it) (h2 : ∀ x c, X.env.cells.lookup x = some c → c ≠ it) (h3 : ∀ p ∈ X.pn ++ pins, p.1 ≠ it) : Inv X pins σ H { s with heap := h', toks := t' } := by
  have nit : ∀ b u, H b = some u → b ≠ it := fun b u e z => by rw [z, hn] at e; cases e
  refine I.step (g' := s.gens) (d' := s.drawn) (ch := [it]) (fun b hb => ?_) (fun b o _ _ hc e _ => k b o (fun z => hc (by simp [z])) e) (fun b o _ _ hc e _ => ⟨o.slots, k b o (fun z => hc (by simp [z])) e⟩) (fun _ _ _ _ n => n)
    (fun b o hc e => ⟨o, k b o (fun z => hc (by simp [z])) e⟩) (fun _ _ e => e) (fun _ _ _ e => e) (fun b ps e => ⟨#[], by rw [e]; simp⟩) (fun m hm => ?_) (fun b u e => ?_) I.bare
  · have e : b = it := by simpa using hb
    subst e
    exact ⟨h1, hL, h2, h3⟩
  · obtain ⟨o, es, ep, ho, r⟩ := hm
    exact ⟨o, es, ep, k _ o (Ne.symm hL) ho, r⟩
  · refine (I.hok b u e).stay (fun c v hc q => k c v ?_ q) (fun _ q => q) fun _ _ q => q
    rcases hc with z | z
    · rw [z]; exact nit b u e
    · exact nit c _ z
theorem Inv.tok (I : Inv X pins σ H s) (t : Nat) : Inv X pins σ H { s with toks := t } := I.un (h' := s.heap) (t' := t) Un.refl I.hok
/-- all objects kept -/
theorem Inv.kept {t' : Nat} (I : Inv X pins σ H s) (k : ∀ b u, s.heap.get? b = some u → h'.get? b = some u) : Inv X pins σ H { s with heap := h', toks := t' } := I.un (Un.kept k) (I.hok.kept k)
/-- a new object laid and tracked -/
theorem Inv.laid {a : Addr} {o : HO} {t' : Nat} (I : Inv X pins σ H s) (k : ∀ b u, s.heap.get? b = some u → h'.get? b = some u) (hp : s.heap.objs.size ≤ a) (new : ObjOk X.prog X.w (upd H a o) h' a o) :
    Inv X pins σ (upd H a o) { s with heap := h', toks := t' } := I.un (Un.laid k hp (I.hok.fresh hp)) (I.hok.laid k hp new)
/-- an object written -/
theorem Inv.write {x e : Addr} {o : HO} {t' : Nat} (I : Inv X pins σ H s) (mu : Mut (H x)) (he : e = x ∨ H e = some (.own x)) (k : ∀ b u, b ≠ e → s.heap.get? b = some u → h'.get? b = some u) (heo : ∃ u, h'.get? e = some u)
    (new : ObjOk X.prog X.w (upd H x o) h' x o) : Inv X pins σ (upd H x o) { s with heap := h', toks := t' } := I.un (Un.write mu he k heo) (I.hok.write mu he k heo new)
theorem Inv.pins_of {pins' : List (Addr × Obj)} (I : Inv X pins σ H s) (h : ∀ p ∈ pins', s.heap.get? p.1 = some p.2 ∧ H p.1 = none ∧ p.1 ≠ X.env.locals ∧ p.1 ∉ X.fs ∧ ∀ v, p.2.data ≠ .cell v) : Inv X pins' σ H s :=
  ⟨I.ok, I.os, I.bare, I.base, I.loc, I.cell, I.free, I.freeC, fun p hp => (List.mem_append.mp hp).elim (fun z => I.pin p (List.mem_append_left _ z)) (h p), I.hok, I.len⟩

theorem nodup_ix {N : List Str} (hN : N.Nodup) {i j : Nat} {x : Str} (a : N[i]? = some x) (b : N[j]? = some x) : i = j := by
  obtain ⟨h1, e1⟩ := List.getElem?_eq_some_iff.mp a
  obtain ⟨h2, e2⟩ := List.getElem?_eq_some_iff.mp b
  exact (List.getElem_inj hN).mp (e1.trans e2.symm)

/-- a name is stored; what changed -/
theorem store_ok2 {M : Model} {A : Around} {E : Value → Shared → Prop} {i : Nat} {x : Str} {v : V} {u : Value} {Q : Unit → Shared → Prop} (I : Inv X pins σ H s) (hN : X.N.Nodup) (hi : X.N[i]? = some x) (hx : Loc X.env.scope x) (r : RelV v u)
    (h : ∀ s', Inv X pins (σ.set i (some v)) H s' → (∃ a, Heap.SameBut a s.heap s'.heap ∧ (a = X.env.locals ∨ X.env.cells.lookup x = some a)) → Q () s') (hf : X.fn x = true ∨ X.env.scope.names.lookup x = some .local := by first | exact .inl rfl | exact .inr rfl | assumption) : wpAny M A (storeName X.env x u) Q E s := by
  obtain ⟨m, hn, hl⟩ := id I.loc
  have hcls : (X.env.scope.kind == .class || (X.env.scope.kind == .module && X.env.locals != X.env.globals)) = false := by rw [I.ok.kind]; rfl
  have hiσ : i < σ.length := by rw [I.len]; exact (List.getElem?_eq_some_iff.mp hi).1
  have cne := I.cne
  have tracked : ∀ {a : Addr} {h' : Heap}, (∃ o, s.heap.get? a = some o ∧ H a = none) → Heap.SameBut a s.heap h' → HOk X.prog X.w H h' := fun {a h'} ha hs b ob e => by
    obtain ⟨_, _, hfree⟩ := ha
    refine (I.hok b ob e).stay (fun c w' hc q => (hs.2 c ?_).trans q) (fun _ q => q) fun _ _ q => q
    rintro rfl
    rcases hc with rfl | hc
    · rw [hfree] at e; cases e
    · rw [hfree] at hc; cases hc
  rcases hx with hk | hk
  · refine wpAny_storeName_local hk hn (fun h' hn' hs => ?_) hcls
    obtain ⟨oL, _, _, hoL, _⟩ := id hn
    refine h _ ⟨I.ok, I.os, I.bare, ⟨fun b o e n hb hx => ?_, fun b o e n hb hx => ?_, I.base.free, fun b o e hx => ?_, I.base.tups, I.base.frzs, I.base.tbls⟩, ⟨_, hn', fun j y v' e1 e2 e3 => ?_⟩, fun y c e => ?_, I.free, I.freeC, fun p hp => ?_, tracked ⟨oL, hoL, I.free⟩ hs, by simpa using I.len⟩ ⟨_, hs, .inl rfl⟩
    · exact (hs.2 b (Nat.ne_of_lt (Nat.lt_of_lt_of_le (Heap.lt_size e) I.ok.above))).trans (I.base.keep b o e n hb hx)
    · obtain ⟨sl, e1⟩ := I.base.slot b o e n hb hx
      exact ⟨sl, (hs.2 b (Nat.ne_of_lt (Nat.lt_of_lt_of_le (Heap.lt_size e) I.ok.above))).trans e1⟩
    · obtain ⟨o', e1⟩ := I.base.there b o e hx
      exact ⟨o', (hs.2 b (Nat.ne_of_lt (Nat.lt_of_lt_of_le (Heap.lt_size e) I.ok.above))).trans e1⟩
    · by_cases hj : j = i
      · subst hj
        rw [hi] at e1; cases e1
        rw [List.getElem?_set_self hiσ] at e2
        cases e2
        exact ⟨u, r, .inl ⟨hk, by simp⟩⟩
      · rw [List.getElem?_set_ne (Ne.symm hj)] at e2
        obtain ⟨u', r', q⟩ := hl j y v' e1 e2 e3
        refine ⟨u', r', ?_⟩
        rcases q with ⟨k, e⟩ | ⟨k, c, e, z⟩
        · refine .inl ⟨k, ?_⟩
          have : y ≠ x := fun e => hj (nodup_ix hN e1 (e ▸ hi))
          simp [this, e]
        · exact .inr ⟨k, c, e, z.sameBut hs (cne y c e)⟩
    · obtain ⟨w', z⟩ := I.cell y c e
      exact ⟨w', z.sameBut hs (cne y c e)⟩
    · obtain ⟨e, n, ne, nf, d⟩ := I.pin p hp
      exact ⟨(hs.2 p.1 ne).trans e, n, ne, nf, d⟩
  · have hfn : X.fn x = true := by
      rcases hf with z | z
      · exact z
      · rw [z] at hk; cases hk
    obtain ⟨c, hc⟩ := I.ok.has x (.inl hk)
    obtain ⟨w', z⟩ := I.cell x c hc
    refine wpAny_storeName_cell I.ok.kind hk hc z (fun h' hc' hs => ?_)
    obtain ⟨oc, hoc, hocd⟩ := id z
    refine h { s with heap := h' } ⟨I.ok, I.os, I.bare, ⟨fun b o e n hb hx => ?_, fun b o e n hb hx => ?_, I.base.free, fun b o e hx => ?_, I.base.tups, I.base.frzs, I.base.tbls⟩, ⟨m, hn.sameBut hs (Ne.symm (cne x c hc)), fun j y v' e1 e2 e3 => ?_⟩, fun y c' e => ?_, I.free, I.freeC, fun p hp => ?_, tracked ⟨oc, hoc, I.freeC x c hc⟩ hs, by simpa using I.len⟩ ⟨c, hs, .inr hc⟩
    · exact (hs.2 b (Nat.ne_of_lt (Nat.lt_of_lt_of_le (Heap.lt_size e) (I.ok.cab x c hfn hc)))).trans (I.base.keep b o e n hb hx)
    · obtain ⟨sl, e1⟩ := I.base.slot b o e n hb hx
      exact ⟨sl, (hs.2 b (Nat.ne_of_lt (Nat.lt_of_lt_of_le (Heap.lt_size e) (I.ok.cab x c hfn hc)))).trans e1⟩
    · obtain ⟨o', e1⟩ := I.base.there b o e hx
      exact ⟨o', (hs.2 b (Nat.ne_of_lt (Nat.lt_of_lt_of_le (Heap.lt_size e) (I.ok.cab x c hfn hc)))).trans e1⟩
    · by_cases hj : j = i
      · subst hj
        rw [hi] at e1; cases e1
        rw [List.getElem?_set_self hiσ] at e2
        cases e2
        exact ⟨u, r, .inr ⟨.inl hk, c, hc, hc'⟩⟩
      · rw [List.getElem?_set_ne (Ne.symm hj)] at e2
        obtain ⟨u', r', q⟩ := hl j y v' e1 e2 e3
        refine ⟨u', r', ?_⟩
        rcases q with q | ⟨k, c', e, z'⟩
        · exact .inl q
        · refine .inr ⟨k, c', e, z'.sameBut hs ?_⟩
          rintro rfl
          exact hj (nodup_ix hN e1 (I.ok.inj _ _ _ e hc ▸ hi))
    · by_cases hcc : c' = c
      · subst hcc; exact ⟨_, hc'⟩
      · obtain ⟨w2, z2⟩ := I.cell y c' e
        exact ⟨w2, z2.sameBut hs hcc⟩
    · obtain ⟨e, n, ne, nf, d⟩ := I.pin p hp
      refine ⟨(hs.2 p.1 ?_).trans e, n, ne, nf, d⟩
      intro q
      rw [q, hoc] at e
      have q' : oc = p.2 := Option.some.inj e
      exact d w' (by rw [← q']; exact hocd)
theorem store_ok {M : Model} {A : Around} {E : Value → Shared → Prop} {i : Nat} {x : Str} {v : V} {u : Value} {Q : Unit → Shared → Prop} (I : Inv X pins σ H s) (hN : X.N.Nodup) (hi : X.N[i]? = some x) (hx : Loc X.env.scope x) (r : RelV v u)
    (h : ∀ s', Inv X pins (σ.set i (some v)) H s' → Q () s') (hf : X.fn x = true ∨ X.env.scope.names.lookup x = some .local := by first | exact .inl rfl | exact .inr rfl | assumption) : wpAny M A (storeName X.env x u) Q E s :=
  store_ok2 I hN hi hx r (fun s' I' _ => h s' I') hf
/-- behind a call or a block, the state as it is -/
theorem Inv.call' {s' : Shared} {ch : List Addr} (I : Inv X pins σ H s) (ho : s'.os = s.os) (u : Un (frs X.stack) ch H H' s.heap s'.heap) (hok : HOk X.prog X.w H' s'.heap) (hg : AllBare s'.gens)
    (hch : ∀ b ∈ ch, (b ∈ X.ex ∨ X.s₀.heap.objs.size ≤ b) ∧ b ≠ X.env.locals ∧ (∀ x c, X.env.cells.lookup x = some c → c ≠ b) ∧ ∀ p ∈ X.pn ++ pins, p.1 ≠ b) : Inv X pins σ H' s' := by
  obtain ⟨h', g', d', t', o'⟩ := s'
  have e : o' = s.os := ho
  subst e
  exact I.call (g' := g') (t' := t') (d' := d') u hok hg hch
end

/-! ### the judgements -/
/-- an exception: its class, its own dict's address (where it has one), the abstract heap behind it -/
abbrev XK := Value → Option Addr → Hp → Prop
abbrev St := List (Option V)
abbrev VK := V → Hp → Prop
/-- an expression's reading; a test's; an argument list's -/
abbrev TE := St → Hp → VK → Prop
abbrev TT := St → Hp → (Bool → Hp → Prop) → Prop
abbrev TA := St → Hp → (List V → Hp → Prop) → Prop
/-- what is wanted behind a statement -/
structure Ends where
  nx : St → Hp → Prop
  rt : VK
  bk : St → Hp → Prop := fun _ _ => False
  ct : St → Hp → Prop := fun _ _ => False
abbrev TS := Ends → St → Hp → Prop

def EP (X : Cx) (pins : List (Addr × Obj)) (σ : St) (Q : VK) (u : Value) (s' : Shared) : Prop := ∃ v H', Inv X pins σ H' s' ∧ RelV v u ∧ Q v H'
def TP (X : Cx) (pins : List (Addr × Obj)) (σ : St) (Q : Bool → Hp → Prop) (b : Bool) (s' : Shared) : Prop := ∃ H', Inv X pins σ H' s' ∧ Q b H'
def AP (X : Cx) (pins : List (Addr × Obj)) (σ : St) (Q : List V → Hp → Prop) (us : List Value) (s' : Shared) : Prop := ∃ vs H', Inv X pins σ H' s' ∧ Vals vs us ∧ Q vs H'
def SP (X : Cx) (pins : List (Addr × Obj)) (D : Ends) (f : Flow) (s' : Shared) : Prop :=
  match f with
  | .next => ∃ σ' H', Inv X pins σ' H' s' ∧ D.nx σ' H'
  | .brk => ∃ σ' H', Inv X pins σ' H' s' ∧ D.bk σ' H'
  | .cont => ∃ σ' H', Inv X pins σ' H' s' ∧ D.ct σ' H'
  | .ret u => ∃ v σ' H', Inv X pins σ' H' s' ∧ RelV v u ∧ D.rt v H'

def PE (X : Cx) (e : Expr) (t : TE) : Prop :=
  ∀ (pins : List (Addr × Obj)) (s : Shared) (σ : St) (H : Hp) (Q : VK), Inv X pins σ H s → t σ H Q → wpAny (model X.prog X.w) X.A (eval e X.env) (EP X pins σ Q) X.xe s
def PT (X : Cx) (e : Expr) (t : TT) : Prop :=
  ∀ (pins : List (Addr × Obj)) (s : Shared) (σ : St) (H : Hp) (Q : Bool → Hp → Prop), Inv X pins σ H s → t σ H Q → wpAny (model X.prog X.w) X.A (isTrue e X.env (eval e X.env)) (TP X pins σ Q) X.xe s
/-- a test whatever its 'whole' is (and, or) -/
def PW (X : Cx) (e : Expr) (t : TT) : Prop :=
  ∀ (whole : Sem Value) (pins : List (Addr × Obj)) (s : Shared) (σ : St) (H : Hp) (Q : Bool → Hp → Prop), Inv X pins σ H s → t σ H Q → wpAny (model X.prog X.w) X.A (isTrue e X.env whole) (TP X pins σ Q) X.xe s
theorem PW.pt {X : Cx} {e : Expr} {t : TT} (h : PW X e t) : PT X e t := h _
/-- an argument list (no star), from the left -/
def PA (X : Cx) (es : List Expr) (t : TA) : Prop :=
  ∀ (pos : Pos) (pins : List (Addr × Obj)) (s : Shared) (σ : St) (H : Hp) (Q : List V → Hp → Prop), Inv X pins σ H s → t σ H Q → wpAny (model X.prog X.w) X.A (spliced (backTo pos (starEach es X.env))) (AP X pins σ Q) X.xe s
def PS (X : Cx) (st : Stmt) (t : TS) : Prop :=
  ∀ (pins : List (Addr × Obj)) (s : Shared) (σ : St) (H : Hp) (D : Ends), Inv X pins σ H s → t D σ H → wpAny (model X.prog X.w) X.A (exec st X.env) (SP X pins D) X.xe s
def PSs (X : Cx) (st : List Stmt) (t : TS) : Prop :=
  ∀ (pins : List (Addr × Obj)) (s : Shared) (σ : St) (H : Hp) (D : Ends), Inv X pins σ H s → t D σ H → wpAny (model X.prog X.w) X.A (execs st X.env) (SP X pins D) X.xe s
/-- weaken the end -/
theorem thn {α : Type} {t : Sem α} {Q Q' : α → Shared → Prop} {M : Model} {A : Around} {E : Value → Shared → Prop} {s : Shared} (h : wpAny M A t Q E s) (hQ : ∀ a s, Q a s → Q' a s) : wpAny M A t Q' E s := wpAny_mono h hQ fun _ _ x => x
end L2

namespace L2
open PySem PySem.Spec PyProof.Rows
section
variable {X : Cx}


/-! ### names and constants -/
def tVar (i : Nat) : TE := fun σ H Q => ∃ v, σ[i]? = some (some v) ∧ Q v H
def tC (v : V) : TE := fun _ H Q => Q v H
theorem pe_var {i : Nat} {x : Str} {pos : Pos} (hN : X.N[i]? = some x) (hv : Vis X.env.scope x) (hd : (x == ("__debug__" : Str)) = false := by decide) (hcd : (x == ("__classdict__" : Str)) = false := by decide) : PE X (.Name x pos) (tVar i) := by
  intro pins s σ H Q I h
  obtain ⟨v, e, h⟩ := h
  obtain ⟨m, hn, hl⟩ := I.loc
  obtain ⟨u, r, l⟩ := hl i x v hN e hv
  have fin : EP X pins σ Q u s := ⟨v, H, I, r, h⟩
  rcases l with ⟨hk, hm⟩ | ⟨hk, c, hc, hcell⟩
  · exact wpAny_Name (wpAny_loadName_local I.ok.kind hk hn hm fin) hd
  · rcases hk with hk | hk
    · exact wpAny_Name (wpAny_loadName_cell I.ok.kind hk hc hcell fin) hd
    · exact wpAny_Name (wpAny_loadName_free I.ok.kind hk hc hcell fin hcd) hd
theorem pe_int {i j pos} : PE X (.Constant (.int i) j pos) (tC (.int i)) := fun _ _ _ H _ I h => wpAny_Constant_int ⟨.int i, H, I.tok _, ⟨_, rfl⟩, h⟩
theorem pe_bl {b j pos} : PE X (.Constant (.bool b) j pos) (tC (.bl b)) := fun _ _ _ H _ I h => Constant_bool ⟨.bl b, H, I, rfl, h⟩

/-- a global name of the def -/
def Gl (X : Cx) (x : Str) : Prop := X.env.kindOf x = some .globalImplicit
theorem ld_glob {E : Value → Shared → Prop} {pins : List (Addr × Obj)} {s : Shared} {σ : St} {H : Hp} {x : Str} {u : Value} {pos : Pos} {Q : Value → Shared → Prop} (I : Inv X pins σ H s) (hg : Gl X x) (hm : X.mg x = some u) (h : Q u s)
    (hd : (x == ("__debug__" : Str)) = false := by decide) : wpAny (model X.prog X.w) X.A (eval (.Name x pos) X.env) Q E s :=
  Calls.Name_function_global I.ok.kind hg (Calls.loadGlobal_global (by rw [I.ok.glob]; exact I.mod.glob.keeps I.bk) hm h) hd
theorem ld_blt {E : Value → Shared → Prop} {pins : List (Addr × Obj)} {s : Shared} {σ : St} {H : Hp} {x : Str} {u : Value} {pos : Pos} {Q : Value → Shared → Prop} (I : Inv X pins σ H s) (hg : Gl X x) (hm : X.mg x = none) (hv : bootBuiltins x = some u) (h : Q u s)
    (hn : x ≠ "__name__" := by decide) (hd : (x == ("__debug__" : Str)) = false := by decide) : wpAny (model X.prog X.w) X.A (eval (.Name x pos) X.env) Q E s := by
  obtain ⟨mb, h1, h2⟩ := I.mod.blt
  exact Calls.Name_function_global I.ok.kind hg (Calls.loadGlobal_builtin (by rw [I.ok.glob]; exact I.mod.glob.keeps I.bk) hm (by rw [I.ok.blt]; exact h1.keeps I.bk) ((h2 x hn).trans hv) h) hd
/-- a module's constant, a class, a function, as a value -/
theorem pe_glob {x : Str} {v : V} {u : Value} {pos : Pos} (hg : Gl X x) (hm : X.mg x = some u) (r : RelV v u) (hd : (x == ("__debug__" : Str)) = false := by decide) : PE X (.Name x pos) (tC v) :=
  fun _ _ _ H _ I h => ld_glob I hg hm ⟨v, H, I, r, h⟩ hd
theorem pe_bltn {x : Str} {v : V} {u : Value} {pos : Pos} (hg : Gl X x) (hm : X.mg x = none) (hv : bootBuiltins x = some u) (r : RelV v u) (hn : x ≠ "__name__" := by decide) (hd : (x == ("__debug__" : Str)) = false := by decide) : PE X (.Name x pos) (tC v) :=
  fun _ _ _ H _ I h => ld_blt I hg hm hv ⟨v, H, I, r, h⟩ hn hd

/-! ### arithmetic -/
variable {a b : Expr} {ta tb : TE} {pos : Pos}

/-! ### comparisons -/
/-- a comparison as a value, as a test -/
def tB (t : TE) : TT := fun σ H Q => t σ H fun x H1 => ∃ c, x = .bl c ∧ Q c H1
/-- an expression whose value is a bool, as a test -/
theorem pt_val {e : Expr} {t : TE} (h : PE X e t) (he : ∀ whole, isTrue e X.env whole = (do let v ← whole; standAt e.pos; holding [v] (truthy v)) := by intro _; rfl) : PT X e (tB t) := by
  intro pins s σ H Q I hw
  refine isTrue_plain (thn (h pins s σ H _ I hw) fun v s1 ⟨x, H1, I1, r1, q1⟩ => ?_) (he _)
  obtain ⟨d, rfl, q⟩ := q1
  cases r1
  exact wpAny_truthy_bool ⟨H1, I1, q⟩

/-! ### and, or, not -/
variable {tA tB' : TT} {rest : List Expr}
def tAnd (t u : TT) : TT := fun σ H Q => t σ H fun c H1 => if c = true then u σ H1 Q else Q false H1
def tOr (t u : TT) : TT := fun σ H Q => t σ H fun c H1 => if c = true then Q true H1 else u σ H1 Q
def tNot (t : TT) : TT := fun σ H Q => t σ H fun c H1 => Q (!c) H1
theorem pw_and1 (ha : PT X a tA) : PW X (.BoolOp .And [a] pos) tA := by
  intro wh pins s σ H Q I h
  refine isTrue_and (thn (ha pins s σ H Q I h) fun c s1 e => ?_)
  cases c with
  | true => exact isTrue_and_nil e
  | false => exact e
theorem pw_or1 (ha : PT X a tA) : PW X (.BoolOp .Or [a] pos) tA := by
  intro wh pins s σ H Q I h
  refine isTrue_or (thn (ha pins s σ H Q I h) fun c s1 e => ?_)
  cases c with
  | false => exact isTrue_or_nil e
  | true => exact e
theorem pw_and (ha : PT X a tA) (hb : PW X (.BoolOp .And (b :: rest) pos) tB') : PW X (.BoolOp .And (a :: b :: rest) pos) (tAnd tA tB') := by
  intro wh pins s σ H Q I h
  refine isTrue_and (thn (ha pins s σ H _ I h) fun c s1 ⟨H1, I1, q1⟩ => ?_)
  cases c with
  | true => exact hb wh pins s1 σ H1 Q I1 q1
  | false => exact ⟨H1, I1, q1⟩
theorem pw_or (ha : PT X a tA) (hb : PW X (.BoolOp .Or (b :: rest) pos) tB') : PW X (.BoolOp .Or (a :: b :: rest) pos) (tOr tA tB') := by
  intro wh pins s σ H Q I h
  refine isTrue_or (thn (ha pins s σ H _ I h) fun c s1 ⟨H1, I1, q1⟩ => ?_)
  cases c with
  | true => exact ⟨H1, I1, q1⟩
  | false => exact hb wh pins s1 σ H1 Q I1 q1
theorem pt_not (ha : PT X a tA) : PT X (.UnaryOp .Not a pos) (tNot tA) := by
  intro pins s σ H Q I h
  exact isTrue_not (ha pins s σ H (fun c H1 => Q (!c) H1) I h)
/-- .. as values (bools) -/
def tAndV (ta tb : TE) : TE := fun σ H Q => ta σ H fun x H1 => ∃ c, x = .bl c ∧ if c = true then tb σ H1 Q else Q (.bl false) H1
def tNotV (ta : TE) : TE := fun σ H Q => ta σ H fun x H1 => ∃ c, x = .bl c ∧ Q (.bl (!c)) H1
theorem pe_one {op} {t : TE} (h : PE X a t) : PE X (.BoolOp op [a] pos) t := fun pins s σ H Q I hw => BoolOp_one (h pins s σ H Q I hw)
theorem pe_and (ha : PE X a ta) (hb : PE X (.BoolOp .And (b :: rest) pos) tb) : PE X (.BoolOp .And (a :: b :: rest) pos) (tAndV ta tb) := by
  intro pins s σ H Q I h
  refine BoolOp_and (thn (ha pins s σ H _ I h) fun v s1 ⟨x, H1, I1, r1, q1⟩ => ?_)
  obtain ⟨c, rfl, q1⟩ := q1
  cases r1
  refine wpAny_truthy_bool ?_
  cases c with
  | true => exact hb pins s1 σ H1 Q I1 q1
  | false => exact ⟨.bl false, H1, I1, rfl, q1⟩
theorem pe_not (ha : PE X a ta) : PE X (.UnaryOp .Not a pos) (tNotV ta) := by
  intro pins s σ H Q I h
  refine UnaryOp_ (thn (ha pins s σ H _ I h) fun v s1 ⟨x, H1, I1, r1, q1⟩ => ?_)
  obtain ⟨c, rfl, q1⟩ := q1
  cases r1
  exact not_of (wpAny_truthy_bool ⟨.bl (!c), H1, I1, rfl, q1⟩)
end
end L2

namespace L2
open PySem PySem.Spec PyProof.Rows

/-! ### a list, a tuple that is read: tracked, frozen, or an object of the module -/
def SqL (K : PySem.W.Frag) (H : Hp) (a : Addr) (xs : List V) : Prop :=
  Rd H a (.lst xs) ∨
    ∃ (o : Obj) (its : Array Value) (n : Nat), K.lookup a = some o ∧ o.cls = .type "list" ∧ o.dict = none ∧ o.data = .seq its n ∧ its.size ≤ sizeLine ∧ Vals xs its.toList
def SqT (K : PySem.W.Frag) (H : Hp) (a : Addr) (xs : List V) : Prop :=
  Rd H a (.tup xs) ∨
    ∃ (o : Obj) (its : Array Value) (n : Nat), K.lookup a = some o ∧ o.cls = .type "tuple" ∧ o.data = .seq its n ∧ its.size ≤ sizeLine ∧ Vals xs its.toList
def absV : Value → Option V
  | .none => some .non
  | .bool b => some (.bl b)
  | .int i _ => some (.int i)
  | .str x _ => some (.str x)
  | .bytes b _ => some (.byt b)
  | .float b _ => some (.flt b)
  | .ref a => some (.ref a)
  | .type n => some (.ty n)
  | _ => none
theorem RelV.abs {x : V} {u : Value} (r : RelV x u) : absV u = some x := by
  cases x with
  | non => cases r; rfl
  | bl _ => cases r; rfl
  | int _ => obtain ⟨t, rfl⟩ := r; rfl
  | str _ => obtain ⟨t, rfl⟩ := r; rfl
  | byt _ => obtain ⟨t, rfl⟩ := r; rfl
  | flt _ => obtain ⟨t, rfl⟩ := r; rfl
  | ref _ => cases r; rfl
  | ty _ => cases r; rfl
theorem RelV.inj {x y : V} {u : Value} (r : RelV x u) (q : RelV y u) : x = y := Option.some.inj (r.abs.symm.trans q.abs)
theorem Vals.inj : ∀ {xs ys : List V} {us : List Value}, Vals xs us → Vals ys us → xs = ys
  | _, _, _, .nil, .nil => rfl
  | _, _, _, .cons r t, .cons r' t' => by rw [r.inj r', Vals.inj t t']
section
variable {X : Cx} {pins : List (Addr × Obj)} {σ : St} {H : Hp} {s : Shared} {a : Addr} {xs ys : List V}
theorem SqL.of {K : PySem.W.Frag} (h : H a = some (.lst xs)) : SqL K H a xs := .inl (.inl h)
theorem SqT.of {K : PySem.W.Frag} (h : H a = some (.tup xs)) : SqT K H a xs := .inl (.inl h)
theorem Inv.list (I : Inv X pins σ H s) (h : SqL X.K H a xs) : ∃ its : List Value, Vals xs its ∧ PlainL s.heap a its.toArray ∧ xs.length ≤ sizeLine := by
  rcases h with h | ⟨o, its, n, hk, hc, hd, hs, hz, r⟩
  · obtain ⟨z, its, n, r, e⟩ := h.ok I.hok
    exact ⟨its, r, ⟨_, n, e, rfl, rfl, rfl⟩, z⟩
  · refine ⟨its.toList, r, ⟨o, n, I.kIn a o hk, hc, hd, by simpa using hs⟩, ?_⟩
    have e := r.length
    simp only [Array.length_toList] at e
    omega
theorem Inv.tuple (I : Inv X pins σ H s) (h : SqT X.K H a xs) : ∃ its : List Value, Vals xs its ∧ IsTup s.heap a its.toArray ∧ xs.length ≤ sizeLine := by
  rcases h with h | ⟨o, its, n, hk, hc, hs, hz, r⟩
  · obtain ⟨z, its, r, p⟩ := h.ok I.hok
    exact ⟨its, r, p, z⟩
  · refine ⟨its.toList, r, ⟨o, I.kIn a o hk, hc, n, by simpa using hs⟩, ?_⟩
    have e := r.length
    simp only [Array.length_toList] at e
    omega
theorem Inv.list_inj (I : Inv X pins σ H s) (h : SqL X.K H a xs) (h' : SqL X.K H a ys) : xs = ys := by
  obtain ⟨its, r, ⟨o, n, e, _, _, d⟩, _⟩ := I.list h
  obtain ⟨its', r', ⟨o', n', e', _, _, d'⟩, _⟩ := I.list h'
  rw [e] at e'; cases e'
  rw [d] at d'
  injection d' with d1 _
  have : its = its' := by simpa using congrArg Array.toList d1
  subst this
  exact r.inj r'
end

/-! ### another wish about exceptions -/
abbrev Cx.wish (X : Cx) (E : Value → Shared → Prop) : Cx := { X with xe := E }
/-- no exception leaves -/
abbrev Cx.nox (X : Cx) : Cx := X.wish fun _ _ => False
theorem Cx.Ok.wish {X : Cx} (ok : X.Ok) (E : Value → Shared → Prop) : (X.wish E).Ok :=
  ⟨ok.mod, ok.kind, ok.glob, ok.blt, ok.above, ok.inj, ok.has, ok.cab, ok.hd, ok.frames, ok.stk, ok.exf, ok.bs, ok.bsz, ok.noex, ok.exfs, ok.funs, ok.frf⟩
theorem Cx.Ok.unwish {X : Cx} {E : Value → Shared → Prop} (ok : (X.wish E).Ok) : X.Ok :=
  ⟨ok.mod, ok.kind, ok.glob, ok.blt, ok.above, ok.inj, ok.has, ok.cab, ok.hd, ok.frames, ok.stk, ok.exf, ok.bs, ok.bsz, ok.noex, ok.exfs, ok.funs, ok.frf⟩
section
variable {X : Cx} {pins : List (Addr × Obj)} {σ : St} {H : Hp} {s : Shared} {E : Value → Shared → Prop}
theorem Inv.wish (I : Inv X pins σ H s) (E : Value → Shared → Prop) : Inv (X.wish E) pins σ H s := ⟨I.ok.wish E, I.os, I.bare, I.base, I.loc, I.cell, I.free, I.freeC, I.pin, I.hok, I.len⟩
theorem Inv.unwish (I : Inv (X.wish E) pins σ H s) : Inv X pins σ H s := ⟨I.ok.unwish, I.os, I.bare, I.base, I.loc, I.cell, I.free, I.freeC, I.pin, I.hok, I.len⟩
theorem SP.unwish {D : Ends} {f : Flow} {s' : Shared} (h : SP (X.wish E) pins D f s') : SP X pins D f s' := by
  cases f with
  | next => obtain ⟨σ', H', I, q⟩ := h; exact ⟨σ', H', I.unwish, q⟩
  | brk => obtain ⟨σ', H', I, q⟩ := h; exact ⟨σ', H', I.unwish, q⟩
  | cont => obtain ⟨σ', H', I, q⟩ := h; exact ⟨σ', H', I.unwish, q⟩
  | ret u => obtain ⟨v, σ', H', I, r, q⟩ := h; exact ⟨v, σ', H', I.unwish, r, q⟩
theorem PSs.nox {st : List Stmt} {t : TS} (h : PSs X.nox st t) : PSs X st t := fun pins s σ H D I hw =>
  wpAny_mono (h pins s σ H D (I.wish _) hw) (fun _ _ q => q.unwish) fun _ _ z => False.elim z
end

/-! ### blocks and small statements -/
section
variable {X : Cx} {st : Stmt} {rest : List Stmt} {t u : TS} {e : Expr} {te : TE} {pos : Pos}
def tNext : TS := fun D σ H => D.nx σ H
def tSeq (t u : TS) : TS := fun D σ H => t { D with nx := u D } σ H
theorem pss_nil : PSs X [] tNext := fun _ _ σ H _ I h => wpAny_execs_nil ⟨σ, H, I, h⟩
theorem pss_cons (h1 : PS X st t) (h2 : PSs X rest u) : PSs X (st :: rest) (tSeq t u) := by
  intro pins s σ H D I h
  refine wpAny_execs_cons (thn (h1 pins s σ H { D with nx := u D } I h) fun f s1 q => ?_)
  cases f with
  | next =>
    obtain ⟨σ', H', I', q⟩ := q
    exact h2 pins s1 σ' H' D I' q
  | ret v => exact q
  | brk => exact q
  | cont => exact q
theorem pss_one (h1 : PS X st t) : PSs X [st] t := by
  intro pins s σ H D I h
  refine wpAny_execs_cons (thn (h1 pins s σ H D I h) fun f s1 q => ?_)
  cases f with
  | next => exact wpAny_execs_nil q
  | ret v => exact q
  | brk => exact q
  | cont => exact q
/-- in a def's body nothing is shown -/
theorem Inv.quiet {pins : List (Addr × Obj)} {σ : St} {H : Hp} {s : Shared} (I : Inv X pins σ H s) : interactive X.env = false := by simp [interactive, I.ok.kind]
/-- an expression whose value is dropped -/
def tDrop (te : TE) : TS := fun D σ H => te σ H fun _ H1 => D.nx σ H1
theorem ps_expr (he : PE X e te) (hs : swapsWith e none pos.line X.env = pure false := by rfl) : PS X (.Expr e pos) (tDrop te) := by
  intro pins s σ H D I h
  exact wpAny_Expr_any (thn (he pins s σ H _ I h) fun v s1 ⟨x, H1, I1, r1, q1⟩ => ⟨σ, H1, I1, q1⟩) I.quiet hs
def tRet (te : TE) : TS := fun D σ H => te σ H D.rt
theorem ps_ret (he : PE X e te) : PS X (.Return (some e) pos) (tRet te) := by
  intro pins s σ H D I h
  exact wpAny_Return_some (thn (he pins s σ H _ I h) fun v s1 ⟨x, H1, I1, r1, q1⟩ => ⟨x, σ, H1, I1, r1, q1⟩)
def tIfS (c : TT) (t u : TS) : TS := fun D σ H => c σ H fun b H1 => if b = true then t D σ H1 else u D σ H1
theorem ps_if {c : Expr} {a b : List Stmt} {tc : TT} (hc : PT X c tc) (ha : PSs X a t) (hb : PSs X b u) : PS X (.If c a b pos) (tIfS tc t u) := by
  intro pins s σ H D I h
  refine wpAny_If (thn (hc pins s σ H _ I h) fun d s1 ⟨H1, I1, q1⟩ => ?_)
  cases d with
  | true => exact ha pins s1 σ H1 D I1 q1
  | false => exact hb pins s1 σ H1 D I1 q1
end

/-! ### targets -/
abbrev TG := V → St → Hp → (St → Hp → Prop) → Prop
abbrev TGs := List V → St → Hp → (St → Hp → Prop) → Prop
def PG (X : Cx) (target : Expr) (t : TG) : Prop :=
  ∀ (pins : List (Addr × Obj)) (s : Shared) (σ : St) (H : Hp) (v : V) (u : Value) (Q : St → Hp → Prop), Inv X pins σ H s → RelV v u → t v σ H Q →
    wpAny (model X.prog X.w) X.A (assign target X.env u) (fun _ s' => ∃ σ' H', Inv X pins σ' H' s' ∧ Q σ' H') X.xe s
/-- several targets, one after another -/
def PGs (X : Cx) (ts : List Expr) (t : TGs) : Prop :=
  ∀ (pins : List (Addr × Obj)) (s : Shared) (σ : St) (H : Hp) (vs : List V) (us : List Value) (Q : St → Hp → Prop), Inv X pins σ H s → Vals vs us → t vs σ H Q →
    wpAny (model X.prog X.w) X.A (assignInOrder ((assignEach ts X.env).map (·.2)) us) (fun _ s' => ∃ σ' H', Inv X pins σ' H' s' ∧ Q σ' H') X.xe s
/-- o[i] = v, by values -/
abbrev TSet := V → V → V → Hp → (Hp → Prop) → Prop
def PSet (X : Cx) (t : TSet) : Prop :=
  ∀ (pins : List (Addr × Obj)) (s : Shared) (σ : St) (H : Hp) (o i v : V) (ov iv u : Value) (Q : Hp → Prop), Inv X pins σ H s → RelV o ov → RelV i iv → RelV v u → t o i v H Q →
    wpAny (model X.prog X.w) X.A (setItem ov iv u) (fun _ s' => ∃ H', Inv X pins σ H' s' ∧ Q H') X.xe s
/-- a op= b, by values -/
abbrev TIp := V → V → Hp → VK → Prop
def PIp (X : Cx) (op : Operator) (t : TIp) : Prop :=
  ∀ (pins : List (Addr × Obj)) (s : Shared) (σ : St) (H : Hp) (x y : V) (v u : Value) (Q : VK), Inv X pins σ H s → RelV x v → RelV y u → t x y H Q →
    wpAny (model X.prog X.w) X.A (inplaceOp op v u) (EP X pins σ Q) X.xe s
section
variable {X : Cx} {pos : Pos}
def gName (i : Nat) : TG := fun v σ H Q => Q (σ.set i (some v)) H
theorem pg_name {i : Nat} {x : Str} (hN : X.N.Nodup) (hi : X.N[i]? = some x) (hx : Loc X.env.scope x) (hf : X.fn x = true ∨ X.env.scope.names.lookup x = some .local := by first | exact .inl rfl | exact .inr rfl | assumption) : PG X (.Name x pos) (gName i) := by
  intro pins s σ H v u Q I r h
  exact wpAny_assign_Name (store_ok I hN hi hx r (fun s' I' => ⟨_, H, I', h⟩) hf)
def gNil : TGs := fun vs σ H Q => vs = [] ∧ Q σ H
def gCons (t : TG) (u : TGs) : TGs := fun vs σ H Q => ∃ v r, vs = v :: r ∧ t v σ H fun σ' H' => u r σ' H' Q
theorem pgs_nil : PGs X [] gNil := by
  intro pins s σ H vs us Q I r h
  obtain ⟨e, h⟩ := h
  subst e
  cases r
  exact assignInOrder_nil ⟨σ, H, I, h⟩
theorem pgs_cons {e : Expr} {es : List Expr} {t : TG} {u : TGs} (h1 : PG X e t) (h2 : PGs X es u)
    (hs : (assignEach (e :: es) X.env).map (·.2) = assign e X.env :: (assignEach es X.env).map (·.2) := by rfl) : PGs X (e :: es) (gCons t u) := by
  intro pins s σ H vs us Q I r h
  obtain ⟨v, vr, e1, h⟩ := h
  subst e1
  cases r with
  | cons r rr =>
    rw [hs]
    refine assignInOrder_cons (thn (h1 pins s σ H _ _ _ I r h) fun _ s1 ⟨σ1, H1, I1, q1⟩ => ?_)
    exact h2 pins s1 σ1 H1 _ _ Q I1 rr q1
/-- (a, b, ..) = a tuple of that length -/
def gTup (K : PySem.W.Frag) (n : Nat) (t : TGs) : TG := fun v σ H Q => ∃ a xs, v = .ref a ∧ SqT K H a xs ∧ xs.length = n ∧ t xs σ H Q
theorem pg_tup {es : List Expr} {k : Nat} {t : TGs} {n : Nat} (hc : X.calm = true) (h : PGs X es t)
    (hn : (assignEach es X.env).length = n := by rfl) (hst : (assignEach es X.env).findIdx? (·.1) = none := by rfl) : PG X (.Tuple es k pos) (gTup X.K n t) := by
  intro pins s σ H v u Q I r hw
  obtain ⟨a, xs, e1, hq, hl, hw⟩ := hw
  subst e1
  cases r
  obtain ⟨its, rv, ht, hz⟩ := I.tuple hq
  refine assign_Tuple_tuple (I.ok.hd hc) ht (by simp [hn, ← hl, rv.length]) hst fun h' hx => ?_
  have I1 : Inv X pins σ H { s with heap := h' } := I.kept (t' := s.toks) fun b o e => hx b o (Nat.ne_of_lt (Heap.lt_size e)) e
  exact h pins _ σ H xs _ Q I1 (by simpa using rv) hw
/-- o[i] = .. -/
def gSub (to ti : TE) (t : TSet) : TG := fun v σ H Q => to σ H fun o H1 => ti σ H1 fun i H2 => t o i v H2 fun H3 => Q σ H3
theorem pg_sub {o i : Expr} {to ti : TE} {t : TSet} (ho : PE X o to) (hi : PE X i ti) (hs : PSet X t)
    (ha : ∀ v, assign (.Subscript o i pos) X.env v = (do
      let ov ← holding [v] (eval o X.env)
      let iv ← holding [v, ov] (eval i X.env)
      standAt pos
      holding [v, ov, iv] (setItem ov iv v)
      release [v, ov, iv] []) := by intro _; rfl) : PG X (.Subscript o i pos) (gSub to ti t) := by
  intro pins s σ H v u Q I r h
  rw [ha]
  refine wpAny_bind (wpAny_holding (thn (ho pins s σ H _ I h) fun ov s1 ⟨x, H1, I1, r1, q1⟩ => ?_))
  refine wpAny_bind (wpAny_holding (thn (hi pins s1 σ H1 _ I1 q1) fun iv s2 ⟨y, H2, I2, r2, q2⟩ => ?_))
  refine wpAny_bind (wpAny_standAt (wpAny_bind (wpAny_holding (thn (hs pins s2 σ H2 x y v ov iv u _ I2 r1 r2 r q2) fun _ s3 ⟨H3, I3, q3⟩ => ?_))))
  exact wpAny_release ⟨σ, H3, I3, q3⟩
/-- target = value -/
def tAsg (te : TE) (g : TG) : TS := fun D σ H => te σ H fun x H1 => g x σ H1 D.nx
theorem ps_asg {tg e : Expr} {te : TE} {g : TG} (he : PE X e te) (hg : PG X tg g) (hs : swapsWithSole [tg] e pos.line X.env = pure false := by rfl) (hw : swappedStores [tg] e X.env = pure none := by rfl)
    (h1 : (assignEach [tg] X.env).map (·.2) = [assign tg X.env] := by rfl) : PS X (.Assign [tg] e pos) (tAsg te g) := by
  intro pins s σ H D I h
  refine wpAny_Assign_stores (thn (he pins s σ H _ I h) fun v s1 ⟨x, H1, I1, r1, q1⟩ => ?_) hs hw
  rw [h1]
  exact thn (hg pins s1 σ H1 x v _ I1 r1 q1) fun _ s2 q => q
/-- name = value -/
theorem ps_set {i : Nat} {x : Str} {e : Expr} {te : TE} {pos' : Pos} (hN : X.N.Nodup) (hi : X.N[i]? = some x) (hx : Loc X.env.scope x) (he : PE X e te) (hs : swapsWith e (some (.Name x pos')) pos.line X.env = pure false := by rfl) (hf : X.fn x = true ∨ X.env.scope.names.lookup x = some .local := by first | exact .inl rfl | exact .inr rfl | assumption) :
    PS X (.Assign [.Name x pos'] e pos) (tAsg te (gName i)) := by
  intro pins s σ H D I h
  refine wpAny_Assign_Name (thn (he pins s σ H _ I h) fun v s1 ⟨y, H1, I1, r1, q1⟩ => ?_) hs
  exact store_ok I1 hN hi hx r1 (fun s2 I2 => ⟨_, H1, I2, q1⟩) hf
/-- a, b = x, y with plain local names: stored from the right; the pair itself is not tracked (the opening rows as in PyProof/Rows/TupAssign.lean:23) -/
def tPar (i j : Nat) (ta : TA) : TS := fun D σ H => ta σ H fun vs H1 => ∃ v w, vs = [v, w] ∧ D.nx ((σ.set i (some v)).set j (some w)) H1
theorem ps_par {i j : Nat} {x y : Str} {a b : Expr} {ta : TA} {px py pt : Pos} {kt k2 pt2} (hc : X.calm = true) (hN : X.N.Nodup) (hi : X.N[i]? = some x) (hj : X.N[j]? = some y) (hij : i ≠ j)
    (hx : X.env.scope.names.lookup x = some .local) (hy : X.env.scope.names.lookup y = some .local) (ha : PA X [a, b] ta)
    (hw : swappedStores [.Tuple [.Name x px, .Name y py] kt pt] (.Tuple [a, b] k2 pt2) X.env = pure (some [x, y]))
    (hs : swapsWithSole [.Tuple [.Name x px, .Name y py] kt pt] (.Tuple [a, b] k2 pt2) pos.line X.env = pure false := by rfl) :
    PS X (.Assign [.Tuple [.Name x px, .Name y py] kt pt] (.Tuple [a, b] k2 pt2) pos) (tPar i j ta) := by
  intro pins s σ H D I h
  rw [exec_Assign_arm]
  refine wpAny_bind (wpAny_standAt ?_)
  rw [hs]
  refine wpAny_bind (wpAny_pure ?_)
  rw [if_neg (by decide)]
  refine wpAny_bind (Tuple_ (thn (ha _ pins s σ H _ I h) fun us s1 ⟨vs, H1, I1, r1, q1⟩ => ?_))
  obtain ⟨v, w, e1, q1⟩ := q1
  subst e1
  obtain ⟨u1, u2, rfl, rv, rw'⟩ : ∃ u1 u2, us = [u1, u2] ∧ RelV v u1 ∧ RelV w u2 := by
    cases r1 with
    | cons p q =>
      cases q with
      | cons p' q' =>
        cases q'
        exact ⟨_, _, rfl, p, p'⟩
  refine wpAny_newObj_type ?_ (by show 2 ≤ sizeLine; decide)
  have I2 : Inv X pins σ H1 { s1 with heap := s1.heap.push { cls := .type "tuple", data := .seq [u1, u2].toArray } } := I1.kept (t' := s1.toks) fun b o e => Heap.get?_push_of_some _ e
  rw [hw]
  refine wpAny_bind (wpAny_pure ?_)
  show wpAny (model X.prog X.w) X.A (do rule "assign.swapped-stores"; let items ← unpackItems (.ref s1.heap.objs.size) 2 none; assignInOrder [fun v => bindName X.env y v, fun v => bindName X.env x v] items.reverse; pure Flow.next) _ _ _
  refine wpAny_bind (wpAny_rule (wpAny_bind (unpackItems_tuple (items := #[u1, u2]) (I.ok.hd hc) (IsTup.new s1.heap _) fun h' hx' => ?_)))
  have I3 := I2.kept (h' := h') (t' := s1.toks) fun b o e => hx' b o (Nat.ne_of_lt (Heap.lt_size e)) e
  show wpAny _ _ (assignInOrder [fun v => bindName X.env y v, fun v => bindName X.env x v] [u2, u1] >>= fun _ => pure Flow.next) _ _ _
  refine wpAny_bind (assignInOrder_cons (wpAny_bindName (store_ok I3 hN hj (.inl hy) rw' (fun s2 I4 => ?_) (.inr hy))))
  refine assignInOrder_cons (wpAny_bindName (store_ok I4 hN hi (.inl hx) rv (fun s3 I5 => assignInOrder_nil (wpAny_pure ?_)) (.inr hx)))
  rw [List.set_comm _ _ (Ne.symm hij)] at I5
  exact ⟨_, H1, I5, q1⟩
/-- o[i] op= e -/
def tAugS (to ti te : TE) (tget : V → V → Hp → VK → Prop) (tip : TIp) (tset : TSet) : TS := fun D σ H => to σ H fun o H1 => ti σ H1 fun i H2 => tget o i H2 fun x H3 => te σ H3 fun y H4 => tip x y H4 fun z H5 => tset o i z H5 fun H6 => D.nx σ H6
/-- o[i], by values -/
def PGet (X : Cx) (t : V → V → Hp → VK → Prop) : Prop :=
  ∀ (pins : List (Addr × Obj)) (s : Shared) (σ : St) (H : Hp) (o i : V) (ov iv : Value) (Q : VK), Inv X pins σ H s → RelV o ov → RelV i iv → t o i H Q →
    wpAny (model X.prog X.w) X.A (getItem ov iv) (EP X pins σ Q) X.xe s
theorem ps_augS {o i e : Expr} {to ti te : TE} {tget : V → V → Hp → VK → Prop} {tip : TIp} {tset : TSet} {op : Operator} {tpos : Pos} (ho : PE X o to) (hi : PE X i ti) (hg : PGet X tget) (he : PE X e te) (hp : PIp X op tip) (hs : PSet X tset)
    (ha : ∀ ov iv new, augStore i ov iv new = (do holding [new, ov, iv] (setItem ov iv new); release [new, ov, iv] []; pure .next) := by intros; rfl) : PS X (.AugAssign (.Subscript o i tpos) op e pos) (tAugS to ti te tget tip tset) := by
  intro pins s σ H D I h
  refine wpAny_AugAssign_SubscriptAny (thn (ho pins s σ H _ I h) fun ov s1 ⟨x1, H1, I1, r1, q1⟩ => ?_) ha
  refine thn (hi pins s1 σ H1 _ I1 q1) fun iv s2 ⟨x2, H2, I2, r2, q2⟩ => ?_
  refine thn (hg pins s2 σ H2 x1 x2 ov iv _ I2 r1 r2 q2) fun old s3 ⟨x3, H3, I3, r3, q3⟩ => ?_
  refine thn (he pins s3 σ H3 _ I3 q3) fun v s4 ⟨x4, H4, I4, r4, q4⟩ => ?_
  refine thn (hp pins s4 σ H4 x3 x4 old v _ I4 r3 r4 q4) fun new s5 ⟨x5, H5, I5, r5, q5⟩ => ?_
  exact thn (hs pins s5 σ H5 x1 x2 x5 ov iv new _ I5 r1 r2 r5 q5) fun _ s6 ⟨H6, I6, q6⟩ => ⟨σ, H6, I6, q6⟩
/-- ints -/
def ipI (f : Int → Int → Int) : TIp := fun x y H Q => ∃ i j, x = .int i ∧ y = .int j ∧ Q (.int (f i j)) H
theorem ip_add : PIp X .Add (ipI fun i j => i + j) := by
  intro pins s σ H x y v u Q I r1 r2 h
  obtain ⟨i, j, e1, e2, q⟩ := h
  subst e1; subst e2
  obtain ⟨t, rfl⟩ := r1
  obtain ⟨t', rfl⟩ := r2
  exact iadd_int ⟨.int _, H, I.tok _, ⟨_, rfl⟩, q⟩
end

/-! ### while -/
section
variable {X : Cx} {pos : Pos}
/-- the invariant W with its measure -/
def tWhile (c : TT) (tb : TS) : TS := fun D σ H => ∃ W : Nat → St → Hp → Prop, (∃ m, W m σ H) ∧ ∀ m σ H, W m σ H →
  c σ H fun b H1 => if b = true then ∃ N : St → Hp → Prop, (∀ σ' H', N σ' H' → ∃ m', m' < m ∧ W m' σ' H') ∧ tb { D with nx := N, ct := N, bk := D.nx } σ H1 else D.nx σ H1
theorem ps_while {c : Expr} {body : List Stmt} {tc : TT} {tb : TS} (hp : PassesOwn (model X.prog X.w) X.A X.env X.xe) (hc : PT X c tc) (hb : PSs X body tb) : PS X (.While c body [] pos) (tWhile tc tb) := by
  intro pins s σ H D I h
  obtain ⟨W, ⟨m0, w0⟩, turn⟩ := h
  refine wpAny_While (codeAny_whileLoop (fun n s' => ∃ σ' H', Inv X pins σ' H' s' ∧ W n σ' H') ?_ m0 ⟨σ, H, I, w0⟩)
  rintro n s1 ⟨σ1, H1, I1, w1⟩
  refine wpAny_passesOwn hp (thn (hc pins s1 σ1 H1 _ I1 (turn n σ1 H1 w1)) fun b s2 ⟨H2, I2, q2⟩ => ?_)
  cases b with
  | true =>
    obtain ⟨N, hN, q2⟩ := q2
    rw [if_pos rfl]
    refine wpAny_passesOwn hp (thn (hb pins s2 σ1 H2 _ I2 q2) fun f s3 q3 => ?_)
    cases f with
    | next =>
      obtain ⟨σ3, H3, I3, n3⟩ := q3
      obtain ⟨m', hm, w3⟩ := hN σ3 H3 n3
      exact ⟨m', hm, σ3, H3, I3, w3⟩
    | cont =>
      obtain ⟨σ3, H3, I3, n3⟩ := q3
      obtain ⟨m', hm, w3⟩ := hN σ3 H3 n3
      exact ⟨m', hm, σ3, H3, I3, w3⟩
    | brk => exact q3
    | ret v => exact q3
  | false =>
    rw [if_neg Bool.false_ne_true]
    exact wpAny_execs_nil ⟨σ1, H2, I2, q2⟩
end

/-! ### what a loop or a comprehension walks -/
/-- at turn i: it yields x (the heap may grow), or it stops -/
structure It where
  go : Nat → Hp → Prop
  yld : Nat → Hp → V → Hp → Prop
  stop : Nat → Hp → Prop
/-- the iterator's own objects may turn: they are not the frame's, not pinned, younger than the entry (or a comprehension's own) -/
def FpOk (X : Cx) (pins : List (Addr × Obj)) (H : Hp) (b : Addr) : Prop :=
  H b = none ∧ b ≠ X.env.locals ∧ b ∉ X.fs ∧ (b ∈ X.ex ∨ X.s₀.heap.objs.size ≤ b) ∧ (∀ x c, X.env.cells.lookup x = some c → c ≠ b) ∧ ∀ p ∈ X.pn ++ pins, p.1 ≠ b
theorem Inv.fpOk {X : Cx} {pins : List (Addr × Obj)} {σ : St} {H H' : Hp} {s : Shared} {b : Addr} (I : Inv X pins σ H s) (hb : s.heap.objs.size ≤ b) (hn : H' b = none) : FpOk X pins H' b := by
  refine ⟨hn, Nat.ne_of_gt (Nat.lt_of_lt_of_le I.lt hb), I.nofs hb, .inr (Nat.le_trans I.sz hb), fun x c e z => ?_, fun p hp z => ?_⟩
  · obtain ⟨v, q⟩ := I.cell x c e
    exact absurd (Nat.lt_of_lt_of_le q.lt (by rw [z]; exact hb)) (Nat.lt_irrefl _)
  · exact absurd (Nat.lt_of_lt_of_le (Heap.lt_size (I.pin p hp).1) (by rw [z]; exact hb)) (Nat.lt_irrefl _)
structure Turn (P : Program) (w : World) (K : PySem.W.Frag) (tg : Expr) (J : It) (fp : List Addr) (it : Addr) (tn : Nat → Heap → Prop) : Prop where
  mem : it ∈ fp
  obj : ∀ i h, tn i h → ∀ b ∈ fp, ∃ o, h.get? b = some o ∧ ∀ v, o.data ≠ .cell v
  keep : ∀ i h h', tn i h → (∀ b ∈ fp, ∀ o, h.get? b = some o → h'.get? b = some o) → tn i h'
  item : ∀ (X : Cx), X.prog = P → X.w = w → X.K = K → X.calm = true → ∀ (i : Nat) (pins : List (Addr × Obj)) (s : Shared) (σ : St) (H : Hp) (E : Value → Shared → Prop), Inv X pins σ H s → (∀ b ∈ fp, FpOk X pins H b) → tn i s.heap → J.go i H →
    wpAny (model P w) X.A (pyNext (.ref it)) (fun r s1 => ∃ u, r = some u ∧
      wpAny (model P w) X.A (letOwnedTupleGo tg (.ref it) u) (fun _ s2 => ∃ x H', Inv X pins σ H' s2 ∧ RelV x u ∧ J.yld i H x H' ∧ tn (i + 1) s2.heap ∧ ∀ b ∈ fp, H' b = none) E s1) E s
  done : ∀ (X : Cx), X.prog = P → X.w = w → X.K = K → X.calm = true → ∀ (i : Nat) (pins : List (Addr × Obj)) (s : Shared) (σ : St) (H : Hp) (E : Value → Shared → Prop), Inv X pins σ H s → (∀ b ∈ fp, FpOk X pins H b) → tn i s.heap → J.stop i H →
    wpAny (model P w) X.A (pyNext (.ref it)) (fun r s1 => r = none ∧ Inv X pins σ H s1) E s
  self : ∀ (A : Around) (i : Nat) (s : Shared) (Q : Value → Shared → Prop) (E : Value → Shared → Prop), tn i s.heap → Q (.ref it) s → wpAny (model P w) A (pyIter (.ref it)) Q E s
abbrev TI := St → Hp → (It → Hp → Prop) → Prop
/-- an iterator has come -/
def PIE (X : Cx) (pins : List (Addr × Obj)) (σ : St) (tg : Expr) (R : It → Hp → Prop) (itv : Value) (s2 : Shared) : Prop :=
  ∃ (it : Addr) (fp : List Addr) (tn : Nat → Heap → Prop) (J : It) (H' : Hp), itv = .ref it ∧ Inv X pins σ H' s2 ∧ Turn X.prog X.w X.K tg J fp it tn ∧ tn 0 s2.heap ∧ (∀ b ∈ fp, FpOk X pins H' b) ∧ R J H'
def PI (X : Cx) (tg iter : Expr) (wi : TI) : Prop :=
  ∀ (pins : List (Addr × Obj)) (s : Shared) (σ : St) (H : Hp) (R : It → Hp → Prop), Inv X pins σ H s → wi σ H R →
    wpAny (model X.prog X.w) X.A (eval iter X.env) (fun v s1 => wpAny (model X.prog X.w) X.A (pyIter v) (PIE X pins σ tg R) X.xe s1) X.xe s

/-- the step ahead of the store is nothing for an iterator that keeps no tuple -/
theorem go_of {M : Model} {A : Around} {E : Value → Shared → Prop} {s : Shared} {tg : Expr} {it : Addr} {u : Value} {o : Obj} {n : String} {vs : Array Value} {Q : Unit → Shared → Prop} (ho : s.heap.get? it = some o) (hc : o.cls = .type n) (hd : o.data = .fields vs)
    (hn : ["enumerate", "zip", "dict_itemiterator", "dict_reverseitemiterator", "odict_iterator", "itertools.zip_longest", "itertools.pairwise"].contains n = false) (hQ : Q () s) : wpAny M A (letOwnedTupleGo tg (.ref it) u) Q E s := by
  unfold letOwnedTupleGo
  cases tg <;> first
    | exact wpAny_pure hQ
    | (cases u <;> first
        | exact wpAny_pure hQ
        | (refine wpAny_bind (wpAny_load ho ?_)
           rw [hc, hd]
           show wpAny M A (if (["enumerate", "zip", "dict_itemiterator", "dict_reverseitemiterator", "odict_iterator", "itertools.zip_longest", "itertools.pairwise"].contains n && vs[0]? == some (rawInt _)) = true then _ else _) Q E s
           rw [if_neg (by intro h; rw [hn, Bool.false_and] at h; cases h)]
           exact wpAny_pure hQ))

/-- the list at a, as it stands at each turn (a loop may append to it) -/
def Itl (K : PySem.W.Frag) (a : Addr) : It :=
  ⟨fun i H => ∃ xs x, SqL K H a xs ∧ xs[i]? = some x, fun i H x H' => H' = H ∧ ∀ xs, SqL K H a xs → xs[i]? = some x, fun i H => ∃ xs, SqL K H a xs ∧ xs.length ≤ i⟩
/-- lo, lo + 1, .. (n of them) -/
def Itr (lo : Int) (n : Nat) : It := ⟨fun i _ => i < n, fun i H x H' => H' = H ∧ x = .int (lo + i), fun i _ => n ≤ i⟩
theorem turn_list {P : Program} {w : World} {K : PySem.W.Frag} {tg : Expr} (a it : Addr) : Turn P w K tg (Itl K a) [it] it (fun i h => h.IsListIter it a i) where
  mem := by simp
  obj := fun i h st b hb => by
    have e : b = it := by simpa using hb
    subst e
    obtain ⟨o, e, c, d⟩ := st
    exact ⟨o, e, fun v z => by rw [d] at z; cases z⟩
  keep := fun i h h' st k => st.at fun o e => k it (by simp) o e
  item := by
    intro X hP hw hK hc i pins s σ H E I hf st hg
    subst hP hw hK
    obtain ⟨xs, x, hq, hx⟩ := hg
    obtain ⟨its, rv, p, hz⟩ := I.list hq
    obtain ⟨u, hu, ru⟩ := rv.get hx
    obtain ⟨f0, f1, f2, f3, f4, f5⟩ := hf it (by simp)
    refine wpAny_pyNext_list_item st p.isList (x := u) (by simpa using hu) fun h' st' sb => ?_
    have I1 : Inv X pins σ H { s with heap := h' } := I.turned (t' := s.toks) (fun b o hb e => (sb.2 b hb).trans e) f0 f1 f3 f4 f5
    obtain ⟨o, e, c, d⟩ := id st'
    exact ⟨u, rfl, go_of (s := { s with heap := h' }) e c d (by decide) ⟨x, H, I1, ru, ⟨rfl, fun ys hy => by rw [I.list_inj hy hq]; exact hx⟩, st', fun b hb => (hf b hb).1⟩⟩
  done := by
    intro X hP hw hK hc i pins s σ H E I hf st hg
    subst hP hw hK
    obtain ⟨xs, hq, hx⟩ := hg
    obtain ⟨its, rv, p, hz⟩ := I.list hq
    obtain ⟨f0, f1, f2, f3, f4, f5⟩ := hf it (by simp)
    have hl := rv.length
    exact wpAny_pyNext_list_end (I.ok.hd hc) st p.isList (by simp; omega) fun h' eb => ⟨rfl, I.turned (t' := s.toks) (fun b o hb e => eb b o hb e) f0 f1 f3 f4 f5⟩
  self := fun _ _ _ _ _ st h => wpAny_pyIter_listiter st h
theorem turn_range {P : Program} {w : World} {K : PySem.W.Frag} {tg : Expr} (it : Addr) (lo : Int) (n : Nat) : Turn P w K tg (Itr lo n) [it] it (fun i h => IsRangeIter h it (lo + (i : Nat) * 1) ((n : Int) - (i : Nat)) 1) where
  mem := by simp
  obj := fun i h st b hb => by
    have e : b = it := by simpa using hb
    subst e
    exact ⟨_, st, fun v z => by
      have z' : Data.fields _ = Data.cell v := z
      cases z'⟩
  keep := fun i h h' st k => k it (by simp) _ st
  item := by
    intro X hP hw hK hc i pins s σ H E I hf st hg
    subst hP hw hK
    obtain ⟨f0, f1, f2, f3, f4, f5⟩ := hf it (by simp)
    have W := Walks.range (prog := X.prog) (w := X.w) (I.ok.hd hc) it lo 1 n
    refine W.item i s _ _ hg st fun v h' tk hv st' kk => ?_
    obtain ⟨t, rfl⟩ := hv
    have I1 : Inv X pins σ H { s with heap := h', toks := tk } := I.turned (fun b o hb e => kk b o (by simpa using hb) e) f0 f1 f3 f4 f5
    refine ⟨_, rfl, go_of (s := { s with heap := h', toks := tk }) (n := "range_iterator") st' rfl rfl (by decide) ⟨.int (lo + i), H, I1, ⟨t, ?_⟩, ⟨rfl, rfl⟩, st', fun b hb => (hf b hb).1⟩⟩
    rw [Int.mul_one]
  done := by
    intro X hP hw hK hc i pins s σ H E I hf st hg
    subst hP hw hK
    obtain ⟨f0, f1, f2, f3, f4, f5⟩ := hf it (by simp)
    exact wpAny_pyNext_range_end (I.ok.hd hc) st (by have : n ≤ i := hg; omega) fun h' eb => ⟨rfl, I.turned (t' := s.toks) (fun b o hb e => eb b o hb e) f0 f1 f3 f4 f5⟩
  self := fun _ _ _ _ _ st h => wpAny_pyIter_rangeiter st h
end L2

namespace L2
open PySem PySem.Spec PyProof.Rows
section
variable {X : Cx} {tg : Expr}
def iList (K : PySem.W.Frag) (tl : TE) : TI := fun σ H R => tl σ H fun x H1 => ∃ a, x = .ref a ∧ (∃ xs, SqL K H1 a xs) ∧ R (Itl K a) H1
theorem pi_list {l : Expr} {tl : TE} (hl : PE X l tl) : PI X tg l (iList X.K tl) := by
  intro pins s σ H R I h
  refine thn (hl pins s σ H _ I h) fun v s1 ⟨x, H1, I1, r1, q1⟩ => ?_
  obtain ⟨a, e, ⟨xs, hq⟩, q⟩ := q1
  subst e
  cases r1
  obtain ⟨its, rv, p, hz⟩ := I1.list hq
  refine wpAny_pyIter_list p.isList ?_
  refine ⟨s1.heap.objs.size, [s1.heap.objs.size], _, _, H1, rfl, I1.kept (t' := s1.toks) fun b o e => Heap.get?_push_of_some _ e, turn_list a _, ⟨_, Heap.get?_push_size _ rfl, rfl, rfl⟩, fun b hb => ?_, q⟩
  have e : b = s1.heap.objs.size := by simpa using hb
  subst e
  exact I1.fpOk (Nat.le_refl _) (I1.hok.fresh (Nat.le_refl _))
/-- a range object just made, walked -/
theorem range_it {pins : List (Addr × Obj)} {σ : St} {H : Hp} {s : Shared} {R : It → Hp → Prop} {E : Value → Shared → Prop} {lo hi : Int} {t u v : Tok} {tk : Nat} (I : Inv X pins σ H s) (h1 : -(2 ^ 62) ≤ lo) (h2 : lo < 2 ^ 62) (h3 : -(2 ^ 62) ≤ hi) (h4 : hi < 2 ^ 62)
    (q : R (Itr lo (hi - lo).toNat) H) : wpAny (model X.prog X.w) X.A (pyIter (.ref s.heap.objs.size)) (PIE X pins σ tg R) E { s with heap := s.heap.push { cls := .type "range", data := .fields #[.int lo t, .int hi u, .int 1 v] }, toks := tk } := by
  refine wpAny_pyIter_range (IsRange.new ..) (small_one h1 h2 h3 h4) ?_
  have I1 : Inv X pins σ H { s with heap := s.heap.push { cls := .type "range", data := .fields #[.int lo t, .int hi u, .int 1 v] }, toks := tk } := I.kept fun b o e => Heap.get?_push_of_some _ e
  refine ⟨(s.heap.push { cls := .type "range", data := .fields #[.int lo t, .int hi u, .int 1 v] }).objs.size, [(s.heap.push { cls := .type "range", data := .fields #[.int lo t, .int hi u, .int 1 v] }).objs.size], _, _, H, rfl,
    I1.kept (t' := tk) fun b o e => Heap.get?_push_of_some _ e, turn_range _ lo (hi - lo).toNat, ?_, fun b hb => ?_, q⟩
  · have e1 : lo + ((0 : Nat) : Int) * 1 = lo := by simp
    have e2 : (((hi - lo).toNat : Nat) : Int) - ((0 : Nat) : Int) = Builtin.Range.rangeSize lo hi 1 := by rw [rangeSize_one]; split <;> omega
    show IsRangeIter _ _ (lo + ((0 : Nat) : Int) * 1) ((((hi - lo).toNat : Nat) : Int) - ((0 : Nat) : Int)) 1
    rw [e1, e2]
    exact Heap.get?_push_size _ rfl
  · have e : b = (s.heap.push { cls := .type "range", data := .fields #[.int lo t, .int hi u, .int 1 v] }).objs.size := by simpa using hb
    subst e
    exact I1.fpOk (Nat.le_refl _) (I1.hok.fresh (Nat.le_refl _))
def iRng1 (ta : TA) : TI := fun σ H R => ta σ H fun vs H1 => ∃ j : Int, vs = [.int j] ∧ -(2 ^ 62) ≤ j ∧ j < 2 ^ 62 ∧ R (Itr 0 j.toNat) H1
def iRng2 (ta : TA) : TI := fun σ H R => ta σ H fun vs H1 => ∃ i j : Int, vs = [.int i, .int j] ∧ (-(2 ^ 62) ≤ i ∧ i < 2 ^ 62 ∧ -(2 ^ 62) ≤ j ∧ j < 2 ^ 62) ∧ R (Itr i (j - i).toNat) H1
theorem pi_range1 {a : Expr} {ta : TA} {p pos : Pos} (hg : Gl X "range") (hm : X.mg "range" = none) (ha : PA X [a] ta) (hs : starEach [a] X.env = [(false, eval a X.env)] := by rfl) : PI X tg (.Call (.Name "range" p) [a] [] pos) (iRng1 ta) := by
  intro pins s σ H R I h
  refine Call_ (ld_blt I hg hm boot_range (PyProof.Rows.callWith_type1 (thn (ha pos pins s σ H _ I h) fun us s1 ⟨vs, H1, I1, r1, q1⟩ => ?_) hs rfl))
  obtain ⟨j, e, q1, q2, q⟩ := q1
  subst e
  cases r1 with
  | cons r rr =>
    cases rr
    obtain ⟨t, rfl⟩ := r
    exact call_range_1 (range_it I1 (by omega) (by omega) q1 q2 (by simpa using q))
theorem pi_range2 {a b : Expr} {ta : TA} {p pos : Pos} (hg : Gl X "range") (hm : X.mg "range" = none) (ha : PA X [a, b] ta) (hs : starEach [a, b] X.env = [(false, eval a X.env), (false, eval b X.env)] := by rfl) (hs2 : starEach [b] X.env = [(false, eval b X.env)] := by rfl) :
    PI X tg (.Call (.Name "range" p) [a, b] [] pos) (iRng2 ta) := by
  intro pins s σ H R I h
  refine Call_ (ld_blt I hg hm boot_range (PyProof.Rows.callWith_type1 (thn (ha pos pins s σ H _ I h) fun us s1 ⟨vs, H1, I1, r1, q1⟩ => ?_) (by rw [hs, hs2]) (by rw [hs2]; rfl)))
  obtain ⟨i, j, e, ⟨q1, q2, q3, q4⟩, q⟩ := q1
  subst e
  cases r1 with
  | cons r rr =>
    cases rr with
    | cons r' rr =>
      cases rr
      obtain ⟨t, rfl⟩ := r
      obtain ⟨t', rfl⟩ := r'
      exact call_range_2 (range_it I1 q1 q2 q3 q4 q)

/-! ### for -/
/-- W: the invariant by the turn and a measure; N: what the body is to reach -/
def tFor (wi : TI) (g : TG) (tb : TS) : TS := fun D σ H => wi σ H fun J H1 => ∃ W : Nat → Nat → St → Hp → Prop, (∃ m, W 0 m σ H1) ∧ ∀ i m σ H, W i m σ H →
  (J.stop i H ∧ D.nx σ H) ∨ (J.go i H ∧ ∃ N : St → Hp → Prop, (∀ σ' H', N σ' H' → ∃ m', m' < m ∧ W (i + 1) m' σ' H') ∧ ∀ x H', J.yld i H x H' → g x σ H' fun σ2 H2 => tb { D with nx := N, ct := N, bk := D.nx } σ2 H2)
/-- the records at fp as they stand -/
def pinsAt (fp : List Addr) (h : Heap) : List (Addr × Obj) := fp.filterMap fun b => (h.get? b).map fun o => (b, o)
theorem mem_pinsAt {fp : List Addr} {h : Heap} {b : Addr} {o : Obj} (hb : b ∈ fp) (e : h.get? b = some o) : (b, o) ∈ pinsAt fp h := List.mem_filterMap.mpr ⟨b, hb, by rw [e]; rfl⟩
theorem of_pinsAt {fp : List Addr} {h : Heap} {p : Addr × Obj} (hp : p ∈ pinsAt fp h) : p.1 ∈ fp ∧ h.get? p.1 = some p.2 := by
  obtain ⟨b, hb, e⟩ := List.mem_filterMap.mp hp
  cases q : h.get? b with
  | none => rw [q] at e; cases e
  | some o =>
    rw [q] at e
    have e' : (b, o) = p := Option.some.inj e
    subst e'
    exact ⟨hb, q⟩
theorem Inv.pinned {pins : List (Addr × Obj)} {σ : St} {H : Hp} {s : Shared} {fp : List Addr} (I : Inv X pins σ H s) (hf : ∀ b ∈ fp, FpOk X pins H b) (ho : ∀ b ∈ fp, ∃ o, s.heap.get? b = some o ∧ ∀ v, o.data ≠ .cell v) : Inv X (pins ++ pinsAt fp s.heap) σ H s :=
  I.pins_of fun p hp => (List.mem_append.mp hp).elim (fun z => I.pin p (List.mem_append_right _ z)) fun z => by
    obtain ⟨hb, e⟩ := of_pinsAt z
    obtain ⟨f0, f1, f2, _⟩ := hf p.1 hb
    obtain ⟨o, e', d⟩ := ho p.1 hb
    rw [e] at e'; cases e'
    exact ⟨e, f0, f1, f2, d⟩
theorem Inv.unpinned {pins pl : List (Addr × Obj)} {σ : St} {H : Hp} {s : Shared} (I : Inv X (pins ++ pl) σ H s) : Inv X pins σ H s := I.pins_of fun p hp => I.pin p (List.mem_append_right _ (List.mem_append_left _ hp))
theorem ps_for {iter : Expr} {body : List Stmt} {wi : TI} {g : TG} {tb : TS} {pos : Pos} (hp : PassesOwn (model X.prog X.w) X.A X.env X.xe) (hc : X.calm = true) (hi : PI X tg iter wi) (hg : PG X tg g) (hb : PSs X body tb)
    (hs : ∀ x, foldedSetIterable iter X.env x = pure x := by intro _; rfl) : PS X (.For tg iter body [] pos) (tFor wi g tb) := by
  intro pins s σ H D I h
  refine wpAny_For (thn (hi pins s σ H _ I h) fun v s1 h1 => thn h1 fun itv s2 h2 => ?_) hs
  obtain ⟨it, fp, tn, J, H2, e, I2, T, st2, f2, W, ⟨m0, w0⟩, turn⟩ := h2
  subst e
  -- what stays true of the iterator's objects through the loop
  have stat : ∀ {H' : Hp}, (∀ b ∈ fp, H' b = none) → ∀ b ∈ fp, FpOk X pins H' b := fun hn b hb => ⟨hn b hb, (f2 b hb).2⟩
  refine codeAny_forLoop_any (fun n s' => ∃ i σ' H', Inv X pins σ' H' s' ∧ tn i s'.heap ∧ (∀ b ∈ fp, H' b = none) ∧ W i n σ' H') ?_ m0 ⟨0, σ, H2, I2, st2, fun b hb => (f2 b hb).1, w0⟩
  rintro n s3 ⟨i, σ3, H3, I3, st3, fr3, w3⟩
  rcases turn i n σ3 H3 w3 with ⟨stop, qn⟩ | ⟨go, N, hN, step⟩
  · refine wpAny_passesOwn hp (thn (T.done X rfl rfl rfl hc i pins s3 σ3 H3 X.xe I3 (stat fr3) st3 stop) fun r s4 ⟨hr, I4⟩ => ?_)
    subst hr
    exact wpAny_execs_nil ⟨σ3, H3, I4, qn⟩
  · refine wpAny_passesOwn hp (thn (T.item X rfl rfl rfl hc i pins s3 σ3 H3 X.xe I3 (stat fr3) st3 go) fun r s4 ⟨u, hr, h4⟩ => ?_)
    subst hr
    refine wpAny_passesOwn hp (thn h4 fun _ s5 ⟨x, H5, I5, r5, y5, st5, fr5⟩ => ?_)
    have I5' := I5.pinned (stat fr5) (T.obj _ _ st5)
    refine wpAny_passesOwn hp (thn (hg _ s5 σ3 H5 x u _ I5' r5 (step x H5 y5)) fun _ s6 ⟨σ6, H6, I6, q6⟩ => ?_)
    refine wpAny_passesOwn hp (thn (hb _ s6 σ6 H6 _ I6 q6) fun f s7 q7 => ?_)
    have again : ∀ {σ7 : St} {H7 : Hp}, Inv X (pins ++ pinsAt fp s5.heap) σ7 H7 s7 → N σ7 H7 → ∃ m, m < n ∧ ∃ i σ' H', Inv X pins σ' H' s7 ∧ tn i s7.heap ∧ (∀ b ∈ fp, H' b = none) ∧ W i m σ' H' := fun {σ7 H7} I7 n7 => by
      obtain ⟨m', hm, w7⟩ := hN σ7 H7 n7
      refine ⟨m', hm, i + 1, σ7, H7, I7.unpinned, T.keep _ _ _ st5 fun b hb o e => (I7.pin (b, o) (List.mem_append_right _ (List.mem_append_right _ (mem_pinsAt hb e)))).1, fun b hb => ?_, w7⟩
      obtain ⟨o, e, d⟩ := T.obj _ _ st5 b hb
      exact (I7.pin (b, o) (List.mem_append_right _ (List.mem_append_right _ (mem_pinsAt hb e)))).2.1
    cases f with
    | next => obtain ⟨σ7, H7, I7, n7⟩ := q7; exact again I7 n7
    | cont => obtain ⟨σ7, H7, I7, n7⟩ := q7; exact again I7 n7
    | brk => obtain ⟨σ7, H7, I7, q7⟩ := q7; exact ⟨σ7, H7, I7.unpinned, q7⟩
    | ret v => obtain ⟨x7, σ7, H7, I7, r7, q7⟩ := q7; exact ⟨x7, σ7, H7, I7.unpinned, r7, q7⟩
end

/-! ### the forms one uses -/
/-- over a list that the body leaves as it is -/
theorem for_list {K : PySem.W.Frag} {a : Addr} {xs : List V} {g : TG} {tb : TS} {D : Ends} {σ : St} {H : Hp} (Pv : Nat → St → Hp → Prop) (h0 : Pv 0 σ H) (hl : ∀ i σ H, i ≤ xs.length → Pv i σ H → SqL K H a xs)
    (hs : ∀ i x σ H, xs[i]? = some x → Pv i σ H → g x σ H fun σ2 H2 => tb { D with nx := Pv (i + 1), ct := Pv (i + 1), bk := D.nx } σ2 H2) (hd : ∀ σ H, Pv xs.length σ H → D.nx σ H) :
    ∃ W : Nat → Nat → St → Hp → Prop, (∃ m, W 0 m σ H) ∧ ∀ i m σ H, W i m σ H →
      ((Itl K a).stop i H ∧ D.nx σ H) ∨ ((Itl K a).go i H ∧ ∃ N : St → Hp → Prop, (∀ σ' H', N σ' H' → ∃ m', m' < m ∧ W (i + 1) m' σ' H') ∧ ∀ x H', (Itl K a).yld i H x H' → g x σ H' fun σ2 H2 => tb { D with nx := N, ct := N, bk := D.nx } σ2 H2) := by
  refine ⟨fun i m σ H => m = xs.length - i ∧ i ≤ xs.length ∧ Pv i σ H, ⟨xs.length, by simp, Nat.zero_le _, h0⟩, ?_⟩
  rintro i m σ H ⟨rfl, hi, p⟩
  have q := hl i σ H hi p
  by_cases hlt : i < xs.length
  · refine .inr ⟨⟨xs, xs[i], q, by simp [hlt]⟩, Pv (i + 1), fun σ' H' p' => ⟨xs.length - (i + 1), by omega, rfl, hlt, p'⟩, fun x H' y => ?_⟩
    obtain ⟨e, y⟩ := y
    subst e
    exact hs i x σ _ (y xs q) p
  · have e : i = xs.length := by omega
    subst e
    exact .inl ⟨⟨xs, q, Nat.le_refl _⟩, hd σ H p⟩
theorem for_range {lo : Int} {n : Nat} {g : TG} {tb : TS} {D : Ends} {σ : St} {H : Hp} (Pv : Nat → St → Hp → Prop) (h0 : Pv 0 σ H)
    (hs : ∀ i σ H, i < n → Pv i σ H → g (.int (lo + i)) σ H fun σ2 H2 => tb { D with nx := Pv (i + 1), ct := Pv (i + 1), bk := D.nx } σ2 H2) (hd : ∀ σ H, Pv n σ H → D.nx σ H) :
    ∃ W : Nat → Nat → St → Hp → Prop, (∃ m, W 0 m σ H) ∧ ∀ i m σ H, W i m σ H →
      ((Itr lo n).stop i H ∧ D.nx σ H) ∨ ((Itr lo n).go i H ∧ ∃ N : St → Hp → Prop, (∀ σ' H', N σ' H' → ∃ m', m' < m ∧ W (i + 1) m' σ' H') ∧ ∀ x H', (Itr lo n).yld i H x H' → g x σ H' fun σ2 H2 => tb { D with nx := N, ct := N, bk := D.nx } σ2 H2) := by
  refine ⟨fun i m σ H => m = n - i ∧ i ≤ n ∧ Pv i σ H, ⟨n, by simp, Nat.zero_le _, h0⟩, ?_⟩
  rintro i m σ H ⟨rfl, hi, p⟩
  by_cases hlt : i < n
  · refine .inr ⟨hlt, Pv (i + 1), fun σ' H' p' => ⟨n - (i + 1), by omega, rfl, hlt, p'⟩, fun x H' y => ?_⟩
    obtain ⟨e, y⟩ := y
    subst e y
    exact hs i σ _ hlt p
  · have e : i = n := by omega
    subst e
    exact .inl ⟨Nat.le_refl _, hd σ H p⟩
/-- while, by a word and a measure of the state -/
theorem while_by {c : TT} {tb : TS} {D : Ends} {σ : St} {H : Hp} (Pv : St → Hp → Prop) (μ : St → Hp → Nat) (h0 : Pv σ H)
    (hs : ∀ σ H, Pv σ H → c σ H fun b H1 => if b = true then tb { D with nx := fun σ' H' => Pv σ' H' ∧ μ σ' H' < μ σ H, ct := fun σ' H' => Pv σ' H' ∧ μ σ' H' < μ σ H, bk := D.nx } σ H1 else D.nx σ H1)
    (mono : ∀ σ H Q Q', (∀ b H1, Q b H1 → Q' b H1) → c σ H Q → c σ H Q') : tWhile c tb D σ H := by
  refine ⟨fun m σ H => m = μ σ H ∧ Pv σ H, ⟨_, rfl, h0⟩, ?_⟩
  rintro m σ H ⟨rfl, p⟩
  refine mono σ H _ _ (fun b H1 q => ?_) (hs σ H p)
  cases b with
  | true => exact ⟨_, fun σ' H' ⟨p', l⟩ => ⟨_, l, rfl, p'⟩, q⟩
  | false => exact q
end L2

namespace L2
open PySem PySem.Spec PyProof.Rows

abbrev R2 := V → V → Hp → VK → Prop
/-- a two-place operation on values: f is binaryOp op, inplaceOp op or compareOp op -/
def OpR (X : Cx) (f : Value → Value → Sem Value) (r : R2) : Prop :=
  ∀ (pins : List (Addr × Obj)) (s : Shared) (σ : St) (H : Hp) (x y : V) (v u : Value) (Q : VK), Inv X pins σ H s → RelV x v → RelV y u → r x y H Q →
    wpAny (model X.prog X.w) X.A (f v u) (EP X pins σ Q) X.xe s
/-- a one-place operation -/
def UnR (X : Cx) (f : Value → Sem Value) (r : V → Hp → VK → Prop) : Prop :=
  ∀ (pins : List (Addr × Obj)) (s : Shared) (σ : St) (H : Hp) (x : V) (v : Value) (Q : VK), Inv X pins σ H s → RelV x v → r x H Q →
    wpAny (model X.prog X.w) X.A (f v) (EP X pins σ Q) X.xe s
/-- a call of a value that is known (a builtin, a type) with values -/
def CallR (X : Cx) (f : Value) (r : List V → Hp → VK → Prop) : Prop :=
  ∀ (pins : List (Addr × Obj)) (s : Shared) (σ : St) (H : Hp) (xs : List V) (us : List Value) (Q : VK), Inv X pins σ H s → Vals xs us → r xs H Q →
    wpAny (model X.prog X.w) X.A (call f us) (EP X pins σ Q) X.xe s

def tOp (r : R2) (ta tb : TE) : TE := fun σ H Q => ta σ H fun x H1 => tb σ H1 fun y H2 => r x y H2 Q
def tUn (r : V → Hp → VK → Prop) (ta : TE) : TE := fun σ H Q => ta σ H fun x H1 => r x H1 Q
/-- ints in, under C, and a value out -/
def rI (C : Int → Int → Prop) (g : Int → Int → V) : R2 := fun x y H Q => ∃ i j, x = .int i ∧ y = .int j ∧ C i j ∧ Q (g i j) H
def rI0 (g : Int → Int → V) : R2 := fun x y H Q => ∃ i j, x = .int i ∧ y = .int j ∧ Q (g i j) H
def rU (g : Int → V) : V → Hp → VK → Prop := fun x H Q => ∃ i, x = .int i ∧ Q (g i) H

section
variable {X : Cx} {a b c : Expr} {ta tb tc : TE} {pos : Pos}

theorem binT (ha : PE X a ta) (hb : PE X b tb) {pins : List (Addr × Obj)} {s : Shared} {σ : St} {H : Hp} {R : V → V → Hp → Prop} (I : Inv X pins σ H s)
    (h : ta σ H fun x H1 => tb σ H1 fun y H2 => R x y H2) {Q : Value → Shared → Prop} {f : Value → Value → Sem Value}
    (hf : ∀ v u s2 x y H2, Inv X pins σ H2 s2 → RelV x v → RelV y u → R x y H2 → wpAny (model X.prog X.w) X.A (f v u) Q X.xe s2) :
    wpAny (model X.prog X.w) X.A (eval a X.env) (fun v s₁ => wpAny (model X.prog X.w) X.A (eval b X.env) (fun u s₂ => wpAny (model X.prog X.w) X.A (f v u) Q X.xe s₂) X.xe s₁) X.xe s := by
  refine thn (ha pins s σ H _ I h) fun v s1 ⟨x, H1, I1, r1, q1⟩ => ?_
  refine thn (hb pins s1 σ H1 _ I1 q1) fun u s2 ⟨y, H2, I2, r2, q2⟩ => ?_
  exact hf v u s2 x y H2 I2 r1 r2 q2

theorem pe_op {op : Operator} {r : R2} (ho : OpR X (binaryOp op) r) (ha : PE X a ta) (hb : PE X b tb) : PE X (.BinOp a op b pos) (tOp r ta tb) := by
  intro pins s σ H Q I h
  exact wpAny_BinOp (binT ha hb I h fun v u s2 x y H2 I2 rx ry q => ho pins s2 σ H2 x y v u Q I2 rx ry q)
theorem pe_un {op : UnaryOp} {r : V → Hp → VK → Prop} (ho : UnR X (unaryOp op) r) (ha : PE X a ta) : PE X (.UnaryOp op a pos) (tUn r ta) := by
  intro pins s σ H Q I h
  exact UnaryOp_ (thn (ha pins s σ H _ I h) fun v s1 ⟨x, H1, I1, r1, q1⟩ => ho pins s1 σ H1 x v Q I1 r1 q1)

/-! ### ints -/
theorem opI {f : Value → Value → Sem Value} {C : Int → Int → Prop} {g : Int → Int → Int}
    (rule : ∀ (i j : Int) (t u : Tok) (s : Shared) (Q : Value → Shared → Prop) (E : Value → Shared → Prop), C i j → Q (.int (g i j) s.toks) { s with toks := s.toks + 1 } → wpAny (model X.prog X.w) X.A (f (.int i t) (.int j u)) Q E s) :
    OpR X f (rI C fun i j => .int (g i j)) := by
  intro pins s σ H x y v u Q I rx ry h
  obtain ⟨i, j, rfl, rfl, hc, q⟩ := h
  obtain ⟨t, rfl⟩ := rx
  obtain ⟨t', rfl⟩ := ry
  exact rule i j t t' s _ _ hc ⟨.int (g i j), H, I.tok _, ⟨_, rfl⟩, q⟩
theorem opI0 {f : Value → Value → Sem Value} {g : Int → Int → Int}
    (rule : ∀ (i j : Int) (t u : Tok) (s : Shared) (Q : Value → Shared → Prop) (E : Value → Shared → Prop), Q (.int (g i j) s.toks) { s with toks := s.toks + 1 } → wpAny (model X.prog X.w) X.A (f (.int i t) (.int j u)) Q E s) :
    OpR X f (rI0 fun i j => .int (g i j)) := by
  intro pins s σ H x y v u Q I rx ry h
  obtain ⟨i, j, rfl, rfl, q⟩ := h
  obtain ⟨t, rfl⟩ := rx
  obtain ⟨t', rfl⟩ := ry
  exact rule i j t t' s _ _ ⟨.int (g i j), H, I.tok _, ⟨_, rfl⟩, q⟩
theorem opB0 {f : Value → Value → Sem Value} {g : Int → Int → Bool}
    (rule : ∀ (i j : Int) (t u : Tok) (s : Shared) (Q : Value → Shared → Prop) (E : Value → Shared → Prop), Q (.bool (g i j)) s → wpAny (model X.prog X.w) X.A (f (.int i t) (.int j u)) Q E s) :
    OpR X f (rI0 fun i j => .bl (g i j)) := by
  intro pins s σ H x y v u Q I rx ry h
  obtain ⟨i, j, rfl, rfl, q⟩ := h
  obtain ⟨t, rfl⟩ := rx
  obtain ⟨t', rfl⟩ := ry
  exact rule i j t t' s _ _ ⟨.bl (g i j), H, I, rfl, q⟩

def CPow (i j : Int) : Prop := 0 ≤ j ∧ j ≤ 1000000 ∧ i.natAbs < 2 ^ 64
def CMul (i j : Int) : Prop := (-(2 ^ 64) < i ∧ i < 2 ^ 64) ∨ (-(2 ^ 64) < j ∧ j < 2 ^ 64)
theorem CMul.ok {i j : Int} (h : CMul i j) : IntMulOk i j := by
  rcases h with ⟨h1, h2⟩ | ⟨h1, h2⟩
  · exact .of_left (intBits_le_64 h1 h2)
  · exact .of_right (intBits_le_64 h1 h2)

theorem op_add : OpR X (binaryOp .Add) (rI0 fun i j => .int (i + j)) := opI0 fun _ _ _ _ _ _ _ q => add_int q
theorem op_sub : OpR X (binaryOp .Sub) (rI0 fun i j => .int (i - j)) := opI0 fun _ _ _ _ _ _ _ q => sub_int q
/-- % by a positive divisor of any size -/
theorem op_mod : OpR X (binaryOp .Mod) (rI (fun _ j => 0 < j) fun i j => .int (i % j)) := opI fun i j _ _ _ _ _ hc q => by
  have h1 : (0 : Int) < j := hc
  exact mod_int' (by omega) (by rw [Int.fmod_eq_emod_of_nonneg i (by omega)]; exact q)
theorem op_pow : OpR X (binaryOp .Pow) (rI CPow fun i j => .int (i ^ j.toNat)) := opI fun _ _ _ _ _ _ _ hc q => pow_int_small hc.1 hc.2.1 hc.2.2 q


theorem unI {f : Value → Sem Value} {g : Int → Int}
    (rule : ∀ (i : Int) (t : Tok) (s : Shared) (Q : Value → Shared → Prop) (E : Value → Shared → Prop), Q (.int (g i) s.toks) { s with toks := s.toks + 1 } → wpAny (model X.prog X.w) X.A (f (.int i t)) Q E s) :
    UnR X f (rU fun i => .int (g i)) := by
  intro pins s σ H x v Q I rx h
  obtain ⟨i, rfl, q⟩ := h
  obtain ⟨t, rfl⟩ := rx
  exact rule i t s _ _ ⟨.int (g i), H, I.tok _, ⟨_, rfl⟩, q⟩
theorem un_neg : UnR X (unaryOp .USub) (rU fun i => .int (-i)) := unI fun _ _ _ _ _ q => neg_int q

/-! ### bools among ints: n += (a < b) -/
end

/-! ### comparisons -/
/-- the scalars that == tells apart as data does -/
def scal : V → V → Bool
  | .non, .non => true | .non, .int _ => true | .int _, .non => true | .non, .bl _ => true | .bl _, .non => true | .non, .str _ => true | .str _, .non => true
  | .int _, .int _ => true | .bl _, .bl _ => true | .str _, .str _ => true | .byt _, .byt _ => true
  | .int _, .str _ => true | .str _, .int _ => true | .bl _, .str _ => true | .str _, .bl _ => true
  | _, _ => false
def rEq : R2 := fun x y H Q => scal x y = true ∧ Q (.bl (decide (x = y))) H
def rNe : R2 := fun x y H Q => scal x y = true ∧ Q (.bl (!decide (x = y))) H

theorem dec_int {i j : Int} : decide (V.int i = V.int j) = (i == j) := by
  rw [Bool.eq_iff_iff]
  simp
theorem dec_bl {i j : Bool} : decide (V.bl i = V.bl j) = (i == j) := by
  rw [Bool.eq_iff_iff]
  simp
theorem dec_str {i j : Str} : decide (V.str i = V.str j) = (i == j) := by
  rw [Bool.eq_iff_iff]
  simp
theorem dec_byt {i j : Array UInt8} : decide (V.byt i = V.byt j) = (i.toList == j.toList) := by
  rw [Bool.eq_iff_iff]
  cases i
  cases j
  simp

section
variable {X : Cx} {a b c : Expr} {ta tb tc : TE} {pos : Pos}
theorem fin_bl {pins : List (Addr × Obj)} {σ : St} {H : Hp} {s : Shared} {Q : VK} {k k' : Bool} (I : Inv X pins σ H s) (q : Q (.bl k) H) (e : k = k') : EP X pins σ Q (.bool k') s := by
  subst e
  exact ⟨.bl k, H, I, rfl, q⟩
theorem op_eq : OpR X (compareOp .Eq) rEq := by
  intro pins s σ H x y v u Q I rx ry h
  obtain ⟨hs, q⟩ := h
  cases x with
  | non =>
    cases rx
    cases y with
    | non => cases ry; exact PySem.EqNone.eq_none_none (fin_bl I q (by simp))
    | bl j => cases ry; exact PySem.EqNone.eq_none_bool (fin_bl I q (by simp))
    | int j => obtain ⟨t', rfl⟩ := ry; exact PySem.EqNone.eq_none_int (fin_bl I q (by simp))
    | str j => obtain ⟨t', rfl⟩ := ry; exact PySem.EqNone.eq_none_str (fin_bl I q (by simp))
    | _ => exact absurd (show false = true from hs) Bool.false_ne_true
  | bl i =>
    cases rx
    cases y with
    | non => cases ry; exact PySem.EqNone.eq_bool_none (fin_bl I q (by simp))
    | bl j => cases ry; exact eq_bool (fin_bl I q dec_bl)
    | str j => obtain ⟨t', rfl⟩ := ry; exact PySem.EqMixed.eq_bool_str (fin_bl I q (by simp))
    | _ => exact absurd (show false = true from hs) Bool.false_ne_true
  | int i =>
    obtain ⟨t, rfl⟩ := rx
    cases y with
    | non => cases ry; exact PySem.EqNone.eq_int_none (fin_bl I q (by simp))
    | int j => obtain ⟨t', rfl⟩ := ry; exact eq_int (fin_bl I q dec_int)
    | str j => obtain ⟨t', rfl⟩ := ry; exact PySem.EqMixed.eq_int_str (fin_bl I q (by simp))
    | _ => exact absurd (show false = true from hs) Bool.false_ne_true
  | str i =>
    obtain ⟨t, rfl⟩ := rx
    cases y with
    | non => cases ry; exact PySem.EqNone.eq_str_none (fin_bl I q (by simp))
    | bl j => cases ry; exact PySem.EqMixed.eq_str_bool (fin_bl I q (by simp))
    | int j => obtain ⟨t', rfl⟩ := ry; exact PySem.EqMixed.eq_str_int (fin_bl I q (by simp))
    | str j => obtain ⟨t', rfl⟩ := ry; exact eq_str (fin_bl I q dec_str)
    | _ => exact absurd (show false = true from hs) Bool.false_ne_true
  | byt i =>
    obtain ⟨t, rfl⟩ := rx
    cases y with
    | byt j => obtain ⟨t', rfl⟩ := ry; exact PySem.W.eq_bytes (fin_bl I q dec_byt)
    | _ => exact absurd (show false = true from hs) Bool.false_ne_true
  | _ => cases y <;> exact absurd (show false = true from hs) Bool.false_ne_true
theorem op_ne : OpR X (compareOp .NotEq) rNe := by
  intro pins s σ H x y v u Q I rx ry h
  obtain ⟨hs, q⟩ := h
  cases x with
  | non =>
    cases rx
    cases y with
    | non => cases ry; exact PySem.EqNone.ne_none_none (fin_bl I q (by simp))
    | bl j => cases ry; exact PySem.EqNone.ne_none_bool (fin_bl I q (by simp))
    | int j => obtain ⟨t', rfl⟩ := ry; exact PySem.EqNone.ne_none_int (fin_bl I q (by simp))
    | str j => obtain ⟨t', rfl⟩ := ry; exact PySem.EqNone.ne_none_str (fin_bl I q (by simp))
    | _ => exact absurd (show false = true from hs) Bool.false_ne_true
  | bl i =>
    cases rx
    cases y with
    | non => cases ry; exact PySem.EqNone.ne_bool_none (fin_bl I q (by simp))
    | bl j => cases ry; exact ne_bool (fin_bl I q (congrArg not dec_bl))
    | str j => obtain ⟨t', rfl⟩ := ry; exact PySem.EqMixed.ne_bool_str (fin_bl I q (by simp))
    | _ => exact absurd (show false = true from hs) Bool.false_ne_true
  | int i =>
    obtain ⟨t, rfl⟩ := rx
    cases y with
    | non => cases ry; exact PySem.EqNone.ne_int_none (fin_bl I q (by simp))
    | int j => obtain ⟨t', rfl⟩ := ry; exact ne_int (fin_bl I q (congrArg not dec_int))
    | str j => obtain ⟨t', rfl⟩ := ry; exact PySem.EqMixed.ne_int_str (fin_bl I q (by simp))
    | _ => exact absurd (show false = true from hs) Bool.false_ne_true
  | str i =>
    obtain ⟨t, rfl⟩ := rx
    cases y with
    | non => cases ry; exact PySem.EqNone.ne_str_none (fin_bl I q (by simp))
    | bl j => cases ry; exact PySem.EqMixed.ne_str_bool (fin_bl I q (by simp))
    | int j => obtain ⟨t', rfl⟩ := ry; exact PySem.EqMixed.ne_str_int (fin_bl I q (by simp))
    | str j => obtain ⟨t', rfl⟩ := ry; exact ne_str (fin_bl I q (congrArg not dec_str))
    | _ => exact absurd (show false = true from hs) Bool.false_ne_true
  | byt i =>
    obtain ⟨t, rfl⟩ := rx
    cases y with
    | byt j => obtain ⟨t', rfl⟩ := ry; exact PySem.W.ne_bytes (fin_bl I q (congrArg not dec_byt))
    | _ => exact absurd (show false = true from hs) Bool.false_ne_true
  | _ => cases y <;> exact absurd (show false = true from hs) Bool.false_ne_true

theorem op_lt : OpR X (compareOp .Lt) (rI0 fun i j => .bl (decide (i < j))) := opB0 fun _ _ _ _ _ _ _ q => lt_int q
theorem op_gt : OpR X (compareOp .Gt) (rI0 fun i j => .bl (decide (j < i))) := opB0 fun _ _ _ _ _ _ _ q => gt_int q



/-- two rules for one operation: by cases -/
theorem OpR.or {f : Value → Value → Sem Value} {r r' : R2} (h : OpR X f r) (h' : OpR X f r') : OpR X f (fun x y H Q => r x y H Q ∨ r' x y H Q) := by
  intro pins s σ H x y v u Q I rx ry q
  rcases q with q | q
  · exact h pins s σ H x y v u Q I rx ry q
  · exact h' pins s σ H x y v u Q I rx ry q

theorem nomark (b : Expr) {op : CmpOp} (h : op ≠ .In := by decide) (h2 : op ≠ .NotIn := by decide) : behindInMarks op b = false := by
  have e1 : (op == CmpOp.In) = false := by cases op <;> first | rfl | exact absurd rfl h
  have e2 : (op == CmpOp.NotIn) = false := by cases op <;> first | rfl | exact absurd rfl h2
  cases b <;> simp [behindInMarks, e1, e2]
/-- a comparison as a value; hm: nomark b, or (for in, not in) by with_unfolding_all rfl -/
theorem pe_cmpR {op : CmpOp} {r : R2} (ho : OpR X (compareOp op) r) (ha : PE X a ta) (hb : PE X b tb) (hm : behindInMarks op b = false) : PE X (.Compare a [op] [b] pos) (tOp r ta tb) := by
  intro pins s σ H Q I h
  exact wpAny_Compare1 (binT ha hb I h fun v u s2 x y H2 I2 rx ry q => ho pins s2 σ H2 x y v u Q I2 rx ry q) hm
/-- a reading of a value as a test -/
def tTest (t : TE) : TT := fun σ H Q => t σ H fun x H' => ∃ k, x = .bl k ∧ Q k H'
theorem pt_cmpR {op : CmpOp} {r : R2} (ho : OpR X (compareOp op) r) (ha : PE X a ta) (hb : PE X b tb) (hm : behindInMarks op b = false) : PT X (.Compare a [op] [b] pos) (tTest (tOp r ta tb)) := by
  intro pins s σ H Q I h
  refine wpAny_isTrue_Compare1 (thn (ha pins s σ H _ I h) fun v s1 ⟨x, H1, I1, r1, q1⟩ => thn (hb pins s1 σ H1 _ I1 q1) fun u s2 ⟨y, H2, I2, r2, q2⟩ =>
    thn (ho pins s2 σ H2 x y v u _ I2 r1 r2 q2) fun c s3 ⟨z, H3, I3, r3, k, e, q3⟩ => ?_) hm
  subst e
  cases r3
  exact wpAny_truthy_bool ⟨H3, I3, q3⟩

/-! ### truth -/
theorem line63 : (sizeLine : Nat) < 2 ^ 63 := by rw [sizeLine_eq]; decide

/-! ### strs and bytes -/
theorem op_add_str : OpR X (binaryOp .Add) (fun x y H Q => ∃ i j, x = .str i ∧ y = .str j ∧ i.length + j.length ≤ sizeLine ∧ Q (.str (i ++ j)) H) := by
  intro pins s σ H x y v u Q I rx ry h
  obtain ⟨i, j, rfl, rfl, hz, q⟩ := h
  obtain ⟨t, rfl⟩ := rx
  obtain ⟨t', rfl⟩ := ry
  exact add_str (fun t' tk => ⟨.str (i ++ j), H, I.tok _, ⟨_, rfl⟩, q⟩) hz


/-! ### scalar builtins, by CallR -/
theorem vals1 {x : V} {us : List Value} (r : Vals [x] us) : ∃ u, us = [u] ∧ RelV x u := by
  cases r with
  | cons r1 r2 => cases r2; exact ⟨_, rfl, r1⟩
theorem vals2 {x y : V} {us : List Value} (r : Vals [x, y] us) : ∃ u w', us = [u, w'] ∧ RelV x u ∧ RelV y w' := by
  cases r with
  | cons r1 r2 =>
    cases r2 with
    | cons r3 r4 => cases r4; exact ⟨_, _, rfl, r1, r3⟩
theorem call_abs : CallR X (.builtin "abs") (fun xs H Q => ∃ i, xs = [.int i] ∧ Q (.int (if i < 0 then -i else i)) H) := by
  intro pins s σ H xs us Q I r h
  obtain ⟨i, rfl, q⟩ := h
  obtain ⟨u, rfl, t, rfl⟩ := vals1 r
  exact call_abs_int fun u tk => ⟨.int (if i < 0 then -i else i), H, I.tok _, ⟨_, rfl⟩, q⟩
theorem call_min2 (hc : X.calm = true) : CallR X (.builtin "min") (fun xs H Q => ∃ i j, xs = [.int i, .int j] ∧ Q (.int (if j < i then j else i)) H) := by
  intro pins s σ H xs us Q I r h
  obtain ⟨i, j, rfl, q⟩ := h
  obtain ⟨u, w', rfl, ⟨t, rfl⟩, ⟨t', rfl⟩⟩ := vals2 r
  refine min_two_ints (I.ok.hd hc) fun h' tk k => ⟨_, H, I.kept k, ?_, q⟩
  by_cases hj : j < i
  · rw [if_pos hj, if_pos hj]; exact ⟨_, rfl⟩
  · rw [if_neg hj, if_neg hj]; exact ⟨_, rfl⟩
theorem call_int1 : CallR X (.type "int") (fun xs H Q => (∃ i, xs = [.int i] ∧ Q (.int i) H) ∨ ∃ k, xs = [.bl k] ∧ Q (.int (if k then 1 else 0)) H) := by
  intro pins s σ H xs us Q I r h
  rcases h with ⟨i, rfl, q⟩ | ⟨k, rfl, q⟩
  · obtain ⟨u, rfl, t, rfl⟩ := vals1 r
    exact call_int_int ⟨.int i, H, I, ⟨_, rfl⟩, q⟩
  · obtain ⟨u, rfl, r1⟩ := vals1 r
    cases r1
    exact call_int_bool ⟨.int (if k then 1 else 0), H, I.tok _, ⟨_, rfl⟩, q⟩
/-- len of a str, a bytes, a list, a tuple -/
def LenV (K : PySem.W.Frag) (x : V) (H : Hp) (n : Nat) : Prop :=
  match x with
  | .str y => y.length ≤ sizeLine ∧ n = y.length
  | .byt y => y.size ≤ sizeLine ∧ n = y.size
  | .ref p => (∃ xs, SqL K H p xs ∧ n = xs.length) ∨ ∃ xs, SqT K H p xs ∧ n = xs.length
  | _ => False
theorem call_len : CallR X (.builtin "len") (fun xs H Q => ∃ x n, xs = [x] ∧ LenV X.K x H n ∧ Q (.int n) H) := by
  intro pins s σ H xs us Q I r h
  obtain ⟨x, n, rfl, e, q⟩ := h
  obtain ⟨u, rfl, rx⟩ := vals1 r
  have hl := line63
  have hs : sizeLine = 16777216 := sizeLine_eq
  cases x with
  | str y =>
    obtain ⟨t, rfl⟩ := rx
    obtain ⟨hy, e'⟩ : y.length ≤ sizeLine ∧ n = y.length := e
    subst e'
    exact len_str (by omega) ⟨.int _, H, I.tok _, ⟨_, rfl⟩, q⟩
  | byt y =>
    obtain ⟨t, rfl⟩ := rx
    obtain ⟨hy, e'⟩ : y.size ≤ sizeLine ∧ n = y.size := e
    subst e'
    exact PySem.W.len_bytes (by omega) ⟨.int _, H, I.tok _, ⟨_, rfl⟩, q⟩
  | ref p =>
    cases rx
    have e' : (∃ xs, SqL X.K H p xs ∧ n = xs.length) ∨ ∃ xs, SqT X.K H p xs ∧ n = xs.length := e
    rcases e' with ⟨xs, hx, e'⟩ | ⟨xs, hx, e'⟩
    · subst e'
      obtain ⟨its, r', pl, hz⟩ := I.list hx
      have hlen := r'.length
      exact Calls.call_len_list pl.isList (by simp only [List.size_toArray]; omega) ⟨.int xs.length, H, I.tok _, ⟨_, by simp only [List.size_toArray]; rw [hlen]⟩, q⟩
    · subst e'
      obtain ⟨its, r', pl, hz⟩ := I.tuple hx
      have hlen := r'.length
      exact len_tuple pl (by simp only [List.size_toArray]; omega) ⟨.int xs.length, H, I.tok _, ⟨_, by simp only [List.size_toArray]; rw [hlen]⟩, q⟩
  | _ => exact (show False from e).elim
end
end L2

namespace L2
open PySem PySem.Spec PyProof.Rows

/-! ### an instance, its attributes a map -/
structure ObjM (h : Heap) (x dx C : Addr) (mA : Str → Option Value) : Prop where
  obj : h.get? x = some (PySem.W.instObj C dx)
  ns : h.Ns1 dx mA
  ne : dx ≠ x

theorem lookIn_ns {h : Heap} {dx : Addr} {mA : Str → Option Value} (n : h.Ns1 dx mA) : ∃ od, h.get? dx = some od ∧ ∀ name, PySem.W.lookIn name od = some (mA name) := by
  obtain ⟨o, es, ep, ho, hd, hk, _, hm⟩ := n
  refine ⟨o, ho, fun name => ?_⟩
  have e := hm name
  unfold nsFind findBy at e
  rw [← Array.find?_toList] at e
  unfold PySem.W.lookIn
  rw [hd]
  dsimp only
  split
  · rename_i y q
    rw [q] at e
    exact congrArg some e
  · rename_i q
    rw [q] at e
    have a : es.toList.any (·.refKey) = false := by
      rw [List.any_eq_false]
      intro y hy
      obtain ⟨z, t, hkey⟩ := hk y (Array.mem_toList_iff.mp hy)
      simp [DictEntry.refKey, hkey]
    have a' : ¬ es.toList.any (·.refKey) = true := by rw [a]; exact Bool.false_ne_true
    rw [if_neg a']
    exact congrArg some e

theorem ObjM.look {h : Heap} {x dx C : Addr} {mA : Str → Option Value} (I : ObjM h x dx C mA) : ∃ od, PySem.W.InstAt h x (PySem.W.instObj C dx) C (some od) ∧ ∀ name, PySem.W.lookIn name od = some (mA name) :=
  let ⟨od, ho, hl⟩ := lookIn_ns I.ns
  ⟨od, ⟨I.obj, rfl, rfl, ho⟩, hl⟩

section
variable {prog : Program} {w : World} {A : Around} {E : Value → Shared → Prop} {s : Shared} {K : PySem.W.Frag} {x dx C f : Addr} {mA : Str → Option Value} {name : Str} {v : Value}





end

/-! ### the attributes as a list of pairs -/


section
variable {P : Program} {w : World} {H H' : Hp} {h h' : Heap} {a C dx : Addr} {fs fs' : List (Str × V)}
theorem ins_get (hok : HOk P w H h) (e : H a = some (.ins C dx fs)) : ∃ mA, ObjM h a dx C mA ∧ (∀ f, RelO (fs.lookup f) (mA f)) ∧ PySem.Within mA (fs.map (·.1)) ∧ fs.length ≤ 1000 ∧ H dx = some (.own a) := by
  obtain ⟨d, z, ne, ob, mA, n, r, q⟩ := (show ObjOk P w H h a (.ins C dx fs) from hok a _ e)
  exact ⟨mA, ⟨ob, n, ne⟩, r, q, z, d⟩
end

/-! ### what of the text a class must have -/
structure Cls (K : PySem.W.Frag) (C : Addr) : Prop where
  pg : PySem.W.plainGet K C Str.empty = true
  hd : PySem.W.hasDictIn K C = true
  po : PySem.W.plainOver K C = true
  sa : PySem.W.findIn K (.ref C) "__setattr__" = some (some (.builtin "object.__setattr__"))
theorem Cls.get {K : PySem.W.Frag} {C : Addr} (c : Cls K C) (f : Str) : PySem.W.plainGet K C f = true := c.pg

section
variable {X : Cx} {pins : List (Addr × Obj)} {σ : St} {H : Hp} {s : Shared} {a C dx : Addr} {fs : List (Str × V)} {f : Str} {v : V} {A : Around} {E : Value → Shared → Prop}






end

/-! ### readings and rules -/

section
variable {X : Cx} {o e value : Expr} {f : Str} {pos pos' tpos : Pos} {ta tv : TE}

end

/-! ### isinstance -/
section
variable {X : Cx} {pins : List (Addr × Obj)} {σ : St} {H : Hp} {s : Shared} {A : Around} {E : Value → Shared → Prop} {Q : Value → Shared → Prop} {c : Value} {b : Bool}
/-- the type of a value, as the fragment's deciders take it; for an instance its class -/
inductive TyOf (K : PySem.W.Frag) (H : Hp) : V → Value → Prop where
  | non : TyOf K H .non (.type "NoneType")
  | bl (x : Bool) : TyOf K H (.bl x) (.type "bool")
  | int (i : Int) : TyOf K H (.int i) (.type "int")
  | str (x : Str) : TyOf K H (.str x) (.type "str")
  | flt (x : UInt64) : TyOf K H (.flt x) (.type "float")
  | lst {a : Addr} {xs : List V} (e : H a = some (.lst xs)) : TyOf K H (.ref a) (.type "list")
  | frz {a : Addr} {o : Obj} {xs : List V} (e : H a = some (.frz o (.lst xs))) : TyOf K H (.ref a) (.type "list")
  | tup {a : Addr} {xs : List V} (e : H a = some (.tup xs)) : TyOf K H (.ref a) (.type "tuple")
  | dK {a : Addr} {kvs : List (Key × V)} (e : H a = some (.dK kvs)) : TyOf K H (.ref a) (.type "dict")
  | dT {a : Addr} {kvs : List (List Key × V)} (e : H a = some (.dT kvs)) : TyOf K H (.ref a) (.type "dict")
  | ins {a C dx : Addr} {fs : List (Str × V)} (e : H a = some (.ins C dx fs)) (cl : Cls K C) (ha : PySem.W.findIn K (.ref C) "__class__" = some (some (.builtin "object.__class__")))
      (hn : PySem.W.specialIn K (.builtin "object.__class__") "__get__" = some (some (.builtin "getset_descriptor.__get__"))) (htk : PySem.W.takesIn K (.builtin "object.__class__") = some true)
      (hm : PySem.W.mroIn K C (.type "object") = some true) : TyOf K H (.ref a) (.ref C)
/-- isinstance(x, c) for one class c, a built-in or an own one: kitOne's answer -/
theorem isinst_ok {x : V} {u t : Value} (I : Inv X pins σ H s) (rx : RelV x u) (ty : TyOf X.K H x t) (e : PySem.W.kitOne X.K t c = some b) (h : ∀ tk, Q (.bool b) { s with toks := tk }) :
    wpAny (model X.prog X.w) A (call (.builtin "isinstance") [u, c]) Q E s := by
  cases ty with
  | non => cases (show u = Value.none from rx); exact PySem.W.kia_one PySem.W.kitx_none I.kIn True.intro e (fun z => nomatch z) h
  | bl y => cases (show u = Value.bool y from rx); exact PySem.W.kia_one PySem.W.kitx_bool I.kIn True.intro e (fun z => nomatch z) h
  | int i => obtain ⟨t, q⟩ := (show ∃ t, u = Value.int i t from rx); cases q; exact PySem.W.kia_one PySem.W.kitx_int I.kIn True.intro e (fun z => nomatch z) h
  | str y => obtain ⟨t, q⟩ := (show ∃ t, u = Value.str y t from rx); cases q; exact PySem.W.kia_one PySem.W.kitx_str I.kIn True.intro e (fun z => nomatch z) h
  | flt y => obtain ⟨t, q⟩ := (show ∃ t, u = Value.float y t from rx); cases q; exact PySem.W.kia_one PySem.W.kitx_float I.kIn True.intro e (fun z => nomatch z) h
  | @lst a xs ea =>
    cases (show u = Value.ref a from rx)
    obtain ⟨_, _, n, _, h1⟩ := (show ObjOk X.prog X.w H s.heap a (.lst xs) from I.hok a _ ea)
    exact PySem.W.kia_one PySem.W.kitx_list I.kIn ⟨_, h1, rfl⟩ e (fun z => nomatch z) h
  | @frz a ob xs ea =>
    cases (show u = Value.ref a from rx)
    obtain ⟨_, _, _, n, _, h1⟩ := (show ObjOk X.prog X.w H s.heap a (.frz ob (.lst xs)) from I.hok a _ ea)
    exact PySem.W.kia_one PySem.W.kitx_list I.kIn ⟨_, h1, rfl⟩ e (fun z => nomatch z) h
  | @tup a xs ea =>
    cases (show u = Value.ref a from rx)
    obtain ⟨_, _, _, p⟩ := (show ObjOk X.prog X.w H s.heap a (.tup xs) from I.hok a _ ea)
    obtain ⟨o, h1, h2, _⟩ := p
    exact PySem.W.kia_one PySem.W.kitx_tuple I.kIn ⟨o, h1, h2⟩ e (fun z => nomatch z) h
  | @dK a kvs ea =>
    cases (show u = Value.ref a from rx)
    obtain ⟨_, _, vs, _, p⟩ := (show ObjOk X.prog X.w H s.heap a (.dK kvs) from I.hok a _ ea)
    obtain ⟨o, es, ep, h1, h2, _⟩ := p
    exact PySem.W.kia_one PySem.W.kitx_dict I.kIn ⟨o, h1, h2.1⟩ e (fun z => nomatch z) h
  | @dT a kvs ea =>
    cases (show u = Value.ref a from rx)
    obtain ⟨_, _, xs, _, o, es, ep, h1, h2, _⟩ := (show ObjOk X.prog X.w H s.heap a (.dT kvs) from I.hok a _ ea)
    exact PySem.W.kia_one PySem.W.kitx_dict I.kIn ⟨o, h1, h2.1⟩ e (fun z => nomatch z) h
  | @ins a C dx fs ea cl ha hn htk hm =>
    cases (show u = Value.ref a from rx)
    obtain ⟨mA, O, _⟩ := ins_get I.hok ea
    obtain ⟨od, J, _⟩ := O.look
    exact PySem.W.kia_one (PySem.W.kitx_own (cl.get _) cl.hd ha hn htk hm) I.kIn J e (fun z => nomatch z) h
end
end L2

namespace L2
open PySem PySem.Spec PyProof.Rows

/-! ### room -/
structure Room (k : Nat) (A : Around) : Prop where
  hd : A.handled = none
  dp : A.depth + 3 * k + 5 < recursionLimit
  un : A.units + 16 * k + 200 < cLine
theorem Room.mono {j k : Nat} {A : Around} (r : Room k A) (h : j ≤ k) : Room j A := ⟨r.hd, by have := r.dp; omega, by have := r.un; omega⟩
theorem Room.deeper {k : Nat} {A : Around} (r : Room (k + 1) A) (env : Env) : Room k (A.deeper env) :=
  ⟨r.hd, by have := r.dp; show A.depth + 1 + 3 * k + 5 < _; omega, by have := r.un; show A.units + 3 + 16 * k + 200 < _; omega⟩
theorem Room.depth {k : Nat} {A : Around} (r : Room k A) : A.depth < recursionLimit := by have := r.dp; omega
theorem Room.units {k : Nat} {A : Around} (r : Room k A) : A.units + 64 < cLine := by have := r.un; omega

/-! ### argument lists and displays -/
def tNil : TA := fun _ H Q => Q [] H
def tCons (ta : TE) (tr : TA) : TA := fun σ H Q => ta σ H fun x H1 => tr σ H1 fun xs H2 => Q (x :: xs) H2
section
variable {X : Cx} {e : Expr} {es : List Expr} {te : TE} {t : TA} {pos : Pos}
theorem pa_nil : PA X [] tNil := fun _ _ _ _ H Q I h => Calls.spliced_nil ⟨[], H, I, .nil, h⟩
theorem pa_cons (ha : PE X e te) (hr : PA X es t) (hs : starEach (e :: es) X.env = (false, eval e X.env) :: starEach es X.env := by rfl) : PA X (e :: es) (tCons te t) := by
  intro pos pins s σ H Q I h
  rw [hs]
  show wpAny _ _ (spliced ((false, eval e X.env) :: backTo pos (starEach es X.env))) _ _ s
  refine Calls.spliced_cons (thn (ha pins s σ H _ I h) fun u s1 ⟨x, H1, I1, r1, q1⟩ => ?_)
  exact thn (hr pos pins s1 σ H1 _ I1 q1) fun us s2 ⟨xs, H2, I2, r2, q2⟩ => ⟨x :: xs, H2, I2, .cons r1 r2, q2⟩

/-- a tuple, a list of written items -/
def tTup (t : TA) : TE := fun σ H Q => t σ H fun xs H1 => xs.length ≤ sizeLine ∧ ∀ p, H1 p = none → Q (.ref p) (upd H1 p (.tup xs))
def tLst (t : TA) : TE := fun σ H Q => t σ H fun xs H1 => xs.length ≤ sizeLine ∧ ∀ p, H1 p = none → Q (.ref p) (upd H1 p (.lst xs))
theorem pe_tup {x1} (h : PA X es t) : PE X (.Tuple es x1 pos) (tTup t) := by
  intro pins s σ H Q I hq
  refine wpAny_Tuple_spliced (thn (h pos pins s σ H _ I hq) fun us s1 ⟨xs, H1, I1, r, z, q⟩ => ⟨by rw [← r.length]; exact z, ?_⟩)
  have hf : H1 s1.heap.objs.size = none := I1.hok.fresh (Nat.le_refl _)
  refine ⟨.ref s1.heap.objs.size, upd H1 s1.heap.objs.size (.tup xs), I1.laid (t' := s1.toks) (fun b u e => Heap.get?_push_of_some _ e) (Nat.le_refl _) ?_, rfl, q _ hf⟩
  exact ⟨z, us, r, ⟨_, Heap.get?_push_size _ rfl, rfl, _, rfl⟩⟩
theorem pe_lst (h : PA X es t) : PE X (.List es pos) (tLst t) := by
  intro pins s σ H Q I hq
  refine wpAny_List_spliced (thn (h pos pins s σ H _ I hq) fun us s1 ⟨xs, H1, I1, r, z, q⟩ => ⟨by rw [← r.length]; exact z, ?_⟩)
  have hf : H1 s1.heap.objs.size = none := I1.hok.fresh (Nat.le_refl _)
  refine ⟨.ref s1.heap.objs.size, upd H1 s1.heap.objs.size (.lst xs), I1.laid (t' := s1.toks) (fun b u e => Heap.get?_push_of_some _ e) (Nat.le_refl _) ?_, rfl, q _ hf⟩
  exact ⟨z, us, 0, r, Heap.get?_push_size _ rfl⟩
end

/-! ### what a def promises -/
/-- a def's promise: the bound arguments in the parameters' order, the heap, the wanted end, the wanted exception -/
abbrev Sp := List V → Hp → VK → XK → Prop
/-- how an exception lies behind a call (file 08 gives it): the callers' frames, abstract heap and state ahead of the call, the wish, the exception, the state -/
abbrev CXT := List Env → Hp → Shared → XK → Value → Shared → Prop

/-- the state at a call -/
structure Env0 (P : Program) (w : World) (K : PySem.W.Frag) (mg : Str → Option Value) (base : Heap) (A : Around) (outer : List Env) (s : Shared) (H : Hp) : Prop where
  frames : A.frames = some outer
  mod : Mod K mg base
  bs : ∀ b o, base.get? b = some o → s.heap.get? b = some o ∧ H b = none
  bsz : base.objs.size ≤ s.heap.objs.size
  funs : s.heap.FunFrames base outer
  frf : ∀ b ∈ frs outer, H b = none
  hok : HOk P w H s.heap
  bare : AllBare s.gens
/-- a call's end -/
def CE (outer : List Env) (P : Program) (w : World) (H : Hp) (s : Shared) (Q : VK) (u : Value) (s' : Shared) : Prop :=
  ∃ v H', s'.os = s.os ∧ AllBare s'.gens ∧ Un (frs outer) [] H H' s.heap s'.heap ∧ HOk P w H' s'.heap ∧ RelV v u ∧ Q v H'
def CR (CX : CXT) (outer : List Env) (P : Program) (w : World) (H : Hp) (s : Shared) (Q : VK) (E : XK) (r : Result) (s' : Shared) : Prop :=
  match r with
  | .ok (.ret u) => CE outer P w H s Q u s'
  | .ok _ => False
  | .error e => CX outer H s E e s'
structure FnOk (P : Program) (w : World) (K : PySem.W.Frag) (mg : Str → Option Value) (base : Heap) (CX : CXT) (k : Nat) (f : Addr) (fd : FuncData) (ps : List Str) (sp : Sp) : Prop where
  len : ∀ vs H Q E, sp vs H Q E → vs.length = ps.length
  run : ∀ (A : Around) (outer : List Env) (s : Shared) (H : Hp) (args : Args) (us : List Value) (vs : List V) (Q : VK) (E : XK), Room k A → Env0 P w K mg base A outer s H → BindsTo s fd args (ps.zip us) → Vals vs us → sp vs H Q E →
    codeAny (model P w) A (.call (.ref f) args) (CR CX outer P w H s Q E) s


section
variable {X : Cx} {pins : List (Addr × Obj)} {σ : St} {H : Hp} {s s' : Shared}
/-- from a body: what a callee wants -/
theorem Inv.env0 (I : Inv X pins σ H s) : Env0 X.prog X.w X.K X.mg X.base X.A X.stack s H :=
  ⟨I.ok.frames, I.ok.mod, I.bs, Nat.le_trans I.ok.bsz I.sz, I.stack, I.stkFree, I.hok, I.bare⟩
/-- behind a call -/
theorem Inv.after {Q : VK} {u : Value} (I : Inv X pins σ H s) (h : CE X.stack X.prog X.w H s Q u s') : EP X pins σ Q u s' := by
  obtain ⟨v, H', os, bare, un, hok, r, q⟩ := h
  obtain ⟨hh, g, d, t, os'⟩ := s'
  obtain rfl : os' = s.os := os
  exact ⟨v, H', I.call (h' := hh) (g' := g) (d' := d) (t' := t) (ch := []) un hok bare (fun b z => absurd z (by simp)), r, q⟩
end

/-! ### calls -/
/-- f(..): the written arguments, then the defaults dvs; E: what is wanted of an exception -/
def tCall (sp : Sp) (dvs : List V) (E : XK) (t : TA) : TE := fun σ H Q => t σ H fun vs H1 => sp (vs ++ dvs) H1 Q E

/-- how the parameters are bound: us the positional arguments, kw the keywords' values by name, ds the defaults that fill up -/
def Binds (K : PySem.W.Frag) (fd : FuncData) (ps : List Str) (ds : List Value) : Prop :=
  ∀ (s : Shared) (us : List Value), K.In s.heap → (us ++ ds).length = ps.length → BindsTo s fd ⟨us, []⟩ (ps.zip (us ++ ds))
/-- every parameter is given -/
theorem Binds.all {K : PySem.W.Frag} {fd : FuncData} {ps : List Str} (h : ∀ us : List Value, us.length = ps.length → bindArgs fd ⟨us, []⟩ = pure (ps.zip us)) : Binds K fd ps [] := fun s us _ hl => by
  rw [List.append_nil] at hl ⊢
  exact .of_eq (h us hl)

/-- an exception of a callee reaches what this body wants of exceptions -/
def Passes (CX : CXT) (X : Cx) (E : XK) : Prop := ∀ (pins : List (Addr × Obj)) (σ : St) (H : Hp) (s : Shared) (e : Value) (s' : Shared), Inv X pins σ H s → CX X.stack H s E e s' → X.xe e s'

section
variable {X : Cx} {CX : CXT} {k : Nat} {f C : Addr} {fd : FuncData} {ps : List Str} {sp : Sp} {dvs : List V} {ds : List Value} {E : XK} {x m : Str} {p pos apos : Pos} {e o : Expr} {es : List Expr} {ta : TE} {t : TA}

/-- the callee runs -/
theorem run_fn {pins : List (Addr × Obj)} {σ : St} {H : Hp} {s : Shared} {Q : VK} {us : List Value} {vs : List V} (F : FnOk X.prog X.w X.K X.mg X.base CX k f fd ps sp) (hr : Room k X.A) (hb : Binds X.K fd ps ds) (hd : Vals dvs ds) (hx : Passes CX X E)
    (I : Inv X pins σ H s) (r : Vals vs us) (h : sp (vs ++ dvs) H Q E) : wpAny (model X.prog X.w) X.A (call (.ref f) us) (EP X pins σ Q) X.xe s := by
  have r2 : Vals (vs ++ dvs) (us ++ ds) := r.append hd
  have hl : (us ++ ds).length = ps.length := by rw [← r2.length]; exact F.len _ _ _ _ h
  refine wpAny_call (codeAny_mono (F.run X.A X.stack s H ⟨us, []⟩ (us ++ ds) (vs ++ dvs) Q E hr I.env0 (hb s us I.kIn hl) r2 h) fun r s' hq => ?_)
  cases r with
  | error e => exact hx pins σ H s e s' I hq
  | ok fl =>
    cases fl with
    | ret u => exact I.after hq
    | next => exact False.elim hq
    | brk => exact False.elim hq
    | cont => exact False.elim hq

theorem pe_call (F : FnOk X.prog X.w X.K X.mg X.base CX k f fd ps sp) (hr : Room k X.A) (hg : Gl X x) (hm : X.mg x = some (.ref f)) (hk : PySem.W.keepIn X.K (.ref f) = true) (hb : Binds X.K fd ps ds) (hd : Vals dvs ds) (hx : Passes CX X E)
    (ha : PA X (e :: es) t) (hdb : (x == ("__debug__" : Str)) = false := by decide) (he : starEach (e :: es) X.env = (false, eval e X.env) :: starEach es X.env := by rfl) (hpl : (backTo pos (starEach es X.env)).any (·.1) = false := by rfl) :
    PE X (.Call (.Name x p) (e :: es) [] pos) (tCall sp dvs E t) := by
  intro pins s σ H Q I h
  refine wpAny_Call_Name_kw (ld_glob I hg hm ?_ hdb)
  refine PySem.W.callWith_K (h₀ := X.base) I.ok.mod.kin hk (thn (ha pos pins s σ H _ I h) fun us s1 ⟨vs, H1, I1, r, q⟩ => ⟨I1.kIn, ?_⟩) he hpl
  exact run_fn F hr hb hd hx I1 r q



end

/-! ### keywords -/
section
variable {X : Cx} {CX : CXT} {k : Nat} {f C : Addr} {fd : FuncData} {ps ks : List Str} {sp : Sp} {E : XK} {x m : Str} {p pos apos kpos : Pos} {e o : Expr} {es : List Expr} {kws : List Keyword} {te ta : TE} {t tk : TA} {nm : Option Str}

variable {g : List Value → List Value → List Value} {gV : List V → List V → List V}
end

/-! ### a def's body keeps its promise -/
/-- names: the parameters first -/
structure FnScope (N P : List Str) (sc : Scope) : Prop where
  kind : sc.kind = .function
  co : sc.isCoroutine = false
  gen : sc.isGenerator = false
  nd : N.Nodup
  pre : N.take P.length = P
  par : ∀ x ∈ P, sc.names.lookup x = some .local ∨ sc.names.lookup x = some .cell
  nofree : ∀ y ∈ sc.names, y.2 ≠ .free

theorem bindL_out {kindOf : Str → Option NameKind} {x : Str} : ∀ {binds : List (Str × Value)} {m : Str → Option Value}, (∀ v, (x, v) ∉ binds) → bindL kindOf binds m x = m x
  | [], _, _ => rfl
  | (n, v) :: r, m, h => by
    unfold bindL
    rw [bindL_out fun w hw => h w (List.mem_cons_of_mem _ hw)]
    split
    · have : x ≠ n := by rintro rfl; exact h v List.mem_cons_self
      simp [this]
    · rfl
theorem bindC_out {kindOf : Str → Option NameKind} {x : Str} : ∀ {binds : List (Str × Value)} {m : Str → Option Value}, (∀ v, (x, v) ∉ binds) → bindC kindOf binds m x = m x
  | [], _, _ => rfl
  | (n, v) :: r, m, h => by
    unfold bindC
    rw [bindC_out fun w hw => h w (List.mem_cons_of_mem _ hw)]
    split
    · rfl
    · have : x ≠ n := by rintro rfl; exact h v List.mem_cons_self
      simp [this]
theorem bindL_get {kindOf : Str → Option NameKind} {x : Str} {v : Value} : ∀ {P : List Str} {vs : List Value} {i : Nat} {m : Str → Option Value}, P.Nodup → P[i]? = some x → vs[i]? = some v → kindOf x = some .local →
    bindL kindOf (P.zip vs) m x = some v
  | [], _, _, _, _, h, _, _ => by simp at h
  | _ :: _, [], _, _, _, _, h, _ => by simp at h
  | p :: P, w :: vs, 0, m, nd, h1, h2, hk => by
    simp at h1 h2; subst h1; subst h2
    show bindL kindOf ((p, w) :: P.zip vs) m p = _
    unfold bindL
    rw [bindL_out fun v hv => (List.nodup_cons.mp nd).1 (List.of_mem_zip hv).1, if_pos hk]
    simp
  | p :: P, w :: vs, i + 1, m, nd, h1, h2, hk => by
    show bindL kindOf ((p, w) :: P.zip vs) m x = _
    unfold bindL
    exact bindL_get (i := i) (List.nodup_cons.mp nd).2 (by simpa using h1) (by simpa using h2) hk
theorem bindC_get {kindOf : Str → Option NameKind} {x : Str} {v : Value} : ∀ {P : List Str} {vs : List Value} {i : Nat} {m : Str → Option Value}, P.Nodup → P[i]? = some x → vs[i]? = some v → kindOf x ≠ some .local →
    bindC kindOf (P.zip vs) m x = some v
  | [], _, _, _, _, h, _, _ => by simp at h
  | _ :: _, [], _, _, _, _, h, _ => by simp at h
  | p :: P, w :: vs, 0, m, nd, h1, h2, hk => by
    simp at h1 h2; subst h1; subst h2
    show bindC kindOf ((p, w) :: P.zip vs) m p = _
    unfold bindC
    rw [bindC_out fun v hv => (List.nodup_cons.mp nd).1 (List.of_mem_zip hv).1, if_neg hk]
    simp
  | p :: P, w :: vs, i + 1, m, nd, h1, h2, hk => by
    show bindC kindOf ((p, w) :: P.zip vs) m x = _
    unfold bindC
    exact bindC_get (i := i) (List.nodup_cons.mp nd).2 (by simpa using h1) (by simpa using h2) hk

/-- the names' values at the entry -/
def start (N : List Str) (vs : List V) : St := vs.map some ++ List.replicate (N.length - vs.length) none

/-- the context of a def's body, at its entry; an exception leaves the frame, then lies as CX says -/
def cxOf (CX : CXT) (P : Program) (w : World) (K : PySem.W.Frag) (mg : Str → Option Value) (base : Heap) (N : List Str) (qual : Str) (scope : Scope) (f : Addr) (cd : Value) (A : Around) (outer : List Env) (s : Shared) (H : Hp) (E : XK) : Cx where
  prog := P
  w := w
  K := K
  mg := mg
  base := base
  A := A.deeper (envOfC qual scope s.heap.objs.size f cd)
  N := N
  s₀ := s
  H₀ := H
  env := envOfC qual scope s.heap.objs.size f cd
  outer := outer
  stack := envOfC qual scope s.heap.objs.size f cd :: outer
  ex := []
  calm := true
  fn := fun _ => true
  pn := []
  xe := fun e s' => wpAny (model P w) (A.deeper (envOfC qual scope s.heap.objs.size f cd)) (leaving (envOfC qual scope s.heap.objs.size f cd) e) (fun _ s'' => CX outer H s E e s'') (fun e' s'' => CX outer H s E e' s'') s'

theorem cell_has {sc : Scope} {n : Nat} {x : Str} (h : sc.names.lookup x = some .cell) : ∃ c, (cellsFrom n sc.names []).lookup x = some c := by
  have q := PySem.W.cellsFrom_some sc.names n [] (.inl h)
  exact Option.isSome_iff_exists.mp q

theorem inv_start {CX : CXT} {P : Program} {w : World} {K : PySem.W.Frag} {mg : Str → Option Value} {base : Heap} {N ps : List Str} {qual : Str} {scope : Scope} {f : Addr} {cd : Value} {A : Around} {outer : List Env} {s s1 : Shared} {H : Hp} {E : XK} {us : List Value} {vs : List V}
    (S : FnScope N ps scope) (hd : A.handled = none) (e0 : Env0 P w K mg base A outer s H) (hl : vs.length = ps.length) (r : Vals vs us)
    (x : InCallC s s.heap.objs.size (bindL (envOfC qual scope s.heap.objs.size f cd).kindOf (ps.zip us) fun _ => none) (cellsFrom (s.heap.objs.size + 1) scope.names []) (bindC (envOfC qual scope s.heap.objs.size f cd).kindOf (ps.zip us) fun _ => none) s1) :
    Inv (cxOf CX P w K mg base N qual scope f cd A outer s H E) [] (start N vs) H s1 := by
  have hpl : ps.length ≤ N.length := by have := congrArg List.length S.pre; rw [List.length_take] at this; omega
  obtain ⟨h1, tk, rfl, hk⟩ := x.done
  have noA : ∀ b : Addr, b ∉ (cxOf CX P w K mg base N qual scope f cd A outer s H E).ex := fun b z => absurd (show b ∈ ([] : List Addr) from z) (by simp)
  refine ⟨⟨e0.mod, S.kind, rfl, rfl, Nat.le_refl _, fun y z c h1 h2 => ?_, fun y hy => ?_, fun y c _ h => ?_, fun _ => hd, Around.frames_deeper e0.frames, .inr ⟨rfl, rfl⟩, fun b z => absurd z (noA b), e0.bs, e0.bsz, fun b _ _ => noA b, fun b z => absurd z (noA b), e0.funs, e0.frf⟩,
    rfl, e0.bare, Un.kept hk, ⟨_, x.toInCall.ns, fun i y v h1 h2 h3 => ?_⟩, fun y c h => ⟨_, x.cell y c h⟩, e0.hok.fresh (Nat.le_refl _), fun y c h => ?_, fun p hp => absurd (show p ∈ ([] : List (Addr × Obj)) from hp) (by simp), e0.hok.kept hk, ?_⟩
  · exact name_of_addr x.apart (PySem.mem_of_lookup h1) (PySem.mem_of_lookup h2)
  · have hy : scope.names.lookup y = some .cell ∨ scope.names.lookup y = some .free := hy
    rcases hy with hy | hy
    · exact cell_has hy
    · exact absurd rfl (S.nofree _ (PySem.mem_of_lookup hy))
  · exact Nat.le_of_lt (x.above y c (PySem.mem_of_lookup h))
  · have hi : i < vs.length := by
      unfold start at h2
      by_cases hi : i < vs.length
      · exact hi
      · rw [List.getElem?_append_right (by simpa using hi)] at h2
        rw [List.getElem?_replicate] at h2
        split at h2 <;> cases h2
    have ha : vs[i]? = some v := by
      unfold start at h2
      rw [List.getElem?_append_left (by simpa using hi), List.getElem?_map] at h2
      cases e : vs[i]? with
      | none => rw [e] at h2; cases h2
      | some a => rw [e] at h2; cases h2; rfl
    obtain ⟨u, hu, rv⟩ := r.get ha
    have hp : ps[i]? = some y := by
      rw [← S.pre, List.getElem?_take_of_lt (by omega)]; exact h1
    have ndP : ps.Nodup := by rw [← S.pre]; exact S.nd.sublist (List.take_sublist _ _)
    refine ⟨u, rv, ?_⟩
    rcases S.par y (List.mem_of_getElem? hp) with k | k
    · exact .inl ⟨k, bindL_get ndP hp hu k⟩
    · obtain ⟨c, e⟩ := cell_has (n := s.heap.objs.size + 1) k
      refine .inr ⟨.inl k, c, e, ?_⟩
      have q := x.cell y c e
      rw [bindC_get ndP hp hu (by show scope.names.lookup y ≠ _; rw [k]; decide)] at q
      exact q
  · exact e0.hok.fresh (Nat.le_of_lt (x.above y c (PySem.mem_of_lookup h)))
  · unfold start
    show _ = N.length
    rw [List.length_append, List.length_map, List.length_replicate]
    omega

/-- THE RULE: a def (or a method) of the text, by its body. The body's reading t is chosen for each entry; it is run at the parameters' values -/
theorem fn_of {CX : CXT} {P : Program} {w : World} {K : PySem.W.Frag} {mg : Str → Option Value} {base : Heap} {k : Nat} {f : Addr} {name qual : Str} {params : Arguments} {body : List Stmt} {scope : Scope} {dV kV doc pm cdv ct oc : Value} {an od : Option Addr}
    {osl : Array (Option Value)} {N ps : List Str} {sp : Sp} (lk : K.lookup f = some ⟨oc, od, .func (PySem.W.fnOf name qual params body scope dV kV doc pm an cdv ct), osl⟩) (hcd : PySem.W.codeIn K cdv qual = true) (S : FnScope N ps scope)
    (len : ∀ vs H Q E, sp vs H Q E → vs.length = ps.length)
    (hbody : ∀ (A : Around) (outer : List Env) (s : Shared) (H : Hp) (vs : List V) (Q : VK) (E : XK), Room k (A.deeper (envOfC qual scope s.heap.objs.size f cdv)) → sp vs H Q E →
      ∃ t, PSs (cxOf CX P w K mg base N qual scope f cdv A outer s H E) body t ∧ t { nx := fun _ H' => Q .non H', rt := Q } (start N vs) H) :
    FnOk P w K mg base CX (k + 1) f (PySem.W.fnOf name qual params body scope dV kV doc pm an cdv ct) ps sp := by
  refine ⟨len, fun A outer s H args us vs Q E hr e0 hb r hsp => ?_⟩
  have hl := len _ _ _ _ hsp
  have KX : K.In s.heap := e0.mod.kin.keeps fun b o e => (e0.bs b o e).1
  have lim : s.heap.NoLimit := e0.mod.nolimit.keeps fun b o e => (e0.bs b o e).1
  have hkind : ∀ y ∈ ps.zip us, scope.names.lookup y.1 = some .local ∨ (scope.names.lookup y.1 = some .cell ∧ ((cellsFrom (s.heap.objs.size + 1) scope.names []).lookup y.1).isSome = true) := fun ⟨n, v⟩ hy => by
    rcases S.par n (List.of_mem_zip hy).1 with q | q
    · exact .inl q
    · exact .inr ⟨q, PySem.W.cellsFrom_some _ _ _ (.inl q)⟩
  refine codeAny_call_function hr.depth (KX _ _ lk) rfl S.co S.gen rfl (PySem.W.codeRec_of KX hcd) (hb _ _ _ _ ?_)
  refine wpAny_newFunctionEnv_cells S.kind hkind fun env he s1 x => ?_
  subst he
  refine ⟨lim.keeps x.toInCall.keep, codeAny_func ?_⟩
  obtain ⟨t, ht, hq⟩ := hbody A outer s H vs Q E (hr.deeper _) hsp
  have I : Inv (cxOf CX P w K mg base N qual scope f cdv A outer s H E) [] (start N vs) H s1 := inv_start S hr.hd e0 hl r x
  refine wpAny_mono (ht [] s1 (start N vs) H _ I hq) (fun fl s' hs => ?_) fun e s' hs => hs
  have fin : ∀ {σ' : St} {H' : Hp} {v : V} {u : Value}, Inv (cxOf CX P w K mg base N qual scope f cdv A outer s H E) [] σ' H' s' → RelV v u → Q v H' → CE outer P w H s Q u s' :=
    fun {σ' H' v u} J rv q => ⟨v, H', J.os, J.bare, J.base, J.hok, rv, q⟩
  cases fl with
  | ret u =>
    obtain ⟨v, σ', H', J, rv, q⟩ := hs
    exact fin J rv q
  | next =>
    obtain ⟨σ', H', J, q⟩ := hs
    exact fin (v := V.non) (u := Value.none) J rfl q
  | brk =>
    obtain ⟨_, _, _, q⟩ := hs
    exact False.elim q
  | cont =>
    obtain ⟨_, _, _, q⟩ := hs
    exact False.elim q
end L2

namespace L2
open PySem PySem.Spec PyProof.Rows
section
variable {X : Cx} {x : Str} {p pos : Pos} {e : Expr} {es : List Expr} {t : TA} {id T : String} {r : List V → Hp → VK → Prop}

def tCB (r : List V → Hp → VK → Prop) (t : TA) : TE := fun σ H Q => t σ H fun vs H1 => r vs H1 Q
/-- f(e, ..), f a built-in function -/
theorem pe_callB (hc : CallR X (.builtin id) r) (hg : Gl X x) (hm : X.mg x = none) (hv : bootBuiltins x = some (.builtin id)) (ha : PA X (e :: es) t) (hn : x ≠ "__name__" := by decide) (hdb : (x == ("__debug__" : Str)) = false := by decide)
    (he : starEach (e :: es) X.env = (false, eval e X.env) :: starEach es X.env := by rfl) (hpl : (backTo pos (starEach es X.env)).any (·.1) = false := by rfl) : PE X (.Call (.Name x p) (e :: es) [] pos) (tCB r t) := by
  intro pins s σ H Q I h
  refine wpAny_Call_Name_kw (ld_blt I hg hm hv ?_ hn hdb)
  exact PyProof.Rows.callWith_builtin1 (thn (ha pos pins s σ H _ I h) fun us s1 ⟨vs, H1, I1, r1, q1⟩ => hc pins s1 σ H1 vs us Q I1 r1 q1) he hpl
/-- T(e, ..), T a built-in type -/
theorem pe_callTy (hc : CallR X (.type T) r) (hg : Gl X x) (hm : X.mg x = none) (hv : bootBuiltins x = some (.type T)) (ha : PA X (e :: es) t) (hn : x ≠ "__name__" := by decide) (hdb : (x == ("__debug__" : Str)) = false := by decide)
    (he : starEach (e :: es) X.env = (false, eval e X.env) :: starEach es X.env := by rfl) (hpl : (backTo pos (starEach es X.env)).any (·.1) = false := by rfl) : PE X (.Call (.Name x p) (e :: es) [] pos) (tCB r t) := by
  intro pins s σ H Q I h
  refine wpAny_Call_Name_kw (ld_blt I hg hm hv ?_ hn hdb)
  exact PyProof.Rows.callWith_type1 (thn (ha pos pins s σ H _ I h) fun us s1 ⟨vs, H1, I1, r1, q1⟩ => hc pins s1 σ H1 vs us Q I1 r1 q1) he hpl
end
end L2

namespace HT
open PySem PyProof.Rows

/-- t < u of tuples of ints -/
def lexLt : List Int → List Int → Bool
  | [], [] => false
  | [], _ :: _ => true
  | _ :: _, [] => false
  | x :: xs, y :: ys => if x = y then lexLt xs ys else decide (x < y)
theorem lexLt_cons (x y : Int) (xs ys : List Int) : lexLt (x :: xs) (y :: ys) = if x = y then lexLt xs ys else decide (x < y) := rfl
theorem lexLt_nil_nil : lexLt [] [] = false := rfl
theorem lexLt_nil_cons (y : Int) (ys : List Int) : lexLt [] (y :: ys) = true := rfl
theorem lexLt_cons_nil (x : Int) (xs : List Int) : lexLt (x :: xs) [] = false := rfl

theorem rcLt_int (A : Around) (s : Shared) (a : Int) (t : Tok) (c : Int) (u : Tok) (prog : Program) (w : World) (E : Value → Shared → Prop) (Q : Value → Shared → Prop) (h : Q (.bool (decide (a < c))) s) :
    wpAny (model prog w) A (richCompare .Lt (.int a t) (.int c u)) Q E s :=
  (PyProof.Rows.lt_int h : wpAny (model prog w) A (compareOp .Lt (.int a t) (.int c u)) Q E s)

section
open PySem.SeqAt
open PySem.AutoSeq1 (wpAny_loadPart')
open PySem.MeetsSeq PySem.MeetsSeq2 PySem.MeetsSeq3

end

section
variable {prog : Program} {w : World} {A : Around} {E : Value → Shared → Prop} {s : Shared}


/-- t + u, t not empty -/
theorem cat_tup {t b : Addr} {vs ws : List Value} {Q : Value → Shared → Prop} (ht : IsTup s.heap t vs.toArray) (hb : IsTup s.heap b ws.toArray) (hv : vs ≠ [])
    (h1 : ws = [] → Q (.ref t) s) (h2 : ws ≠ [] → Q (.ref s.heap.objs.size) { s with heap := s.heap.push { cls := .type "tuple", data := .seq (vs ++ ws).toArray } })
    (hsz : vs.length + ws.length ≤ sizeLine) : wpAny (model prog w) A (binaryOp .Add (.ref t) (.ref b)) Q E s := by
  obtain ⟨⟨cls, dd, data, sl⟩, ho, hc, n, hd⟩ := id ht
  obtain ⟨⟨cls2, dd2, data2, sl2⟩, ho2, hc2, n2, hd2⟩ := id hb
  simp only at hc hd hc2 hd2
  subst hc hd hc2 hd2
  have e : vs.toArray ++ ws.toArray = (vs ++ ws).toArray := by simp
  by_cases hw : ws = []
  · exact concat_meets ⟨_, ho, rfl⟩ ⟨_, ho2, rfl⟩ noFill_tuple_add seq_tuple_add PySem.F.slot_tuple_add PySem.F.entry_tuple_add (PySem.F.args_tuple_add_2 _ _)
      (tuple_addW1 t b vs.toArray ws.toArray n n2 dd dd2 sl sl2 (by simpa using hv) (by simp [hw])) ⟨ho, ho2, h1 hw⟩
  · refine concat_meets ⟨_, ho, rfl⟩ ⟨_, ho2, rfl⟩ noFill_tuple_add seq_tuple_add PySem.F.slot_tuple_add PySem.F.entry_tuple_add (PySem.F.args_tuple_add_2 _ _)
      (tuple_addW2 t b vs.toArray ws.toArray n n2 dd dd2 sl sl2 (by simpa using hv) (by simpa using hw) (by rw [List.size_toArray, List.size_toArray]; exact hsz)) ⟨ho, ho2, ?_⟩
    rw [e]
    exact h2 hw

/-! ### t[a:b], not the whole -/
/-- a slice's bound as a place among n (d where it is left out) -/
def sIx (n d : Nat) : Option Int → Nat
  | none => d
  | some v => if v < 0 then (v + (n : Int)).toNat else min v.toNat n
theorem sIx_none (n d : Nat) : sIx n d none = d := rfl
theorem sIx_nat (n d k : Nat) : sIx n d (some (k : Int)) = min k n := by
  show (if (k : Int) < 0 then ((k : Int) + (n : Int)).toNat else min (k : Int).toNat n) = min k n
  rw [if_neg (by omega), Int.toNat_natCast]
theorem sIx_le (n d : Nat) (hd : d ≤ n) (o : Option Int) : sIx n d o ≤ n := by
  cases o with
  | none => exact hd
  | some v =>
    show (if v < 0 then (v + (n : Int)).toNat else min v.toNat n) ≤ n
    by_cases hv : v < 0
    · rw [if_pos hv]; omega
    · rw [if_neg hv]; exact Nat.min_le_right _ _
theorem clip_eq (v : Int) (n d : Nat) : (if v < 0 then max (v + (n : Int)) 0 else min v (n : Int)) = ((sIx n d (some v) : Nat) : Int) := by
  show (if v < 0 then max (v + (n : Int)) 0 else min v (n : Int)) = (((if v < 0 then (v + (n : Int)).toNat else min v.toNat n) : Nat) : Int)
  by_cases hv : v < 0
  · simp only [if_pos hv]; omega
  · simp only [if_neg hv]; omega
theorem adjust_gen (lo hi : Option Int) (n : Nat) : Builtin.Slice.sliceAdjust lo hi 1 (n : Int) = (((sIx n 0 lo : Nat) : Int), ((sIx n n hi : Nat) : Int)) := by
  have h1 : ¬ ((1 : Int) < 0) := by omega
  unfold Builtin.Slice.sliceAdjust
  simp only [h1, if_false]
  refine Prod.ext ?_ ?_
  · cases lo with
    | none => rfl
    | some v => exact clip_eq v n 0
  · cases hi with
    | none => rfl
    | some v => exact clip_eq v n n
theorem places_gen (i j : Nat) : Builtin.Slice.slicePlaces (i : Int) (j : Int) 1 = j - i := by
  unfold Builtin.Slice.slicePlaces
  have h1 : (1 : Int) > 0 := by omega
  simp only [h1, if_true, Int.ediv_one]
  split <;> omega
theorem slicePart_ {v : Value} {o : Option Int} {Q : Option Int → Shared → Prop} (p : IsPart v o) (h : Q o s) : wpAny (model prog w) A (Builtin.Slice.slicePartIndex v) Q E s := by
  cases p with
  | none => exact slicePart_none h
  | int i t => exact slicePart_int h
theorem sliceApplied_gen {sl : Addr} {vl vu : Value} {lo hi : Option Int} {n : Nat} {Q : Int × Int × Nat → Shared → Prop} (hs : s.heap.IsSliceOf sl vl vu .none) (pl : IsPart vl lo) (pu : IsPart vu hi)
    (h : Q (((sIx n 0 lo : Nat) : Int), 1, sIx n n hi - sIx n 0 lo) s) : wpAny (model prog w) A (Builtin.Slice.sliceApplied (.ref sl) (pure (n : Int))) Q E s := by
  obtain ⟨os, hos, hcs, hds⟩ := id hs
  unfold Builtin.Slice.sliceApplied Builtin.Slice.sliceFields
  refine wpAny_bind (wpAny_bind (wpAny_field hos hds (x := vl) rfl (wpAny_bind (wpAny_field hos hds (x := vu) rfl (wpAny_bind (wpAny_field hos hds (x := .none) rfl (wpAny_pure ?_)))))))
  refine wpAny_bind (slicePart_none ?_)
  show wpAny _ _ (if ((1 : Int) == 0) = true then _ else _) _ _ s
  rw [if_neg (by decide)]
  refine wpAny_bind (slicePart_ pl (wpAny_bind (slicePart_ pu (wpAny_bind (wpAny_pure ?_)))))
  show wpAny _ _ (match Builtin.Slice.sliceAdjust lo hi 1 (n : Int) with | (lo, hi) => pure (lo, (1 : Int), Builtin.Slice.slicePlaces lo hi 1)) _ _ s
  rw [adjust_gen lo hi n]
  show wpAny _ _ (pure (((sIx n 0 lo : Nat) : Int), (1 : Int), Builtin.Slice.slicePlaces ((sIx n 0 lo : Nat) : Int) ((sIx n n hi : Nat) : Int) 1)) _ _ s
  rw [places_gen]
  exact wpAny_pure h
theorem pick_gen (xs : Array Value) (i k : Nat) : ((List.range k).filterMap fun (m : Nat) => xs[((i : Int) + (m : Int) * 1).toNat]?).toArray = ((xs.toList.drop i).take k).toArray := by
  have e : (fun (m : Nat) => xs[((i : Int) + (m : Int) * 1).toNat]?) = fun m => xs[i + m]? := by
    funext m
    have : ((i : Int) + (m : Int) * 1).toNat = i + m := by omega
    rw [this]
  rw [e]
  have := pick_run xs i k
  rw [List.filterMap_map] at this
  have e2 : ((fun x => xs[x]?) ∘ fun x => i + x) = fun m => xs[i + m]? := rfl
  rw [e2] at this
  rw [this]

theorem getItem_tuple_cut {t sl : Addr} {items : Array Value} {vl vu : Value} {lo hi : Option Int} {Q : Value → Shared → Prop} (ht : IsTup s.heap t items) (hs : s.heap.IsSliceOf sl vl vu .none) (pl : IsPart vl lo) (pu : IsPart vu hi)
    (hw : ¬ (sIx items.size 0 lo = 0 ∧ sIx items.size items.size hi = items.size))
    (h : Q (.ref s.heap.objs.size) { s with heap := s.heap.push { cls := .type "tuple", data := .seq ((items.toList.drop (sIx items.size 0 lo)).take (sIx items.size items.size hi - sIx items.size 0 lo)).toArray } })
    (hsz : items.size ≤ sizeLine) : wpAny (model prog w) A (getItem (.ref t) (.ref sl)) Q E s := by
  have htake : sizeOk (.seq ((items.toList.drop (sIx items.size 0 lo)).take (sIx items.size items.size hi - sIx items.size 0 lo)).toArray) := by
    show ((items.toList.drop (sIx items.size 0 lo)).take (sIx items.size items.size hi - sIx items.size 0 lo)).toArray.size ≤ sizeLine
    rw [List.size_toArray, List.length_take, List.length_drop, Array.length_toList]
    omega
  have hj : sIx items.size items.size hi ≤ items.size := sIx_le _ _ (Nat.le_refl _) hi
  obtain ⟨os, hos, hcs, hds⟩ := id hs
  have hTs : s.TypeIs (.ref sl) "slice" := ⟨os, hos, hcs⟩
  unfold getItem
  try with_reducible refine wpAny_holding ?_
  first | refine wpAny_bind (wpAny_pure ?_) | skip
  refine wpAny_bind (wpAny_sequenceKey ht.typeIs (by decide) ?_)
  refine wpAny_bind (wpAny_callSpecial?_slot (name := Str.ofString "__getitem__") ht.typeIs PyProof.Rows.slot_tuple_getitem
    (wpAny_call_entry PyProof.Rows.slot_tuple_getitem ht.typeIs entry_tuple_getitem ?_ (args_tuple_getitem _ _)))
  show wpAny _ _ (Builtin.Tuple.tupleItemsOf (.ref t) >>= _) _ _ s
  refine wpAny_bind (tupleItemsOf_ ht ?_)
  refine wpAny_bind (wpAny_typeOf hTs ?_)
  rw [if_pos (by decide)]
  refine wpAny_bind (sliceApplied_gen hs pl pu ?_)
  have hno : ¬ ((((sIx items.size 0 lo : Nat) : Int) == 0 && (1 : Int) == 1 && (sIx items.size items.size hi - sIx items.size 0 lo) == items.size) = true) := by
    intro q
    rw [Bool.and_eq_true, Bool.and_eq_true] at q
    have q1 : ((sIx items.size 0 lo : Nat) : Int) = 0 := eq_of_beq q.1.1
    have q2 : sIx items.size items.size hi - sIx items.size 0 lo = items.size := eq_of_beq q.2
    exact hw ⟨by omega, by omega⟩
  show wpAny _ _ (if (((sIx items.size 0 lo : Nat) : Int) == 0 && (1 : Int) == 1 && (sIx items.size items.size hi - sIx items.size 0 lo) == items.size) = true then _ else _) _ _ s
  rw [if_neg hno, pick_gen]
  first
    | exact wpAny_bind (m := Builtin.Tuple.tupleExact _) (wpAny_newObj_type (wpAny_pure ⟨_, rfl, wpAny_pure h⟩) htake)
    | exact wpAny_bind (m := Builtin.Tuple.tupleExact _) (wpAny_newObj_type (wpAny_bind (wpAny_pure (wpAny_pure ⟨_, rfl, wpAny_pure h⟩))) htake)
    | exact wpAny_bind (wpAny_bind (m := Builtin.Tuple.tupleExact _) (wpAny_newObj_type (wpAny_pure (wpAny_pure ⟨_, rfl, wpAny_pure h⟩)) htake))
    | exact wpAny_bind (wpAny_bind (m := Builtin.Tuple.tupleExact _) (wpAny_newObj_type (wpAny_pure ⟨_, rfl, wpAny_pure h⟩) htake))
end
end HT

namespace L2
open PySem PySem.Spec PyProof.Rows

/-! ### the parts of a slice -/
abbrev TO := St → Hp → (Option Int → Hp → Prop) → Prop
/-- a slice's part (left out, or an int) -/
def PO (X : Cx) (e : Option Expr) (t : TO) : Prop :=
  ∀ (pins : List (Addr × Obj)) (s : Shared) (σ : St) (H : Hp) (Q : Option Int → Hp → Prop), Inv X pins σ H s → t σ H Q →
    wpAny (model X.prog X.w) X.A (evalPart e X.env) (fun u s' => ∃ o H', Inv X pins σ H' s' ∧ IsPart u o ∧ Q o H') X.xe s
def tNoPart : TO := fun _ H Q => Q none H
def tPart (t : TE) : TO := fun σ H Q => t σ H fun x H1 => ∃ i, x = .int i ∧ Q (some i) H1


section
variable {X : Cx} {e : Expr} {te : TE} {lo hi : Option Expr} {tl th : TO} {pos p2 : Pos}

theorem po_none : PO X none tNoPart := by
  intro pins s σ H Q I h
  rw [evalPart_none]
  exact wpAny_pure ⟨none, H, I, .none, h⟩
theorem po_some (h : PE X e te) : PO X (some e) (tPart te) := by
  intro pins s σ H Q I hw
  rw [evalPart_some]
  refine thn (h pins s σ H _ I hw) fun u s1 ⟨x, H1, I1, r1, q1⟩ => ?_
  obtain ⟨i, rfl, q⟩ := q1
  obtain ⟨t, rfl⟩ := r1
  exact ⟨some i, H1, I1, .int i t, q⟩

/-- what a slice of a value is, by values: the slice object stands at sl -/
def SlR (X : Cx) (r : V → Option Int → Option Int → Hp → VK → Prop) : Prop :=
  ∀ (pins : List (Addr × Obj)) (s : Shared) (σ : St) (H : Hp) (x : V) (v vl vu : Value) (lo hi : Option Int) (sl : Addr) (Q : VK), Inv X pins σ H s → RelV x v → s.heap.IsSliceOf sl vl vu .none → IsPart vl lo → IsPart vu hi → r x lo hi H Q →
    ∃ T id, typeLookup (.type T) "__getitem__" = pure (some (.builtin id)) ∧ s.TypeIs v T ∧ wpAny (model X.prog X.w) X.A (getItem v (.ref sl)) (EP X pins σ Q) X.xe s
def tSl (r : V → Option Int → Option Int → Hp → VK → Prop) (te : TE) (tl th : TO) : TE := fun σ H Q => te σ H fun x H1 => tl σ H1 fun l H2 => th σ H2 fun u H3 => r x l u H3 Q
/-- a[lo:hi], any a -/
theorem pe_slice {r : V → Option Int → Option Int → Hp → VK → Prop} (hr : SlR X r) (he : PE X e te) (hl : PO X lo tl) (hu : PO X hi th) : PE X (.Subscript e (.Slice lo hi none p2) pos) (tSl r te tl th) := by
  intro pins s σ H Q I h
  refine Subscript_ (thn (he pins s σ H _ I h) fun v s1 ⟨x, H1, I1, r1, q1⟩ => ?_)
  refine wpAny_Slice (thn (hl pins s1 σ H1 _ I1 q1) fun vl s2 ⟨l, H2, I2, pl, q2⟩ => thn (hu pins s2 σ H2 _ I2 q2) fun vu s3 ⟨u, H3, I3, pu, q3⟩ => ?_)
  rw [evalPart_none]
  refine wpAny_pure ?_
  have I4 : Inv X pins σ H3 { s3 with heap := s3.heap.push { cls := .type "slice", data := .fields #[vl, vu, .none] } } := I3.kept (t' := s3.toks) fun b ob q => Heap.get?_push_of_some _ q
  obtain ⟨T, id, hT, ht, hg⟩ := hr pins { s3 with heap := s3.heap.push { cls := .type "slice", data := .fields #[vl, vu, .none] } } σ H3 x v vl vu l u s3.heap.objs.size Q I4 r1 (Heap.IsSliceOf.new ..) pl pu q3
  show wpAny (model X.prog X.w) X.A (subscriptTail e (.Slice lo hi none p2) v (.ref s3.heap.objs.size)) (EP X pins σ Q) X.xe { s3 with heap := s3.heap.push { cls := .type "slice", data := .fields #[vl, vu, .none] } }
  exact tail_any (ops := [.ref s3.heap.objs.size, v]) ht hT hg (by with_unfolding_all rfl)

/-- the items of xs[lo:hi] -/
def cutV (xs : List V) (lo hi : Option Int) : List V := (xs.drop (HT.sIx xs.length 0 lo)).take (HT.sIx xs.length xs.length hi - HT.sIx xs.length 0 lo)
theorem cutV_length (xs : List V) (lo hi : Option Int) : (cutV xs lo hi).length ≤ xs.length := by
  unfold cutV
  rw [List.length_take, List.length_drop]
  omega
/-- t[lo:hi], not the whole of it (the whole would be t itself) -/
def rSlT (K : PySem.W.Frag) : V → Option Int → Option Int → Hp → VK → Prop := fun x lo hi H Q => ∃ a xs, x = .ref a ∧ SqT K H a xs ∧
  ¬ (HT.sIx xs.length 0 lo = 0 ∧ HT.sIx xs.length xs.length hi = xs.length) ∧ ∀ p, H p = none → Q (.ref p) (upd H p (.tup (cutV xs lo hi)))
theorem sl_tup : SlR X (rSlT X.K) := by
  intro pins s σ H x v vl vu lo hi sl Q I rx hs pl pu h
  obtain ⟨a, xs, rfl, hx, hw, q⟩ := h
  cases rx
  obtain ⟨its, r, ht, hz⟩ := I.tuple hx
  have hlen : its.toArray.size = xs.length := by rw [List.size_toArray]; exact r.length.symm
  refine ⟨"tuple", _, PyProof.Rows.slot_tuple_getitem.lookup, ht.typeIs, ?_⟩
  refine HT.getItem_tuple_cut ht hs pl pu (by rw [hlen]; exact hw) ?_ (by rw [hlen]; exact hz)
  rw [hlen]
  refine ⟨.ref s.heap.objs.size, _, I.laid (t' := s.toks) (o := .tup (cutV xs lo hi)) (fun b ob q => Heap.get?_push_of_some _ q) (Nat.le_refl _) ?_, rfl, q _ (I.hok.fresh (Nat.le_refl _))⟩
  exact ⟨Nat.le_trans (cutV_length xs lo hi) hz, _, (r.drop (HT.sIx xs.length 0 lo)).take (HT.sIx xs.length xs.length hi - HT.sIx xs.length 0 lo), IsTup.new _ _⟩

/-! ### t < u, t + u -/
/-- t + u, t not empty: u empty gives t itself -/
def rCatT (K : PySem.W.Frag) : R2 := fun x y H Q => ∃ a b xs ys, x = .ref a ∧ y = .ref b ∧ SqT K H a xs ∧ SqT K H b ys ∧ xs ≠ [] ∧ xs.length + ys.length ≤ sizeLine ∧
  (ys = [] → Q (.ref a) H) ∧ (ys ≠ [] → ∀ p, H p = none → Q (.ref p) (upd H p (.tup (xs ++ ys))))
theorem Vals.nil_iff {xs : List V} {us : List Value} (r : Vals xs us) : us = [] ↔ xs = [] := by
  cases r with
  | nil => simp
  | cons _ _ => simp
theorem op_catT : OpR X (binaryOp .Add) (rCatT X.K) := by
  intro pins s σ H x y v u Q I rx ry h
  obtain ⟨a, b, xs, ys, rfl, rfl, ha, hb, hx, hz, q1, q2⟩ := h
  cases rx
  cases ry
  obtain ⟨its, r1, p1, _⟩ := I.tuple ha
  obtain ⟨its2, r2, p2, _⟩ := I.tuple hb
  refine HT.cat_tup p1 p2 (fun z => hx (r1.nil_iff.mp z)) (fun z => ⟨.ref a, H, I, rfl, q1 (r2.nil_iff.mp z)⟩) (fun z => ?_) (by rw [← r1.length, ← r2.length]; exact hz)
  refine ⟨.ref s.heap.objs.size, _, I.laid (t' := s.toks) (o := .tup (xs ++ ys)) (fun b ob q => Heap.get?_push_of_some _ q) (Nat.le_refl _) ?_, rfl, q2 (fun w => z (r2.nil_iff.mpr w)) _ (I.hok.fresh (Nat.le_refl _))⟩
  exact ⟨by rw [List.length_append]; exact hz, _, r1.append r2, IsTup.new _ _⟩
end
end L2

namespace L2
open PySem PySem.Spec PyProof.Rows

/-! ### places -/
/-- the place that an index of any sign means -/
def ixN (n : Nat) (i : Int) : Option Nat := if 0 ≤ i then (if i < n then some i.toNat else none) else if -(n : Int) ≤ i then some (i + n).toNat else none
def atI {α : Type} (xs : List α) (i : Int) : Option α := (ixN xs.length i).bind fun j => xs[j]?
theorem ixN_seq {n : Nat} {i : Int} {j : Nat} (h : ixN n i = some j) : seqIndex? i n = some j ∧ j < n ∧ -(n : Int) ≤ i ∧ i < n := by
  unfold ixN at h
  by_cases h0 : 0 ≤ i
  · rw [if_pos h0] at h
    by_cases h1 : i < n
    · rw [if_pos h1] at h
      have e : i.toNat = j := Option.some.inj h
      exact ⟨by rw [seqIndex_of h0 h1, e], by omega, by omega, h1⟩
    · rw [if_neg h1] at h; cases h
  · rw [if_neg h0] at h
    by_cases h1 : -(n : Int) ≤ i
    · rw [if_pos h1] at h
      have e : (i + n).toNat = j := Option.some.inj h
      exact ⟨by rw [seqIndex_neg (by omega) h1, e], by omega, h1, by omega⟩
    · rw [if_neg h1] at h; cases h
theorem atI_get {α : Type} {xs : List α} {i : Int} {v : α} (h : atI xs i = some v) : ∃ j, seqIndex? i xs.length = some j ∧ xs[j]? = some v ∧ j < xs.length ∧ -(xs.length : Int) ≤ i ∧ i < xs.length := by
  unfold atI at h
  cases e : ixN xs.length i with
  | none => rw [e] at h; cases h
  | some j =>
    rw [e] at h
    obtain ⟨h1, h2, h3, h4⟩ := ixN_seq e
    exact ⟨j, h1, h, h2, h3, h4⟩
theorem atI_nat {α : Type} {xs : List α} {j : Nat} {v : α} (h : xs[j]? = some v) : atI xs (j : Int) = some v := by
  have hj : j < xs.length := (List.getElem?_eq_some_iff.mp h).1
  have e : ixN xs.length (j : Int) = some j := by
    unfold ixN
    rw [if_pos (by omega), if_pos (by omega)]; simp
  unfold atI; rw [e]; exact h
theorem atI_last {α : Type} (xs : List α) (v : α) : atI (xs ++ [v]) (-1) = some v := by
  have hl : (xs ++ [v]).length = xs.length + 1 := by simp
  have e : ixN (xs ++ [v]).length (-1) = some xs.length := by
    unfold ixN
    rw [hl, if_neg (by decide), if_pos (by omega)]
    congr 1
    omega
  unfold atI
  rw [e]
  show (xs ++ [v])[xs.length]? = some v
  simp

/-! ### what may be subscripted -/
/-- what stands as an index of a plain subscript -/
def PlainIx (b : Expr) : Prop := ∀ o i, subscripted b false o i = operate [o, i] (getItem o i)
/-- a subscript by values -/
def IxR (X : Cx) (r : R2) : Prop :=
  ∀ (value slice : Expr) (pins : List (Addr × Obj)) (s : Shared) (σ : St) (H : Hp) (x y : V) (v u : Value) (Q : VK), Inv X pins σ H s → RelV x v → RelV y u → r x y H Q →
    subscripted slice false v u = operate [v, u] (getItem v u) → wpAny (model X.prog X.w) X.A (subscriptTail value slice v u) (EP X pins σ Q) X.xe s
/-- a call of a builtin's method by values: the receiver, the arguments -/
def MtR (X : Cx) (id : String) (r : V → List V → Hp → VK → Prop) : Prop :=
  ∀ (pins : List (Addr × Obj)) (s : Shared) (σ : St) (H : Hp) (x : V) (xs : List V) (v : Value) (us : List Value) (Q : VK), Inv X pins σ H s → RelV x v → Vals xs us → r x xs H Q →
    wpAny (model X.prog X.w) X.A (call (.builtin id) (v :: us)) (EP X pins σ Q) X.xe s
section
variable {X : Cx} {a b : Expr} {ta tb : TE} {pos : Pos}
theorem IxR.or {r r' : R2} (h : IxR X r) (h' : IxR X r') : IxR X (fun x y H Q => r x y H Q ∨ r' x y H Q) := by
  intro value slice pins s σ H x y v u Q I rx ry q hs
  rcases q with q | q
  · exact h value slice pins s σ H x y v u Q I rx ry q hs
  · exact h' value slice pins s σ H x y v u Q I rx ry q hs
/-- a[b] -/
theorem pe_ix {r : R2} (hr : IxR X r) (ha : PE X a ta) (hb : PE X b tb) (hs : PlainIx b) : PE X (.Subscript a b pos) (tOp r ta tb) := by
  intro pins s σ H Q I h
  exact Subscript_ (binT ha hb I h fun v u s2 x y H2 I2 rx ry q => hr a b pins s2 σ H2 x y v u Q I2 rx ry q (hs _ _))

def rIxL (K : PySem.W.Frag) : R2 := fun x y H Q => ∃ p xs i v, x = .ref p ∧ y = .int i ∧ SqL K H p xs ∧ atI xs i = some v ∧ Q v H
def rIxT (K : PySem.W.Frag) : R2 := fun x y H Q => ∃ p xs i v, x = .ref p ∧ y = .int i ∧ SqT K H p xs ∧ atI xs i = some v ∧ Q v H
def rIxS : R2 := fun x y H Q => ∃ z i c, x = .str z ∧ y = .int i ∧ z.length ≤ sizeLine ∧ atI z.cps.toList i = some c ∧ Q (.str ⟨#[c]⟩) H
theorem ix_list : IxR X (rIxL X.K) := by
  intro value slice pins s σ H x y v u Q I rx ry h hs
  obtain ⟨p, xs, i, z, rfl, rfl, hq, he, q⟩ := h
  cases rx
  obtain ⟨t, rfl⟩ := ry
  obtain ⟨its, r, pl, hz⟩ := I.list hq
  obtain ⟨j, h1, h2, h3, h4, h5⟩ := atI_get he
  obtain ⟨w, ew, rw'⟩ := r.get h2
  have hl := r.length
  have hn := line63
  have fin : EP X pins σ Q w s := ⟨z, H, I, rw', q⟩
  by_cases h0 : 0 ≤ i
  · have hj : i.toNat = j := by
      rw [seqIndex_of h0 h5] at h1
      exact Option.some.inj h1
    exact item_listR pl.isList h0 (by omega) (by rw [hj]; simpa using ew) fin hs
  · have hj : (i + (its.toArray.size : Int)).toNat = j := by
      rw [seqIndex_neg (by omega) h4] at h1
      rw [List.size_toArray, ← hl]
      exact Option.some.inj h1
    exact subscriptTail_builtinR (x := w) pl.isList.typeIs slot_list_getitem.lookup
      (wpAny_getItem_list_neg (Q := fun r s' => r = w ∧ EP X pins σ Q r s') pl.isList (by omega) (by rw [List.size_toArray] <;> omega) (by omega) (by rw [hj]; simpa using ew) ⟨rfl, fin⟩) hs
theorem ix_tup : IxR X (rIxT X.K) := by
  intro value slice pins s σ H x y v u Q I rx ry h hs
  obtain ⟨p, xs, i, z, rfl, rfl, hq, he, q⟩ := h
  cases rx
  obtain ⟨t, rfl⟩ := ry
  obtain ⟨its, r, pl, hz⟩ := I.tuple hq
  obtain ⟨j, h1, h2, h3, h4, h5⟩ := atI_get he
  obtain ⟨w, ew, rw'⟩ := r.get h2
  have hl := r.length
  have hn := line63
  have fin : EP X pins σ Q w s := ⟨z, H, I, rw', q⟩
  exact subscriptTail_builtinR (x := w) pl.typeIs slot_tuple_getitem.lookup
    (getItem_tuple (j := j) (Q := fun r s' => r = w ∧ EP X pins σ Q r s') pl (by omega) (by omega) (by rw [List.size_toArray, ← hl]; exact h1) (by simpa using ew) ⟨rfl, fin⟩) hs
theorem ix_str : IxR X rIxS := by
  intro value slice pins s σ H x y v u Q I rx ry h hs
  obtain ⟨z, i, c, rfl, rfl, hz, he, q⟩ := h
  obtain ⟨t, rfl⟩ := rx
  obtain ⟨t', rfl⟩ := ry
  obtain ⟨j, h1, h2, h3, h4, h5⟩ := atI_get he
  have hl : z.cps.toList.length = z.length := by simp [Str.length]
  rw [hl] at h1 h4 h5
  have hn := line63
  exact tail_any (typeIs_str s z t) slot_str_getitem.lookup (getItem_str (c := c) (by
    have e1 : decide (i < -(2 ^ 63 : Int)) = false := decide_eq_false (by omega)
    have e2 : decide (i ≥ 2 ^ 63) = false := decide_eq_false (by omega)
    rw [e1, e2, Bool.or_false]) (by rw [h1]; simpa using h2) ⟨.str ⟨#[c]⟩, H, I.tok _, ⟨_, rfl⟩, q⟩) hs
/-- list, tuple or str -/
def rIx (K : PySem.W.Frag) : R2 := fun x y H Q => rIxL K x y H Q ∨ rIxT K x y H Q ∨ rIxS x y H Q
theorem ix_seq : IxR X (rIx X.K) := ix_list.or (ix_tup.or ix_str)

/-! ### xs[i] = v, any sign -/
/-- the list's object behind a store -/
theorem mapSeq_set (its : List Value) (n j : Nat) (u : Value) : Obj.mapSeq (·.setIfInBounds j u) { cls := .type "list", data := .seq its.toArray n } = { cls := .type "list", data := .seq (its.set j u).toArray n } := by
  simp [Obj.mapSeq]
theorem Inv.lst {pins : List (Addr × Obj)} {σ : St} {H : Hp} {s : Shared} {p : Addr} {xs : List V} (I : Inv X pins σ H s) (h : H p = some (.lst xs)) :
    ∃ (its : List Value) (n : Nat), Vals xs its ∧ s.heap.get? p = some { cls := .type "list", data := .seq its.toArray n } ∧ xs.length ≤ sizeLine := by
  obtain ⟨z, its, n, r, e⟩ := I.hok p _ h
  exact ⟨its, n, r, e, z⟩
/-- the list at p is written by an update of its object -/
theorem Inv.lstUpd {pins : List (Addr × Obj)} {σ : St} {H : Hp} {s : Shared} {p : Addr} {xs ys : List V} {its its' : List Value} {n n' : Nat} {f : Obj → Obj} (I : Inv X pins σ H s) (h : H p = some (.lst xs))
    (ho : s.heap.get? p = some { cls := .type "list", data := .seq its.toArray n }) (hf : f { cls := .type "list", data := .seq its.toArray n } = { cls := .type "list", data := .seq its'.toArray n' }) (r : Vals ys its') (hz : ys.length ≤ sizeLine) (t : Nat) :
    Inv X pins σ (upd H p (.lst ys)) { s with heap := s.heap.update p f, toks := t } := by
  have e : (s.heap.update p f).get? p = some { cls := .type "list", data := .seq its'.toArray n' } := by
    rw [Heap.get?_update_self f ho (by rw [hf] <;> rfl), hf]
  refine I.write (x := p) (e := p) (by rw [h]; trivial) (.inl rfl) (fun b u hb q => (Heap.get?_update_other _ _ (Ne.symm hb)).trans q) ⟨_, e⟩ ?_
  exact ⟨hz, its', n', r, e⟩
def rSetL : V → V → V → Hp → (Hp → Prop) → Prop := fun o i v H Q => ∃ p xs k j, o = .ref p ∧ i = .int k ∧ H p = some (.lst xs) ∧ ixN xs.length k = some j ∧ Q (upd H p (.lst (xs.set j v)))
theorem set_list : PSet X rSetL := by
  intro pins s σ H o i v ov iv u Q I ro ri rv h
  obtain ⟨p, xs, k, j, rfl, rfl, hp, hj, q⟩ := h
  cases ro
  obtain ⟨t, rfl⟩ := ri
  obtain ⟨its, n, r, ho, hz⟩ := I.lst hp
  obtain ⟨h1, h2, h3, h4⟩ := ixN_seq hj
  have hl := r.length
  have hn := line63
  have I' : Inv X pins σ (upd H p (.lst (xs.set j v))) { s with heap := s.heap.update p (Obj.mapSeq (·.setIfInBounds j u)) } :=
    I.lstUpd hp ho (mapSeq_set its n j u) (r.set rv j) (by rw [List.length_set]; exact hz) s.toks
  by_cases h0 : 0 ≤ k
  · have hk : k.toNat = j := by
      rw [seqIndex_of h0 h4] at h1
      exact Option.some.inj h1
    exact PySem.W.ki_setAt ho h0 (by omega) (by rw [List.size_toArray, ← hl]; exact h4) (by rw [hk]; exact ⟨_, I', q⟩)
  · have hk : (k + (its.toArray.size : Int)).toNat = j := by
      rw [seqIndex_neg (by omega) h3] at h1
      rw [List.size_toArray, ← hl]
      exact Option.some.inj h1
    exact PySem.W.ki_setBack ho (by omega) (by rw [List.size_toArray, ← hl]; exact h3) (by omega) (by rw [hk]; exact ⟨_, I', q⟩)

/-! ### slices -/
theorem slice_bounds (lo hi : Option Int) (n : Nat) : (sliceBounds lo hi none n).1 = ((HT.sIx n 0 lo : Nat) : Int) ∧ (sliceBounds lo hi none n).2.1 = ((HT.sIx n n hi : Nat) : Int) ∧ (sliceBounds lo hi none n).2.2 = 1 := by
  refine ⟨?_, ?_, rfl⟩
  · cases lo with
    | none => simp [sliceBounds, HT.sIx]
    | some i =>
      simp only [sliceBounds, HT.sIx, Option.getD_none, show (1 : Int) > 0 by decide, if_true]
      by_cases h : i < 0
      · simp only [h, if_true] <;> omega
      · simp only [h, if_false] <;> omega
  · cases hi with
    | none => simp [sliceBounds, HT.sIx]
    | some i =>
      simp only [sliceBounds, HT.sIx, Option.getD_none, show (1 : Int) > 0 by decide, if_true]
      by_cases h : i < 0
      · simp only [h, if_true] <;> omega
      · simp only [h, if_false] <;> omega
theorem slicePick_cut (its : List Value) (lo hi : Option Int) : slicePick its.toArray lo hi none = ((its.drop (HT.sIx its.length 0 lo)).take (HT.sIx its.length its.length hi - HT.sIx its.length 0 lo)).toArray := by
  obtain ⟨h1, h2, h3⟩ := slice_bounds lo hi its.toArray.size
  unfold slicePick
  rw [h1, h2, h3]
  simp only [sliceRange_one, pick_run, List.size_toArray] <;> rfl
/-- xs[lo:hi] of a list: a new list -/
def rSlL (K : PySem.W.Frag) : V → Option Int → Option Int → Hp → VK → Prop := fun x lo hi H Q => ∃ a xs, x = .ref a ∧ SqL K H a xs ∧ ∀ p, H p = none → Q (.ref p) (upd H p (.lst (cutV xs lo hi)))
theorem sl_list : SlR X (rSlL X.K) := by
  intro pins s σ H x v vl vu lo hi sl Q I rx hs pl pu h
  obtain ⟨a, xs, rfl, hx, q⟩ := h
  cases rx
  obtain ⟨its, r, ht, hz⟩ := I.list hx
  have hlen := r.length
  refine ⟨"list", _, slot_list_getitem.lookup, ht.isList.typeIs, ?_⟩
  refine wpAny_getItem_list_slice ht.isList hs pl pu .none (by simp) ?_ (by rw [List.size_toArray] <;> omega)
  rw [slicePick_cut, ← hlen]
  refine ⟨.ref s.heap.objs.size, _, I.laid (t' := s.toks) (o := .lst (cutV xs lo hi)) (fun b ob q => Heap.get?_push_of_some _ q) (Nat.le_refl _) ?_, rfl, q _ (I.hok.fresh (Nat.le_refl _))⟩
  exact ⟨Nat.le_trans (cutV_length xs lo hi) hz, _, 0, (r.drop (HT.sIx xs.length 0 lo)).take (HT.sIx xs.length xs.length hi - HT.sIx xs.length 0 lo), Heap.get?_push_size _ rfl⟩

/-! ### in, not in: flat items -/
def flatV : V → Bool
  | .non => true
  | .bl _ => true
  | .int _ => true
  | .str _ => true
  | _ => false
/-- == of flat values -/
def eqV : V → V → Bool
  | .non, .non => true
  | .bl a, .bl b => a == b
  | .bl a, .int b => (if a then 1 else 0) == b
  | .int a, .bl b => a == (if b then 1 else 0)
  | .int a, .int b => a == b
  | .str a, .str b => a == b
  | _, _ => false
theorem eqAt_V {A : Around} {s : Shared} {y x : V} {u v : Value} (ry : RelV y u) (rx : RelV x v) (fy : flatV y = true) (fx : flatV x = true) : SeqAt.EqAt A s u v (eqV y x) := by
  cases y with
  | non =>
    cases ry
    cases x with
    | non => cases rx; exact SeqAt.EqAt.same _
    | bl b => cases rx; exact SeqAt.EqAt.none_bool b
    | int b => obtain ⟨t, rfl⟩ := rx; exact SeqAt.EqAt.none_int b t
    | str b => obtain ⟨t, rfl⟩ := rx; exact SeqAt.EqAt.none_str b t
    | _ => exact absurd (show false = true from fx) Bool.false_ne_true
  | bl a =>
    cases ry
    cases x with
    | non => cases rx; exact SeqAt.EqAt.bool_none a
    | bl b => cases rx; exact SeqAt.EqAt.bool_bool a b
    | int b => obtain ⟨t, rfl⟩ := rx; exact SeqAt.EqAt.bool_int a b t
    | str b => obtain ⟨t, rfl⟩ := rx; exact SeqAt.EqAt.bool_str a b t
    | _ => exact absurd (show false = true from fx) Bool.false_ne_true
  | int a =>
    obtain ⟨t', rfl⟩ := ry
    cases x with
    | non => cases rx; exact SeqAt.EqAt.int_none a t'
    | bl b => cases rx; exact SeqAt.EqAt.int_bool a t' b
    | int b => obtain ⟨t, rfl⟩ := rx; exact SeqAt.EqAt.int_int a t' b t
    | str b => obtain ⟨t, rfl⟩ := rx; exact SeqAt.EqAt.int_str a t' b t
    | _ => exact absurd (show false = true from fx) Bool.false_ne_true
  | str a =>
    obtain ⟨t', rfl⟩ := ry
    cases x with
    | non => cases rx; exact SeqAt.EqAt.str_none a t'
    | bl b => cases rx; exact SeqAt.EqAt.str_bool a t' b
    | int b => obtain ⟨t, rfl⟩ := rx; exact SeqAt.EqAt.str_int a t' b t
    | str b => obtain ⟨t, rfl⟩ := rx; exact SeqAt.EqAt.str_str a t' b t
    | _ => exact absurd (show false = true from fx) Bool.false_ne_true
  | _ => exact absurd (show false = true from fy) Bool.false_ne_true
/-- the items' answers, read off the values (a value's own answer does not lean on its token) -/
def eqU (x : V) (u : Value) : Bool := match u with
  | .none => eqV .non x
  | .bool b => eqV (.bl b) x
  | .int i _ => eqV (.int i) x
  | .str z _ => eqV (.str z) x
  | _ => false
theorem eqU_of {x y : V} {u : Value} (r : RelV y u) (f : flatV y = true) : eqU x u = eqV y x := by
  cases y with
  | non => cases r; rfl
  | bl b => cases r; rfl
  | int i => obtain ⟨t, rfl⟩ := r; rfl
  | str z => obtain ⟨t, rfl⟩ := r; rfl
  | _ => exact absurd (show false = true from f) Bool.false_ne_true
theorem any_eqU {x : V} : ∀ {xs : List V} {us : List Value}, Vals xs us → xs.all flatV = true → us.any (eqU x) = xs.any fun y => eqV y x
  | _, _, .nil, _ => rfl
  | y :: xs, u :: us, .cons r t, f => by
    rw [List.all_cons, Bool.and_eq_true] at f
    rw [List.any_cons, List.any_cons, eqU_of r f.1, any_eqU t f.2]
theorem mem_eqAt {A : Around} {s : Shared} {x : V} {v : Value} (rx : RelV x v) (fx : flatV x = true) : ∀ {xs : List V} {us : List Value}, Vals xs us → xs.all flatV = true → ∀ u ∈ us, SeqAt.EqAt A s u v (eqU x u)
  | _, _, .nil, _ => fun u hu => by cases hu
  | y :: xs, u :: us, .cons r t, f => fun u' hu => by
    rw [List.all_cons, Bool.and_eq_true] at f
    rcases List.mem_cons.mp hu with rfl | hu
    · rw [eqU_of r f.1]; exact eqAt_V r rx f.1 fx
    · exact mem_eqAt rx fx t f.2 u' hu
def inV (x : V) (xs : List V) : Bool := xs.any fun y => eqV y x
/-- x in a list or tuple of flat items -/
def rIn (K : PySem.W.Frag) (neg : Bool) : R2 := fun x y H Q => ∃ p xs, y = .ref p ∧ (SqL K H p xs ∨ SqT K H p xs) ∧ flatV x = true ∧ xs.all flatV = true ∧ Q (.bl (if neg then !inV x xs else inV x xs)) H
theorem op_notIn_seq : OpR X (compareOp .NotIn) (rIn X.K true) := by
  intro pins s σ H x y v u Q I rx ry h
  obtain ⟨p, xs, rfl, hq, fx, fs, q⟩ := h
  cases ry
  rcases hq with hq | hq
  · obtain ⟨its, r, pl, hz⟩ := I.list hq
    refine SeqAt.notIn_listAt (eqU x) pl.isList (fun w hw => mem_eqAt rx fx r fs w (by simpa using hw)) ⟨.bl _, H, I, rfl, ?_⟩
    rw [show its.toArray.any (eqU x) = its.any (eqU x) by simp, any_eqU r fs]
    exact q
  · obtain ⟨its, r, pl, hz⟩ := I.tuple hq
    refine SeqAt.notIn_tupleAt (eqU x) pl (fun w hw => mem_eqAt rx fx r fs w (by simpa using hw)) ⟨.bl _, H, I, rfl, ?_⟩
    rw [show its.toArray.any (eqU x) = its.any (eqU x) by simp, any_eqU r fs]
    exact q

/-! ### len, list(x), tuple(x) of any list or tuple that is read -/
theorem CallR.or {f : Value} {r r' : List V → Hp → VK → Prop} (h : CallR X f r) (h' : CallR X f r') : CallR X f (fun xs H Q => r xs H Q ∨ r' xs H Q) := by
  intro pins s σ H xs us Q I rs q
  rcases q with q | q
  · exact h pins s σ H xs us Q I rs q
  · exact h' pins s σ H xs us Q I rs q
theorem call_list_of : CallR X (.type "list") (fun xs H Q => ∃ p ys, xs = [.ref p] ∧ (SqL X.K H p ys ∨ SqT X.K H p ys) ∧ ∀ l, H l = none → Q (.ref l) (upd H l (.lst ys))) := by
  intro pins s σ H xs us Q I r h
  obtain ⟨p, ys, rfl, hq, q⟩ := h
  obtain ⟨u, rfl, rx⟩ := vals1 r
  cases rx
  have fin : ∀ (its : List Value), Vals ys its → ys.length ≤ sizeLine → ∀ (h' : Heap) (c' : Nat), (∀ b o', s.heap.get? b = some o' → h'.get? b = some o') →
      h'.get? s.heap.objs.size = some { cls := .type "list", dict := none, data := .seq its.toArray c', slots := #[] } → EP X pins σ Q (.ref s.heap.objs.size) { s with heap := h' } := fun its r' hz h' c' kp e =>
    ⟨.ref s.heap.objs.size, _, I.laid (t' := s.toks) kp (Nat.le_refl _) (show ObjOk X.prog X.w _ h' _ (.lst ys) from ⟨hz, its, c', r', e⟩), rfl, q _ (I.hok.fresh (Nat.le_refl _))⟩
  rcases hq with hq | hq
  · obtain ⟨its, r', pl, hz⟩ := I.list hq
    have hlen := r'.length
    obtain ⟨o, ho, hc, n, hd⟩ := pl.isList
    exact call_list_seq p (.inl rfl) ho hc hd (fun h' c' kp e => fin its r' hz h' c' kp e) (by simp only [List.size_toArray] <;> omega)
  · obtain ⟨its, r', pl, hz⟩ := I.tuple hq
    have hlen := r'.length
    obtain ⟨o, ho, hc, n, hd⟩ := pl
    exact call_list_seq p (.inr rfl) ho hc hd (fun h' c' kp e => fin its r' hz h' c' kp e) (by simp only [List.size_toArray] <;> omega)

/-! ### the call of a builtin's method: o.m(..) -/
/-- the value is of that builtin type -/
def tyV (K : PySem.W.Frag) (T : String) (x : V) (H : Hp) : Prop := match x with
  | .str _ => T = "str"
  | .int _ => T = "int"
  | .ref p => (T = "list" ∧ ∃ xs, SqL K H p xs) ∨ (T = "tuple" ∧ ∃ o, K.lookup p = some o ∧ o.cls = .type "tuple" ∧ o.dict = none) ∨
      (T = "dict" ∧ ((∃ kvs, H p = some (.dK kvs)) ∨ ∃ kvs, H p = some (.dT kvs))) ∨ (T = "set" ∧ ∃ S n, H p = some (.set S n))
  | _ => False
theorem tyV_is {pins : List (Addr × Obj)} {σ : St} {H : Hp} {s : Shared} {T : String} {x : V} {v : Value} (I : Inv X pins σ H s) (r : RelV x v) (ty : tyV X.K T x H) :
    s.TypeIs v T ∧ ∀ a, v = .ref a → ∃ ob, s.heap.get? a = some ob ∧ ob.dict = none := by
  cases x with
  | str z =>
    obtain ⟨t, rfl⟩ := r
    cases (show T = "str" from ty)
    exact ⟨typeIs_str s z t, fun _ e => nomatch e⟩
  | int i =>
    obtain ⟨t, rfl⟩ := r
    cases (show T = "int" from ty)
    exact ⟨typeIs_int s i t, fun _ e => nomatch e⟩
  | ref p =>
    cases r
    rcases ty with ⟨rfl, xs, hq⟩ | ⟨rfl, o, hk, hc, hd⟩ | ⟨rfl, hk⟩ | ⟨rfl, S, n, hk⟩
    · obtain ⟨its, _, pl, _⟩ := I.list hq
      refine ⟨pl.isList.typeIs, fun a e => ?_⟩
      cases e
      obtain ⟨o, n, e, c, hd, _⟩ := pl
      exact ⟨o, e, hd⟩
    · refine ⟨⟨o, I.kIn p o hk, hc⟩, fun a e => ?_⟩
      cases e
      exact ⟨o, I.kIn _ o hk, hd⟩
    · have z : ∃ o, s.heap.get? p = some o ∧ o.ExactDict := by
        rcases hk with ⟨kvs, hk⟩ | ⟨kvs, hk⟩
        · obtain ⟨_, _, _, _, o, _, _, e, ex, _⟩ := I.hok p _ hk
          exact ⟨o, e, ex⟩
        · obtain ⟨_, _, _, _, o, _, _, e, ex, _⟩ := I.hok p _ hk
          exact ⟨o, e, ex⟩
      obtain ⟨o, e, ex⟩ := z
      refine ⟨⟨o, e, ex.1⟩, fun a e2 => ?_⟩
      cases e2
      exact ⟨o, e, ex.2.1⟩
    · obtain ⟨o, _, _, _, e, ex, _⟩ := I.hok p _ hk
      refine ⟨⟨o, e, ex.1⟩, fun a e2 => ?_⟩
      cases e2
      exact ⟨o, e, ex.2.1⟩
  | _ => exact False.elim ty
def tBM0 (K : PySem.W.Frag) (T : String) (r : V → List V → Hp → VK → Prop) (to : TE) : TE := fun σ H Q => to σ H fun x H1 => tyV K T x H1 ∧ r x [] H1 Q
def tBM (K : PySem.W.Frag) (T : String) (r : V → List V → Hp → VK → Prop) (to : TE) (t : TA) : TE := fun σ H Q => to σ H fun x H1 => tyV K T x H1 ∧ t σ H1 fun xs H2 => r x xs H2 Q
variable {o e : Expr} {es : List Expr} {to : TE} {t : TA} {name : Str} {apos cpos : Pos} {T id : String} {r : V → List V → Hp → VK → Prop}
theorem pe_bm0 (pa : PlainAttrs T) (slot : Slot T name id) (hty : typeOf (.builtin id) = pure (.type "method_descriptor")) (hm : MtR X id r) (ho : PE X o to)
    (hbase : attributeBase o name X.env (eval o X.env) = eval o X.env := by rfl) (hline : (apos.endLine == cpos.line) = true := by rfl) : PE X (.Call (.Attribute o name apos) [] [] cpos) (tBM0 X.K T r to) := by
  intro pins s σ H Q I h
  refine wpAny_Call_method0_late hbase hline (thn (ho pins s σ H _ I h) fun v s1 ⟨x, H1, I1, r1, ty, q1⟩ => ?_)
  obtain ⟨h1, h2⟩ := tyV_is I1 r1 ty
  exact ⟨T, id, pa, slot, hty, h1, h2, Calls.callWith_builtin rfl (PySem.evalArgs_none (hm pins s1 σ H1 x [] v [] Q I1 r1 .nil q1))⟩
theorem pe_bm (pa : PlainAttrs T) (slot : Slot T name id) (hty : typeOf (.builtin id) = pure (.type "method_descriptor")) (hm : MtR X id r) (ho : PE X o to) (ha : PA X (e :: es) t)
    (hbase : attributeBase o name X.env (eval o X.env) = eval o X.env := by rfl)
    (hfew : ((backTo cpos (starEach (e :: es) X.env)).all (fun x => !x.1) && (backToKw cpos (keywordEach [] X.env)).all (fun x => x.1.isSome)
      && decide ((e :: es).length + ([] : List Keyword).length + (if ([] : List Keyword).isEmpty then 0 else 1) < 30)) = true := by rfl)
    (hline : (apos.endLine == cpos.line) = true := by rfl) (hs : starEach (e :: es) X.env = (false, eval e X.env) :: starEach es X.env := by rfl) (hplain : (backTo cpos (starEach es X.env)).any (·.1) = false := by rfl) :
    PE X (.Call (.Attribute o name apos) (e :: es) [] cpos) (tBM X.K T r to t) := by
  intro pins s σ H Q I h
  refine wpAny_Call_method_late hbase hfew hline rfl (thn (ho pins s σ H _ I h) fun v s1 ⟨x, H1, I1, r1, ty, q1⟩ => ?_)
  obtain ⟨h1, h2⟩ := tyV_is I1 r1 ty
  refine ⟨T, id, pa, slot, hty, h1, h2, ?_⟩
  have hA := ha cpos pins s1 σ H1 _ I1 q1
  rw [hs] at hA ⊢
  refine Calls.callWith_builtin (by show (false || (backTo cpos (starEach es X.env)).any (·.1)) = false; rw [hplain] <;> rfl) (Calls.evalArgs_plain ?_)
  exact thn hA fun us s2 ⟨vs, H2, I2, r2, q2⟩ => hm pins s2 σ H2 x vs v us Q I2 r1 r2 q2
/- xs.append(e), list.index on a module's tuple .. are MtR facts of 06m -/
end
end L2

namespace L2
open PySem PySem.Spec PyProof.Rows

def MtM (X : Cx) (id : String) (r : V → List V → Hp → VK → Prop) : Prop :=
  ∀ (pins : List (Addr × Obj)) (s : Shared) (σ : St) (H : Hp) (x : V) (xs : List V) (v : Value) (us : List Value) (Q : VK), Inv X pins σ H s → RelV x v → Vals xs us → r x xs H Q →
    wpAny (model X.prog X.w) X.A (call (.builtin id) (v :: us)) (EP X pins σ Q) X.xe s

/-! ### lists of values -/
theorem Vals.one : ∀ {x : V} {us : List Value}, Vals [x] us → ∃ u, us = [u] ∧ RelV x u
  | _, _, .cons r .nil => ⟨_, rfl, r⟩
theorem Vals.two : ∀ {x y : V} {us : List Value}, Vals [x, y] us → ∃ u v, us = [u, v] ∧ RelV x u ∧ RelV y v
  | _, _, _, .cons r (.cons q .nil) => ⟨_, _, rfl, r, q⟩
theorem Vals.zero : ∀ {us : List Value}, Vals [] us → us = []
  | _, .nil => rfl
theorem Vals.dropLast {xs : List V} {us : List Value} (h : Vals xs us) : Vals xs.dropLast us.dropLast := by
  induction h with
  | nil => exact .nil
  | cons r t ih =>
    cases t with
    | nil => exact .nil
    | cons q t' => exact .cons r ih
theorem Vals.rep {xs : List V} {us : List Value} (h : Vals xs us) : ∀ k : Nat, Vals (List.replicate k xs).flatten (List.replicate k us).flatten
  | 0 => .nil
  | k + 1 => by
    rw [List.replicate_succ, List.replicate_succ, List.flatten_cons, List.flatten_cons]
    exact Vals.append h (Vals.rep h k)
theorem erase_last {α : Type} (l : List α) : l.eraseIdx (l.length - 1) = l.dropLast := by
  induction l with
  | nil => rfl
  | cons a r ih =>
    cases r with
    | nil => rfl
    | cons b r =>
      have e : (a :: b :: r).length - 1 = ((b :: r).length - 1) + 1 := by
        have h1 : (a :: b :: r).length = r.length + 2 := rfl
        have h2 : (b :: r).length = r.length + 1 := rfl
        omega
      rw [e, List.eraseIdx_cons_succ, ih]
      all_goals rfl
theorem foldl_rep (its : List Value) : ∀ (k : Nat) (acc : List Value),
    List.foldl (fun x1 x2 => x1 ++ x2) acc.toArray (List.replicate k its.toArray) = (acc ++ (List.replicate k its).flatten).toArray
  | 0, acc => by simp
  | k + 1, acc => by
    have e : acc.toArray ++ its.toArray = (acc ++ its).toArray := by simp
    have e2 : (acc ++ its) ++ (List.replicate k its).flatten = acc ++ (List.replicate (k + 1) its).flatten := by
      rw [List.replicate_succ, List.flatten_cons, List.append_assoc]
    rw [← e2, ← foldl_rep its k (acc ++ its), ← e, List.replicate_succ, List.foldl_cons]

section
variable {X : Cx} {pins : List (Addr × Obj)} {σ : St} {H : Hp} {s : Shared} {l b : Addr} {xs ys zs : List V}

/-! ### the two steps: a tracked list is rewritten, a new list is laid -/
theorem Inv.lset {its its' : List Value} {n : Nat} {f : Array Value → Array Value} {t' : Nat} (I : Inv X pins σ H s) (hH : H l = some (.lst xs))
    (e : s.heap.get? l = some { cls := .type "list", data := .seq its.toArray n }) (hf : f its.toArray = its'.toArray) (hv : Vals ys its') (hz : ys.length ≤ sizeLine) :
    Inv X pins σ (upd H l (.lst ys)) { s with heap := s.heap.update l (Obj.mapSeq f), toks := t' } := by
  have q := PySem.IsL.update e f
  rw [hf] at q
  refine I.write (x := l) (e := l) (by rw [hH]; exact trivial) (.inl rfl) (fun b' u hb hu => (Heap.get?_update_other s.heap (Obj.mapSeq f) (Ne.symm hb)).trans hu) ⟨_, q⟩ ?_
  exact ⟨hz, its', _, hv, q⟩
theorem Inv.lnew {its : List Value} {t' : Nat} (I : Inv X pins σ H s) (hv : Vals ys its) (hz : ys.length ≤ sizeLine) :
    Inv X pins σ (upd H s.heap.objs.size (.lst ys)) { s with heap := s.heap.push { cls := .type "list", data := .seq its.toArray }, toks := t' } :=
  I.laid (fun _ _ q => Heap.get?_push_of_some _ q) (Nat.le_refl _) ⟨hz, its, 0, hv, Heap.get?_push_size _ rfl⟩
theorem Inv.fresh (I : Inv X pins σ H s) : H s.heap.objs.size = none := I.hok.fresh (Nat.le_refl _)
theorem Inv.lstM (I : Inv X pins σ H s) (hH : H l = some (.lst xs)) : xs.length ≤ sizeLine ∧ ∃ (its : List Value) (n : Nat), Vals xs its ∧ xs.length = its.length ∧ s.heap.get? l = some { cls := .type "list", data := .seq its.toArray n } := by
  obtain ⟨z, its, n, r, e⟩ := I.hok l _ hH
  exact ⟨z, its, n, r, r.length, e⟩

theorem notLongL {n : Nat} (h : n ≤ sizeLine) : Builtin.List.listTooLong n = false := by
  unfold Builtin.List.listTooLong
  exact decide_eq_false (by omega)
end

section
variable {X : Cx}

/-! ### methods -/
def rAppend : V → List V → Hp → VK → Prop := fun x vs H Q => ∃ l xs y, x = .ref l ∧ vs = [y] ∧ H l = some (.lst xs) ∧ xs.length < sizeLine ∧ Q .non (upd H l (.lst (xs ++ [y])))
theorem mt_append : MtM X "list.append" rAppend := by
  intro pins s σ H x vs v us Q I rx rv h
  obtain ⟨l, xs, y, rfl, rfl, hH, hz, q⟩ := h
  cases rx
  obtain ⟨u, rfl, ru⟩ := rv.one
  obtain ⟨z, its, n, r, hl, e⟩ := I.lstM hH
  refine call_meets F.slot_list_append ⟨_, e, rfl⟩ F.entry_list_append (F.args_list_append_2 _ _) (PySem.list_append l its.toArray n u (by rw [List.size_toArray]; omega)) ⟨e, ?_⟩
  refine ⟨.non, _, I.lset (its' := its ++ [u]) hH e (by simp) (r.append (.cons ru .nil)) ?_, rfl, q⟩
  rw [List.length_append, List.length_singleton]
  omega


def rPop : V → List V → Hp → VK → Prop := fun x vs H Q => ∃ l xs y, x = .ref l ∧ vs = [] ∧ H l = some (.lst xs) ∧ xs[xs.length - 1]? = some y ∧ Q y (upd H l (.lst xs.dropLast))
theorem mt_pop : MtM X "list.pop" rPop := by
  intro pins s σ H x vs v us Q I rx rv h
  obtain ⟨l, xs, y, rfl, rfl, hH, hy, q⟩ := h
  cases rx
  have hus := rv.zero
  subst hus
  obtain ⟨z, its, n, r, hl, e⟩ := I.lstM hH
  obtain ⟨u, hu, ru⟩ := r.get hy
  have hy' : its.toArray[its.toArray.size - 1]? = some u := by
    show its.toArray[its.length - 1]? = some u
    rw [← Array.getElem?_toList, ← hl]
    exact hu
  refine call_meets F.slot_list_pop ⟨_, e, rfl⟩ F.entry_list_pop (F.args_list_pop_1 _) (MeetsSeq.list_pop_last l its.toArray n u hy' (by rw [List.size_toArray]; omega)) ⟨e, ?_⟩
  refine ⟨y, _, I.lset (its' := its.dropLast) hH e ?_ r.dropLast ?_, ru, q⟩
  · show its.toArray.eraseIdxIfInBounds (its.toArray.size - 1) = its.dropLast.toArray
    rw [List.size_toArray, List.eraseIdxIfInBounds_toArray, erase_last]
  · rw [List.length_dropLast]
    omega




/-! ### list + list, list += list, list * int -/
/-- a list times an int (a negative one is nothing) -/
def rRep : R2 := fun x y H Q => ∃ l k xs, x = .ref l ∧ y = .int k ∧ H l = some (.lst xs) ∧ -(2 ^ 63) ≤ k ∧ k < 2 ^ 63 ∧ xs.length * k.toNat ≤ sizeLine ∧
  ∀ p, H p = none → Q (.ref p) (upd H p (.lst (List.replicate k.toNat xs).flatten))
theorem len_rep {α : Type} (xs : List α) (k : Nat) : (List.replicate k xs).flatten.length = k * xs.length := by
  induction k with
  | zero => simp
  | succ k ih => rw [List.replicate_succ, List.flatten_cons, List.length_append, ih, Nat.succ_mul, Nat.add_comm]
theorem op_rep : OpR X (binaryOp .Mult) rRep := by
  intro pins s σ H x y v u Q I rx ry h
  obtain ⟨l, k, xs, rfl, rfl, hH, h1, h2, hz, q⟩ := h
  cases rx
  obtain ⟨t, rfl⟩ := ry
  obtain ⟨z, its, n, r, hl, e⟩ := I.lstM hH
  have hlen : its.toArray.size * k.toNat ≤ sizeLine := by rw [List.size_toArray, ← hl]; exact hz
  have hcap : ¬ its.toArray.size * k.toNat > (2 ^ 63 - 1) / 8 := by
    have : (sizeLine : Nat) ≤ (2 ^ 63 - 1) / 8 := by decide
    omega
  have hfit : ¬ (!Builtin.List.listFitsIndex k) = true := by
    rw [fitsIndex_both h1 h2]
    exact Bool.false_ne_true
  have hlong : ¬ Builtin.List.listTooLong (its.toArray.size * k.toNat) = true := by
    rw [notLongL hlen]
    exact Bool.false_ne_true
  have hnew : List.foldl (fun x1 x2 => x1 ++ x2) #[] (List.replicate (if its.toArray.isEmpty = true then 0 else k.toNat) its.toArray) = (List.replicate k.toNat its).flatten.toArray := by
    have f0 : ∀ m : Nat, List.foldl (fun x1 x2 => x1 ++ x2) #[] (List.replicate m its.toArray) = (List.replicate m its).flatten.toArray := fun m => by
      have := foldl_rep its m []
      rw [List.nil_append] at this
      exact this
    rw [f0]
    cases its with
    | nil => simp
    | cons a r' => rw [if_neg (by simp)]
  refine wpAny_binaryOp_repeat_ref (T := "list") (U := "int") (by decide) ⟨_, e, rfl⟩ (fun s' => typeIs_int s' k t) noFill_list_mul F.fills_int_mul F.slot_int_rmul repeat_list F.slot_int_index.lookup
    (call_meets F.slot_int_rmul (typeIs_int s k t) F.entry_int_rmul (F.args_int_rmul_2 _ _) (int___rmul___int_list k t l its.toArray n)
      ⟨e, rfl, ⟨_, e, rfl⟩, call_meets F.slot_list_mul ⟨_, e, rfl⟩ F.entry_list_mul (F.args_list_mul_2 _ _) (AutoListH.list___mul___list_int_3 l its.toArray n k t hfit hcap hlong) ⟨e, ?_⟩⟩)
  rw [hnew]
  exact ⟨.ref _, _, I.lnew (t' := s.toks) (r.rep k.toNat) (by rw [len_rep, Nat.mul_comm]; exact hz), rfl, q _ I.fresh⟩

/-! ### del xs[i] -/
end

/-! ### xs[a:b] = ys -/
section
variable {prog : Program} {w : World} {A : Around} {E : Value → Shared → Prop} {s : Shared}
set_option maxRecDepth 100000 in
end

section
variable {X : Cx}
end
end L2

namespace Att
open PySem PySem.W PySem.Calls PyProof.Rows

/-! ### the script -/
theorem ints_of_wellAll {P : Params} {h : Heap} : ∀ (ns : List Int) (vs : List Value), WellAll P h vs (ns.map WData.int) → IntsAre vs ns := by
  intro ns
  induction ns with
  | nil =>
    intro vs w
    rw [List.map_nil] at w
    cases w
    exact .nil
  | cons n ns ih =>
    intro vs w
    rw [List.map_cons] at w
    cases w with
    | cons a b =>
      cases a
      exact .cons _ _ (ih _ b)

theorem script_of {l : OpenLaw} {n : Nat} (hn : l.most = some n) {P : Params} {h : Heap} {args : List WData} {vals : List Value}
    (hpre : l.row.toRowW.claim.pre args = true) (hwl : WellAll P h vals args) :
    ∃ a vs ns, vals = [Value.ref a] ∧ args = [WData.list (ns.map WData.int)] ∧ h.get? a = some { cls := .type "list", data := .seq vs.toArray } ∧ IntsAre vs ns ∧ ns.length ≤ n := by
  have hsh : WShape.hasAll [] args [.list .int] = true := (pre_splitW hpre).1
  have hc : l.pre.holds [] { args := args } = true := (pre_splitW hpre).2
  obtain ⟨d, r, rfl, h1, h2⟩ := hasAllW_cons hsh
  obtain rfl := hasAllW_nil h2
  obtain ⟨xs, rfl, h3⟩ := hasW_list h1
  obtain ⟨ns, rfl⟩ := items_int h3
  have hlen : ns.length ≤ n := by
    unfold OpenLaw.pre at hc
    have h4 : (WTm.not (.lt (.lit (.int (n : Int))) (.len (.arg 0)))).holds [] { args := [.list (ns.map .int)] } = true := by
      have h4 := (holds_andW hc).1
      rw [hn] at h4
      exact h4
    have h5 := condW_of h4 (w_not (w_lt w_lit (w_len_list (w_arg rfl))))
    rw [List.length_map] at h5
    refine Nat.le_of_not_lt fun q => ?_
    have q' : (n : Int) < ((ns.length : Nat) : Int) := by omega
    first
      | (rw [decide_eq_true q'] at h5; exact absurd h5 (by decide))
      | (simp at h5; omega)
  cases hwl with
  | cons w1 w2 =>
    cases w2
    cases w1 with
    | list ho hall => exact ⟨_, _, ns, rfl, rfl, ho, ints_of_wellAll ns _ hall, hlen⟩

theorem post_true (l : OpenLaw) (args : List WData) : l.row.toRowW.claim.post args (.bool true) args = true :=
  postW_of (r := l.row.toRowW) (X := (true == true))
    (show WShape.has [] (.bool true) .bool = true by first | rfl | decide | simp [WShape.has, WShape.arms, WShape.armsAll])
    (show (WTm.eq .res (.lit (.bool true))).value [] { args := args, res := some (.bool true), after := args } = some (.bool (true == true)) from w_eq_bool (w_res rfl) w_lit) rfl

/-! ### the attachment: holds_open's last premise (the goal 'hc' behind k_head) from a wpAny of the law's body -/

/-- the same from a codeAny of the CALL (for a layer whose function contracts speak of calls) -/
theorem attach_call {l : OpenLaw} {n : Nat} {q : Program} {loose : List Str} {XP : (Str → Option Value) → Heap → Prop} {YP : World → Heap → Prop} {d : DefRec}
    (hn : l.most = some n) (hdf : d.params.defaults = [])
    (call : ∀ (w : World) (s₀ s₁ : Shared) (mg mb : Str → Option Value) (fa : Addr) (o : Obj) (pm cd doc : Value) (a : Addr) (vs : List Value) (ns : List Int),
      Ground q loose [] XP w s₀ mg mb s₁.heap → YP w s₁.heap →
      s₁.heap.get? fa = some o → o.data = .func (docDef d.name d.params d.body d.scope pm cd doc) → s₁.heap.CodeRec cd d.name → mg d.name = some (.ref fa) →
      s₁.heap.get? a = some { cls := .type "list", data := .seq vs.toArray } → IntsAre vs ns → ns.length ≤ n → s₁.gens = #[] →
      codeAny (model l.prog w) callerA (.call (.ref fa) ⟨[.ref a], []⟩) (fun r s' => r = .ok (.ret (.bool true)) ∧ OldK s₁.heap s'.heap ∧ s'.os = s₁.os ∧ AllBare s'.gens) s₁) :
    WalkO q loose XP YP l.row.toRowW d [] (fun f vs => PySem.call f vs) := by
  intro w s₀ s₁ mg mb G Y fa o pm cd doc dV kV ho hd hcd hD hmg hg args vals as hpre hlay hrd hwl hlo
  obtain rfl : dV = .none := Dflts.none hD hdf
  obtain rfl : kV = .none := Dflts.noKw hD
  obtain ⟨a, vs, ns, rfl, rfl, hobj, hints, hlen⟩ := script_of hn hpre hwl
  refine enter_call (codeAny_mono (call w s₀ s₁ mg mb fa o pm cd doc a vs ns G Y ho (fd_plain hd) hcd hmg hobj hints hlen hg) fun r s' hq => ?_)
  obtain ⟨rfl, h2, h3, h4⟩ := hq
  exact ⟨.inl ⟨.bool true, .bool true, [], rfl, fun _ => rfl, .bool true, post_true l _, fun _ => ⟨List.Pairwise.nil, fun _ hm => (nomatch hm)⟩⟩, h2, h3, h4⟩


/-! ### rules over ANY heap (no ledger) from facts about the written part K: the library's own take a ledger (News) for what they write -/
section
variable {prog : Program} {w : World} {A : Around} {E : Value → Shared → Prop} {s : Shared} {K : Frag}





/-! the whole heap as the ledger: makes every rule that writes through a ledger a rule over any heap -/

end
end Att

namespace L2
open PySem PySem.Spec PyProof.Rows

theorem vals_ints : ∀ {vs : List Value} {ns : List Int}, IntsAre vs ns → Vals (ns.map V.int) vs
  | _, _, .nil => .nil
  | _, _, .cons n t h => .cons ⟨t, rfl⟩ (vals_ints h)

/-- nothing is tracked but the script, known to the object (or it is an object of the module) -/
def Only (H : Hp) : Prop := ∀ b, H b = none ∨ ∃ o xs, H b = some (.frz o (.lst xs))

/-- THE HEAD: the law's promise, at the heap behind the top. F, the promise of the law's def, may use that base is part of the heap (so K.In base, base.Ns mainGlobals mg stand in Mod) -/
theorem law_call {P : Program} {w : World} {K : PySem.W.Frag} {mg mb : Str → Option Value} {CX : CXT} {k : Nat} {fa a : Addr} {fd : FuncData} {x : Str} {sp : Sp} {s₁ : Shared} {vs : List Value} {ns : List Int}
    (KX : K.In s₁.heap) (hns : s₁.heap.Ns mainGlobals mg) (hb : s₁.heap.Ns builtinsNs mb) (hbb : ∀ x : Str, x ≠ "__name__" → mb x = bootBuiltins x) (hlim : s₁.heap.NoLimit) (hg : s₁.gens = #[])
    (ha : s₁.heap.get? a = some { cls := .type "list", data := .seq vs.toArray }) (hi : IntsAre vs ns) (hl : ns.length ≤ sizeLine) (hr : Room k callerA)
    (F : ∀ base : Heap, K.In base → base.Ns mainGlobals mg → FnOk P w K mg base CX k fa fd [x] sp) (hbind : ∀ (s : Shared) (u : Value), BindsTo s fd ⟨[u], []⟩ [(x, u)])
    (hsp : ∀ H : Hp, Only H → SqL K H a (ns.map V.int) → sp [.ref a] H (fun v _ => v = .bl true) fun _ _ _ => False)
    (hCX : ∀ H e s', CX [] H s₁ (fun _ _ _ => False) e s' → False) :
    codeAny (model P w) callerA (.call (.ref fa) ⟨[.ref a], []⟩) (fun r s' => r = .ok (.ret (.bool true)) ∧ OldK s₁.heap s'.heap ∧ s'.os = s₁.os ∧ AllBare s'.gens) s₁ := by
  have rv := vals_ints hi
  have lenV := hi.length
  -- from an abstract heap in which nothing but the script may be tracked
  have core : ∀ H : Hp, Only H → SqL K H a (ns.map V.int) → HOk P w H s₁.heap → (∀ b, H b ≠ none → b = a) → (H a ≠ none → K.lookup a = none) →
      codeAny (model P w) callerA (.call (.ref fa) ⟨[.ref a], []⟩) (fun r s' => r = .ok (.ret (.bool true)) ∧ OldK s₁.heap s'.heap ∧ s'.os = s₁.os ∧ AllBare s'.gens) s₁ := by
    intro H hO hS hok hA hK
    have base_of : ∀ {b : Addr} {o : Obj}, s₁.heap.get? b = some o → H b = none → (hidT s₁.heap H).get? b = some o := fun e n => hidT_get e n
    have noA : ∀ {b : Addr} {o : Obj} {es : Array DictEntry} {ep : Nat}, s₁.heap.get? b = some o → o.data = .dict es ep → H b = none := fun {b o es ep} e d => by
      cases q : H b with
      | none => rfl
      | some u =>
        have e' : b = a := hA b (by rw [q]; simp)
        subst e'
        rw [ha] at e; cases e
        have d' : Data.seq vs.toArray _ = Data.dict es ep := d
        cases d'
    have nsK : ∀ {b : Addr} {m : Str → Option Value}, s₁.heap.Ns b m → (hidT s₁.heap H).Ns b m := fun {b m} ⟨o, es, ep, e, d, r⟩ => ⟨o, es, ep, base_of e (noA e d), d, r⟩
    have hKb : K.In (hidT s₁.heap H) := fun b o e => base_of (KX b o e) (by
      cases q : H b with
      | none => rfl
      | some u =>
        have e' : b = a := hA b (by rw [q]; simp)
        subst e'
        rw [hK (by rw [q]; simp)] at e; cases e)
    have hM : Mod K mg (hidT s₁.heap H) := ⟨hKb, nsK hns, ⟨mb, nsK hb, hbb⟩, let ⟨mc, h1, h2⟩ := hlim; ⟨mc, nsK h1, h2⟩⟩
    have e0 : Env0 P w K mg (hidT s₁.heap H) callerA [] s₁ H := ⟨rfl, hM, fun b o e => of_hidT e, Nat.le_of_eq (hidT_size _ _), trivial, fun b hb => absurd (show b ∈ ([] : List Addr) from hb) (by simp), hok, .of_eq hg⟩
    refine codeAny_mono ((F _ hKb (nsK hns)).run callerA [] s₁ H ⟨[.ref a], []⟩ [.ref a] [.ref a] _ _ hr e0 (hbind s₁ (.ref a)) (.cons rfl .nil) (hsp H hO hS)) fun r s' h => ?_
    cases r with
    | error e => exact (hCX H e s' h).elim
    | ok fl =>
      cases fl with
      | next => exact False.elim h
      | brk => exact False.elim h
      | cont => exact False.elim h
      | ret u =>
        obtain ⟨v, H', os, bare, un, hok', r', q⟩ := h
        have q' : v = .bl true := q
        subst q'
        obtain rfl : u = Value.bool true := r'
        refine ⟨rfl, OldK.of_keep fun b o e => ?_, os, bare⟩
        cases q : H b with
        | none => exact un.keep b o e q (by intro z; exact absurd (show b ∈ ([] : List Addr) from z) (by simp)) (by simp)
        | some u =>
          rcases hO b with z | ⟨ob, xs, z⟩
          · rw [q] at z; cases z
          · have z2 := un.frzs b ob _ z
            obtain ⟨e1, _⟩ := hok b _ z
            obtain ⟨e2, _⟩ := hok' b _ z2
            rw [e] at e1; cases e1
            exact e2
  cases hk : K.lookup a with
  | some o =>
    -- the script is one of the module's own objects
    have e := KX a o hk
    rw [ha] at e
    cases e
    refine core (fun _ => none) (fun _ => .inl rfl) (.inr ⟨_, vs.toArray, _, hk, rfl, rfl, rfl, by rw [List.size_toArray, lenV]; exact hl, by simpa using rv⟩) (fun b u z => by have z' : (none : Option HO) = some u := z; cases z') (fun b z => absurd rfl z) fun z => absurd rfl z
  | none =>
    refine core (fun b => if b = a then some (.frz { cls := .type "list", data := .seq vs.toArray } (.lst (ns.map V.int))) else none) (fun b => ?_) (.inl (.inr ⟨{ cls := .type "list", data := .seq vs.toArray }, if_pos rfl⟩)) (fun b u z => ?_) (fun b z => ?_) fun _ => hk
    · by_cases hb : b = a
      · exact .inr ⟨_, _, if_pos hb⟩
      · exact .inl (if_neg hb)
    · by_cases hb : b = a
      · have z' := (if_pos hb).symm.trans z
        cases z'
        subst hb
        exact ⟨ha, by rw [List.length_map]; exact hl, vs, _, rv, ha⟩
      · have z' := (if_neg hb).symm.trans z
        cases z'
    · by_cases hb : b = a
      · exact hb
      · exact absurd (if_neg hb) z
end L2

namespace L2
open PySem PySem.Spec PyProof.Rows


/-- the goal that k_head leaves (case hc), from the law's promise. F gives the function object fd (K's own) once, then the promise over every base -/
theorem walk_of {l : PySem.W.OpenLaw} {n k : Nat} {q : Program} {loose : List Str} {XP : (Str → Option Value) → Heap → Prop} {YP : World → Heap → Prop} {d : DefRec} {K : Params → PySem.W.Frag} {CX : World → CXT} {sp : World → Sp} {x : Str}
    (hn : l.most = some n) (hn2 : n ≤ sizeLine) (hdf : d.params.defaults = []) (hr : Room k callerA)
    (hY : ∀ (w : World) (h : Heap), YP w h → (K w.params).In h)
    (F : ∀ (w : World) (mg : Str → Option Value) (fa : Addr) (h : Heap), (K w.params).In h → h.Ns mainGlobals mg → mg d.name = some (.ref fa) →
      ∃ fd : FuncData, (∀ (s : Shared) (u : Value), BindsTo s fd ⟨[u], []⟩ [(x, u)]) ∧
        ∀ base : Heap, (K w.params).In base → base.Ns mainGlobals mg → FnOk l.prog w (K w.params) mg base (CX w) k fa fd [x] (sp w))
    (hsp : ∀ (w : World) (H : Hp) (a : Addr) (ns : List Int), ns.length ≤ n → Only H → SqL (K w.params) H a (ns.map V.int) → sp w [.ref a] H (fun v _ => v = .bl true) fun _ _ _ => False)
    (hCX : ∀ (w : World) (H : Hp) (s : Shared) (e : Value) (s' : Shared), CX w [] H s (fun _ _ _ => False) e s' → False) :
    PySem.W.WalkO q loose XP YP l.row.toRowW d [] (fun f vs => PySem.call f vs) := by
  refine Att.attach_call hn hdf fun w s₀ s₁ mg mb fa o pm cd doc a vs ns G Y ho hd hcd hmg hobj hints hlen hg => ?_
  have KX := hY w _ Y
  obtain ⟨fd, hb, hF⟩ := F w mg fa _ KX G.T.g hmg
  exact law_call KX G.T.g G.T.b G.T.builtins G.T.nolimit hg hobj hints (Nat.le_trans hlen hn2) hr hF hb (fun H hO hS => hsp w H a ns hlen hO hS) fun H e s' => hCX w H s₁ e s'
end L2

/- THE LAST THEOREM (shape; LID, My.* are yours):
   My.Adr: a structure of the addresses that your layer names (classes, functions); My.Txt K t: a structure (Prop) of the equations over K;
   My.txt_mk : {K} {implicit addresses ..} (e1 : nsIn K mainGlobals "law" = some (some (.ref f))) (e2 : K.lookup f = some ⟨oc, od, .func (fnOf "law" "law" params body scope dV kV doc pm an cdv ct), sl⟩) (e3 : codeIn K cdv "law" = true) .. : ∃ t, My.Txt K t

set_option maxRecDepth 100000 in
set_option maxHeartbeats 0 in
theorem PySem.Challenge.cw_LID_holds : PySem.Challenge.rw_LID.Holds := by
  w_on; o_law; k_head; (case hw => w_witness2)
  k_fill
  refine L2.walk_of (l := PySem.Challenge.rw_LID) (n := 63) (k := 40) (x := "script") (CX := fun w => ..) (sp := fun _ => My.sp_law) rfl (by decide) rfl ⟨rfl, by decide, by decide⟩ (fun w h Y => PySem.W.kIn_of Y) ?F ?S ?C
  case F =>
    intro w mg fa h KX G hmg
    have T : ∃ t, My.Txt (L2.KOf KX) t := by
      dsimp only [L2.KOf]                          -- K must stand as «<heap const> w.params» for k_is
      refine' My.txt_mk ?e1 ?e2 ?e3 ..
      (case e1 => PySem.W.k_is)                    -- in the order: a name -> its address -> its object -> its parts
      (case e2 => PySem.W.k_is)
      ..
    obtain ⟨t, T⟩ := T
    have e0 := hmg.symm.trans (PySem.W.mg_of KX G T.law)
    cases e0                                       -- fa is the law's own address
    exact ⟨_, fun s u => .of_eq rfl, fun base kb nb => My.law_fn T kb nb⟩     -- if «.of_eq rfl» comes too early: refine' ⟨_, ?b, fun base kb nb => My.law_fn T kb nb⟩; exact fun s u => .of_eq rfl
  case S => exact fun w H a ns hl hO hS => ..
  case C => exact ..
(the tactic k_is has no namespace: write k_is) -/

/-! SHORT WORDS over the layer: a def of the text, its body, what a loop and a test want. -/
namespace L2
open PySem PySem.Spec PyProof.Rows

/-! ### the text by places -/
def defArgs (s : Stmt) : Arguments := match s with
  | .FunctionDef _ a _ _ _ _ _ _ _ _ => a
  | _ => { posonlyargs := [], args := [], vararg := none, kwonlyargs := [], kw_defaults := [], kwarg := none, defaults := [] }
def defBody (s : Stmt) : List Stmt := match s with
  | .FunctionDef _ _ b _ _ _ _ _ _ _ => b
  | _ => []
def defScope (s : Stmt) : Scope := match s with
  | .FunctionDef _ _ _ _ _ _ sc _ _ _ => sc
  | _ => { kind := .function, names := [], isGenerator := false, isCoroutine := false }

/-! ### no exception leaves a def -/
abbrev CX0 : CXT := fun _ _ _ _ _ _ => False
abbrev E0 : XK := fun _ _ _ => False
theorem pass0 {X : Cx} : Passes CX0 X E0 := fun _ _ _ _ _ _ _ h => h.elim

/-! ### a def (or method) of the text as it stands behind the top -/
structure Fun (K : PySem.W.Frag) (x qual : Str) (st : Stmt) (f : Addr) (fd : FuncData) : Prop where
  ex : ∃ (oc : Value) (od : Option Addr) (kV doc pm : Value) (an : Option Addr) (cdv ct : Value) (osl : Array (Option Value)),
    fd = PySem.W.fnOf x qual (defArgs st) (defBody st) (defScope st) .none kV doc pm an cdv ct ∧ K.lookup f = some ⟨oc, od, .func fd, osl⟩ ∧ PySem.W.codeIn K cdv qual = true
  kp : PySem.W.keepIn K (.ref f) = true
section
variable {P : Program} {w : World} {K : PySem.W.Frag} {mg : Str → Option Value} {base : Heap}
/-- THE RULE for a def: its body as a term of rules, and the reading of that term -/
theorem Fun.ok {x qual : Str} {st : Stmt} {f : Addr} {fd : FuncData} {N ps : List Str} {k : Nat} {sp : Sp} (F : Fun K x qual st f fd) (S : FnScope N ps (defScope st)) (len : ∀ vs H Q E, sp vs H Q E → vs.length = ps.length)
    (hbody : ∀ (cdv : Value) (A : Around) (outer : List Env) (s : Shared) (H : Hp) (vs : List V) (Q : VK) (E : XK), Room k (A.deeper (envOfC qual (defScope st) s.heap.objs.size f cdv)) → sp vs H Q E →
      ∃ t, PSs (cxOf CX0 P w K mg base N qual (defScope st) f cdv A outer s H E).nox (defBody st) t ∧ t { nx := fun _ H' => Q .non H', rt := Q } (start N vs) H) : FnOk P w K mg base CX0 (k + 1) f fd ps sp := by
  obtain ⟨oc, od, kV, doc, pm, an, cdv, ct, osl, rfl, lk, hcd⟩ := F.ex
  refine fn_of lk hcd S len fun A outer s H vs Q E hr hsp => ?_
  obtain ⟨t, h, q⟩ := hbody cdv A outer s H vs Q E hr hsp
  exact ⟨t, h.nox, q⟩
/-- how its arguments bind (no defaults): h is «fun _ _ _ _ _ _ us hl => match us, hl with | [_, _], _ => rfl», one _ a parameter -/
theorem Fun.binds {x qual : Str} {st : Stmt} {f : Addr} {fd : FuncData} {ps : List Str} (F : Fun K x qual st f fd)
    (h : ∀ (kV doc pm : Value) (an : Option Addr) (cdv ct : Value) (us : List Value), us.length = ps.length → bindArgs (PySem.W.fnOf x qual (defArgs st) (defBody st) (defScope st) .none kV doc pm an cdv ct) ⟨us, []⟩ = pure (ps.zip us)) : Binds K fd ps [] := by
  obtain ⟨oc, od, kV, doc, pm, an, cdv, ct, osl, rfl, lk, hcd⟩ := F.ex
  exact .all (h kV doc pm an cdv ct)
theorem fun_mk {x qual : Str} {st : Stmt} {f : Addr} {oc : Value} {od an : Option Addr} {osl : Array (Option Value)} {kV doc pm cdv ct : Value} (l : K.lookup f = some ⟨oc, od, .func (PySem.W.fnOf x qual (defArgs st) (defBody st) (defScope st) .none kV doc pm an cdv ct), osl⟩)
    (c : PySem.W.codeIn K cdv qual = true) (k : PySem.W.keepIn K (.ref f) = true) : Fun K x qual st f (PySem.W.fnOf x qual (defArgs st) (defBody st) (defScope st) .none kV doc pm an cdv ct) := ⟨⟨oc, od, kV, doc, pm, an, cdv, ct, osl, rfl, l, c⟩, k⟩
end

/-! ### expressions in short: the name that stands in the i-th slot -/
section
variable {X : Cx}
theorem pv (i : Nat) {x : Str} {pos : Pos} (hN : X.N[i]? = some x := by rfl) (hv : Vis X.env.scope x := by first | exact Or.inl rfl | exact Or.inr (Or.inl rfl) | exact Or.inr (Or.inr rfl)) (hd : (x == ("__debug__" : Str)) = false := by decide)
    (hcd : (x == ("__classdict__" : Str)) = false := by decide) : PE X (.Name x pos) (tVar i) := pe_var hN hv hd hcd
end

/-! ### tests -/
theorem iteF {A B : Prop} (h : B) : if false = true then A else B := by
  rw [if_neg Bool.false_ne_true]
  exact h
theorem iteT {A B : Prop} (h : A) : if true = true then A else B := by
  rw [if_pos rfl]
  exact h

/-! ### heaps -/
/-- all that was tracked is as it was -/
def Same (H H' : Hp) : Prop := ∀ b o, H b = some o → H' b = some o
theorem Same.refl (H : Hp) : Same H H := fun _ _ h => h
theorem Same.trans {H H1 H2 : Hp} (a : Same H H1) (b : Same H1 H2) : Same H H2 := fun c o h => b c o (a c o h)
theorem Same.free {H H' : Hp} (e : Same H H') {l : Addr} (h : H' l = Option.none) : H l = Option.none := by
  cases q : H l with
  | none => rfl
  | some o =>
    rw [e l o q] at h
    cases h
theorem Same.seq {K : PySem.W.Frag} {H H' : Hp} {a : Addr} {xs : List V} (e : Same H H') (h : SqL K H a xs) : SqL K H' a xs := by
  rcases h with (h | ⟨o, h⟩) | h
  · exact .inl (.inl (e _ _ h))
  · exact .inl (.inr ⟨o, e _ _ h⟩)
  · exact .inr h

end L2

section
set_option maxHeartbeats 4000000
/-! EXCEPTIONS over the hand layer: own classes without __init__, raised by a def, passing defs, caught in a caller by a class's name. -/
namespace L2
open PySem PySem.Spec PyProof.Rows



section
variable {X : Cx} {pins : List (Addr × Obj)} {σ : St} {H H' : Hp} {s : Shared} {B h2 : Heap}
end

/-! ### a def whose exceptions leave it -/
section
variable {P : Program} {w : World} {K : PySem.W.Frag} {mg : Str → Option Value} {base : Heap} {N : List Str} {qual : Str} {scope : Scope} {f : Addr} {cd : Value} {A : Around} {outer : List Env} {s : Shared} {H : Hp} {E : XK}
end

/-! ### raise C(e) -/
section
variable {X : Cx} {E : XK} {x : Str} {C : Addr} {np cpos pos : Pos} {e : Expr} {es : List Expr} {t : TA}
end

/-! ### a caught exception -/
/-- its object: ea, of the own class C -/
def ExcO (ea C : Addr) : HO := .ext fun h => ∃ ox, h.get? ea = some ox ∧ ox.cls = .ref C
/-- what the walk asks of an own exception class -/
structure XcI (K : PySem.W.Frag) (C : Addr) : Prop where
  cl : (PySem.W.clsIn K C).isSome = true
  ga : PySem.W.findIn K (.ref C) "__getattribute__" = some (some (.builtin "BaseException.__getattribute__"))
  gt : PySem.W.findIn K (.ref C) "__getattr__" = some none
  ca : PySem.W.findIn K (.ref C) "__class__" = some (some (.builtin "object.__class__"))
  sp : PySem.W.specialIn K (.builtin "object.__class__") "__get__" = some (some (.builtin "getset_descriptor.__get__"))
  tk : PySem.W.takesIn K (.builtin "object.__class__") = some true
  mo : PySem.W.mroIn K C (.type "object") = some true
  mb : PySem.W.mroIn K C (.type "BaseException") = some true
section
open PySem.W Builtin Builtin.ObjectAttr Builtin.Getset_descriptor
variable {prog : Program} {w : World} {A : Around} {E : Value → Shared → Prop} {s : Shared} {K : PySem.W.Frag} {x C : Addr}
theorem xc_get {tp : Value} {R : Result → Shared → Prop} (X : K.In s.heap) (L0 : Looks (model prog w) s.heap (typeOf (.ref x)) (.ref C)) (F : XcI K C) (h : R (.ok (.ret (.ref C))) s) :
    codeAny (model prog w) A (.call (.builtin "getset_descriptor.__get__") ⟨[.builtin "object.__class__", .ref x, tp], []⟩) R s := by
  obtain ⟨hh, g, dr, t, os⟩ := s
  have L1 := looks_mroIn (M := model prog w) X F.mo
  refine codeAny_call_builtin KF.slot_gs.plain KF.entry_gs ?_
  refine KF.slot_gs.check _ _ _ _ _ _ _ _ KF.type_class (KF.args_gs _ _ _) ?_
  unfold Builtin.«getset_descriptor.__get__» descrGet
  rw [dga_obj]
  refine wpAny_bind (wpAny_pure ?_)
  unfold descrGetter descrCheckInstance descrNameAndClass isInstance
  simp only [KF.owner_class]
  repeat lk
  refine ⟨Code.quiet_builtin _ (by decide +kernel), ?_⟩
  refine codeAny_builtin KF.entry_class ?_
  unfold Builtin.«object.__class__» shownTypeOf
  repeat lk
  exact h
theorem xc_find (X : K.In s.heap) (F : XcI K C) : Looks (model prog w) s.heap (find (.ref x) (.ref C) "__class__") (.bind (.builtin "getset_descriptor.__get__") (.builtin "object.__class__")) := by
  have L1 := looks_findIn (M := model prog w) X F.ca
  have L2 : Looks (model prog w) s.heap (getOf (some (.builtin "object.__class__"))) (some (.builtin "getset_descriptor.__get__")) := looks_specialIn X F.sp
  have L3 := looks_takesIn (M := model prog w) X F.tk
  unfold find
  refine L1.andThen (L2.andThen ?_)
  refine Looks.andThen (a := some (.builtin "getset_descriptor.__get__", .builtin "object.__class__")) ?_ (Looks.tag .now)
  unfold dataDescriptor?
  exact L3.andThen .now
theorem slot_one {y z : Value} : slotArgs "__getattribute__" 1 ⟨[y, z], []⟩ = pure (y, [z]) := by
  simp [slotArgs]
theorem ga_two {y z g a tp : Value} {n : Str} {Q : Fin → Shared → Prop} (hz : attrName z = pure n) (e1 : Looks (model prog w) s.heap (typeOf y) tp) (e2 : Looks (model prog w) s.heap (find y tp n) (.bind g a)) (hb : wpAny (model prog w) A (bindTo g a y tp) Q E s) :
    wpAny (model prog w) A (Builtin.«object.__getattribute__» ⟨[y, z], []⟩) Q E s := by
  obtain ⟨hh, g', d, t, os⟩ := s
  unfold Builtin.«object.__getattribute__»
  rw [slot_one]
  refine wpAny_bind (wpAny_pure ?_)
  dsimp only
  rw [hz]
  refine wpAny_bind (wpAny_pure (wpAny_bind (e1.at (wpAny_bind (e2.at ?_)))))
  exact hb
theorem bind_ref {g a tp : Value} {Q : Fin → Shared → Prop} (h : wpAny (model prog w) A (call g [a, .ref x, tp]) (fun v s' => Q (.done (.ret v)) s') E s) : wpAny (model prog w) A (bindTo g a (.ref x) tp) Q E s := by
  show wpAny _ _ (holding [a] (call g [a, .ref x, tp]) >>= ret) _ _ _
  exact wpAny_bind (wpAny_holding (wpAny_mono h (fun v s' z => wpAny_pure z) fun _ _ z => z))
theorem ga_kind : builtinKind "BaseException.__getattribute__" = some .slot := by decide +kernel
theorem ga_split : splitId "BaseException.__getattribute__" = some ("BaseException", "__getattribute__") := by decide +kernel
theorem chk_ga {z : Value} {Q : Unit → Shared → Prop} (L4 : Looks (model prog w) s.heap (isInstance (.ref x) (.type "BaseException")) true) (q : Q () s) :
    wpAny (model prog w) A (checkBuiltinCall "BaseException.__getattribute__" ⟨[.ref x, z], []⟩) Q E s := by
  have ha := PySem.F.args_bexc_ga (.ref x) z
  have hk := ga_kind
  have hs := ga_split
  generalize "BaseException.__getattribute__" = i at ha hk hs ⊢
  exact check_slot hk hs L4 ha q
theorem xc_ga {n : Str} {tk : Tok} {R : Result → Shared → Prop} (X : K.In s.heap) (L0 : Looks (model prog w) s.heap (typeOf (.ref x)) (.ref C)) (F : XcI K C) (en : n = "__class__") (h : R (.ok (.ret (.ref C))) s) :
    codeAny (model prog w) A (.call (.builtin "BaseException.__getattribute__") ⟨[.ref x, .str n tk], []⟩) R s := by
  refine codeAny_call_builtin PySem.F.attr_ValueError.ga.plain PySem.F.entry_bexc_ga ?_
  refine chk_ga (L0.andThen (looks_mroIn X F.mb)) ?_
  refine ga_two (n := n) rfl L0 (en ▸ xc_find X F) ?_
  refine bind_ref (wpAny_call (xc_get X L0 F ?_))
  exact h
theorem xc_own {n : Str} {tk : Tok} {Q : Value → Shared → Prop} (X : K.In s.heap) (L0 : Looks (model prog w) s.heap (typeOf (.ref x)) (.ref C)) (F : XcI K C) (en : n = "__class__") (h : Q (.ref C) s) :
    wpAny (model prog w) A (getAttrBy (.ref x) (.str n tk) false) Q E s := by
  obtain ⟨hh, g, d, t, os⟩ := s
  have L1 := looks_findIn (M := model prog w) X F.ga
  have L2 := looks_findIn (M := model prog w) X F.gt
  unfold getAttrBy
  refine wpAny_holding ?_
  refine wpAny_bind (L0.at (wpAny_bind (L1.at ?_)))
  have e : (Value.builtin "BaseException.__getattribute__" == Value.builtin "object.__getattribute__") = false := by decide +kernel
  dsimp only
  rw [e, Bool.and_false, if_neg Bool.false_ne_true]
  unfold getAttrByItsOwn
  refine wpAny_bind (m := hookBefore _) (L2.at ?_)
  refine wpAny_bind (wpAny_attempt (wpAny_holding ?_))
  unfold callGetattribute
  rw [Bool.false_and, if_neg Bool.false_ne_true]
  unfold boundAndCalled
  rw [PySem.F.attr_ValueError.ga.bind (.ref x)]
  refine wpAny_bind (wpAny_pure ?_)
  refine wpAny_call (xc_ga X L0 F en ?_)
  exact wpAny_pure h
theorem xc_class {Q : Option Value → Shared → Prop} (X : K.In s.heap) (L0 : Looks (model prog w) s.heap (typeOf (.ref x)) (.ref C)) (F : XcI K C) (h : Q (some (.ref C)) { s with toks := s.toks + 1 }) :
    wpAny (model prog w) A (getAttr? (.ref x) "__class__") Q E s := by
  unfold getAttr? getAttrBy?
  refine wpAny_bind (wpAny_mkText (wpAny_bind (wpAny_attempt (xc_own (s := { s with toks := s.toks + 1 }) X L0 F rfl ?_))))
  exact wpAny_pure h
end
/-- isinstance's words about a caught exception -/
theorem kitx_exc {K : PySem.W.Frag} {ea C : Addr} (F : XcI K C) : PySem.W.KitX K (.ref ea) (.ref C) (fun h => ∃ ox, h.get? ea = some ox ∧ ox.cls = .ref C) where
  ty := fun M h _ ⟨ox, h1, h2⟩ => h2 ▸ (PySem.W.Looks.ld h1).andThen .now
  it := fun M h X _ => by
    have c := F.cl
    unfold PySem.W.clsIn at c
    split at c
    · rename_i c' d' cd' sl' ho
      intro A' Q' E' s' k q
      unfold isType loadHead
      exact wpAny_bind (wpAny_loadPart (k _ _ (X _ _ ho)) (wpAny_pure q))
    · cases c
  ne := fun h tp dd its n sl X htp => by
    refine Bool.eq_false_iff.mpr fun q => ?_
    have e : C = tp := Value.ref.inj (beq_iff_eq.mp q)
    subst e
    have c := F.cl
    unfold PySem.W.clsIn at c
    split at c
    · rename_i c' d' cd' sl' ho
      have z := (X _ _ ho).symm.trans htp
      cases z
    · cases c
  ca := fun {prog w A E Q s} X p k => xc_class X (by obtain ⟨ox, h1, h2⟩ := p; exact h2 ▸ (PySem.W.Looks.ld h1).andThen .now) F k

/-! ### isinstance -/
/-- the class of a value; of a caught exception its own -/
inductive Ty (K : PySem.W.Frag) (H : Hp) : V → Value → Prop where
  | of {x : V} {t : Value} (h : TyOf K H x t) : Ty K H x t
  | exc {ea C : Addr} (e : H ea = some (ExcO ea C)) (F : XcI K C) : Ty K H (.ref ea) (.ref C)
/-- a class as a value -/
inductive ClsV : V → Value → Prop where
  | ty (T : String) : ClsV (.ty T) (.type T)
  | own (C : Addr) : ClsV (.ref C) (.ref C)
theorem ClsV.rel {x : V} {c u : Value} (h : ClsV x c) (r : RelV x u) : u = c := by
  cases h <;> exact r
section
variable {X : Cx}
def rIsi (K : PySem.W.Frag) : List V → Hp → VK → Prop := fun xs H Q => ∃ x y t c b, xs = [x, y] ∧ Ty K H x t ∧ ClsV y c ∧ PySem.W.kitOne K t c = some b ∧ Q (.bl b) H
theorem call_isi : CallR X (.builtin "isinstance") (rIsi X.K) := by
  intro pins s σ H xs us Q I r h
  obtain ⟨x, y, t, c, b, rfl, ty, cl, e, q⟩ := h
  obtain ⟨u, v, rfl, ru, rv⟩ := vals2 r
  have ev := cl.rel rv
  subst ev
  cases ty with
  | of ty => exact isinst_ok I ru ty e fun tk => ⟨.bl b, H, I.tok tk, rfl, q⟩
  | @exc ea C eh F =>
    cases (show u = Value.ref ea from ru)
    obtain ⟨⟨ox, h1, h2⟩, _⟩ := I.hok ea _ eh
    exact PySem.W.kia_one (kitx_exc F) I.kIn ⟨ox, h1, h2⟩ e (fun z => nomatch z) fun tk => ⟨.bl b, H, I.tok tk, rfl, q⟩
end

/-! ### try -/
section
variable {X : Cx} {pins : List (Addr × Obj)} {σ : St} {H H' : Hp} {s : Shared}
end
section
variable {X : Cx} {E : XK} {x n : Str} {i : Nat} {Cx0 : Addr} {np hpos pos : Pos} {body : List Stmt} {b₀ : Stmt} {suite : List Stmt} {tb ts : TS}
end
end L2

end

section
set_option maxHeartbeats 4000000
/-! MORE RULES over the hand layer: products and quotients of great numbers, script + [..], {}, what built-in names stand for, isinstance against int and bool. -/
namespace L2
open PySem PySem.Spec PyProof.Rows
theorem bt_int : bootBuiltins "int" = some (.type "int") := by decide +kernel
theorem bt_bool : bootBuiltins "bool" = some (.type "bool") := by decide +kernel
theorem bt_tuple : bootBuiltins "tuple" = some (.type "tuple") := by decide +kernel
theorem bt_list : bootBuiltins "list" = some (.type "list") := by decide +kernel
theorem bt_isinstance : bootBuiltins "isinstance" = some (.builtin "isinstance") := by decide +kernel
theorem bt_len : bootBuiltins "len" = some (.builtin "len") := by decide +kernel
theorem bt_abs : bootBuiltins "abs" = some (.builtin "abs") := by decide +kernel
theorem bt_min : bootBuiltins "min" = some (.builtin "min") := by decide +kernel

theorem iteN {b : Bool} {A B : Prop} (h : b = false) (q : B) : if b = true then A else B := by
  subst h
  exact iteF q
theorem iteY {b : Bool} {A B : Prop} (h : b = true) (q : A) : if b = true then A else B := by
  subst h
  exact iteT q
section
variable {X : Cx}
/-- an argument that is no star -/
def notStar : Expr → Prop
  | .Starred .. => False
  | _ => True
theorem star_of {e : Expr} {es : List Expr} {env : Env} (h : notStar e) : starEach (e :: es) env = (false, eval e env) :: starEach es env := by
  cases e <;> first | rfl | exact h.elim
theorem pk {e : Expr} {es : List Expr} {te : TE} {t : TA} (ha : PE X e te) (hr : PA X es t) (h : notStar e := by exact True.intro) : PA X (e :: es) (tCons te t) := pa_cons ha hr (star_of h)
/-- a built-in class, an own class, as a value -/
theorem pe_bt {x : Str} {T : String} {pos : Pos} (hg : Gl X x) (hm : X.mg x = none) (hv : bootBuiltins x = some (.type T)) (hn : x ≠ "__name__" := by decide) (hd : (x == ("__debug__" : Str)) = false := by decide) : PE X (.Name x pos) (tC (.ty T)) := pe_bltn hg hm hv rfl hn hd
theorem pe_gr {x : Str} {C : Addr} {pos : Pos} (hg : Gl X x) (hm : X.mg x = some (.ref C)) (hd : (x == ("__debug__" : Str)) = false := by decide) : PE X (.Name x pos) (tC (.ref C)) := pe_glob hg hm rfl hd
/-- ps_set, its facts asked last -/
theorem ps_st {pos : Pos} {i : Nat} {x : Str} {e : Expr} {te : TE} {pos' : Pos} (he : PE X e te) (hN : X.N.Nodup := by assumption) (hi : X.N[i]? = some x := by rfl) (hx : Loc X.env.scope x := by first | exact Or.inl rfl | exact Or.inr rfl) (hs : swapsWith e (some (.Name x pos')) pos.line X.env = pure false := by rfl)
    (hf : X.fn x = true ∨ X.env.scope.names.lookup x = some .local := by first | exact .inl rfl | exact .inr rfl | assumption) : PS X (.Assign [.Name x pos'] e pos) (tAsg te (gName i)) := ps_set hN hi hx he hs hf
theorem pg_nm {pos : Pos} (i : Nat) {x : Str} (hN : X.N.Nodup := by assumption) (hi : X.N[i]? = some x := by rfl) (hx : Loc X.env.scope x := by first | exact Or.inl rfl | exact Or.inr rfl) (hf : X.fn x = true ∨ X.env.scope.names.lookup x = some .local := by first | exact .inl rfl | exact .inr rfl | assumption) : PG X (.Name x pos) (gName i) := pg_name hN hi hx hf
theorem ps_pr {pos : Pos} {i j : Nat} {x y : Str} {a b : Expr} {ta : TA} {px py pt : Pos} {kt k2 pt2} (ha : PA X [a, b] ta) (hc : X.calm = true := by rfl) (hN : X.N.Nodup := by assumption) (hi : X.N[i]? = some x := by rfl) (hj : X.N[j]? = some y := by rfl) (hij : i ≠ j := by decide)
    (hx : X.env.scope.names.lookup x = some .local := by rfl) (hy : X.env.scope.names.lookup y = some .local := by rfl)
    (hw : swappedStores [.Tuple [.Name x px, .Name y py] kt pt] (.Tuple [a, b] k2 pt2) X.env = pure (some [x, y]) := by rfl)
    (hs : swapsWithSole [.Tuple [.Name x px, .Name y py] kt pt] (.Tuple [a, b] k2 pt2) pos.line X.env = pure false := by rfl) :
    PS X (.Assign [.Tuple [.Name x px, .Name y py] kt pt] (.Tuple [a, b] k2 pt2) pos) (tPar i j ta) := ps_par hc hN hi hj hij hx hy ha hw hs
theorem call_isiK {K : PySem.W.Frag} (h : X.K = K) : CallR X (.builtin "isinstance") (rIsi K) := h ▸ call_isi
/-- a number that is not too great -/
abbrev Sm (i : Int) : Prop := i.natAbs < 2 ^ 4000
def CMulX (i j : Int) : Prop := CMul i j ∨ (Sm i ∧ Sm j)
theorem op_mulX : OpR X (binaryOp .Mult) (rI CMulX fun i j => .int (i * j)) := opI fun i j _ _ _ _ _ hc q => by
  refine mul_int q ?_
  rcases hc with h | ⟨h1, h2⟩
  · exact h.ok
  · exact IntMulOk.of_le (intBits_le_iff.mpr h1) (intBits_le_iff.mpr h2) (by decide)
def CDivB (i j : Int) : Prop := j ≠ 0 ∧ Sm j
theorem op_fdivB : OpR X (binaryOp .FloorDiv) (rI CDivB fun i j => .int (i.fdiv j)) := opI fun i j _ _ _ _ _ hc q => by
  refine floordiv_int hc.1 q (Or.inl (PyProof.noPylong_of_log2 ?_))
  have h : j.natAbs ≠ 0 := by have := hc.1; omega
  have := (Nat.log2_lt h).mpr hc.2
  omega
/-- xs + ys, both only read -/
def rCatS (K : PySem.W.Frag) : R2 := fun x y H Q => ∃ l b xs zs, x = .ref l ∧ y = .ref b ∧ SqL K H l xs ∧ SqL K H b zs ∧ xs.length + zs.length ≤ sizeLine ∧ ∀ p, H p = none → Q (.ref p) (upd H p (.lst (xs ++ zs)))
theorem op_catS : OpR X (binaryOp .Add) (rCatS X.K) := by
  intro pins s σ H x y v u Q I rx ry h
  obtain ⟨l, b, xs, zs, rfl, rfl, hl, hb, hz, q⟩ := h
  cases rx
  cases ry
  obtain ⟨its, r, ⟨⟨k1, k2, k3, k4⟩, n, e, c1, c2, c3⟩, z⟩ := I.list hl
  obtain ⟨its2, r2, ⟨⟨j1, j2, j3, j4⟩, n2, e2, d1, d2, d3⟩, z2⟩ := I.list hb
  have h1 := r.length
  have h2 := r2.length
  dsimp only at c1 c3 d1 d3
  subst c1 c3 d1 d3
  have lw := list_addW l b its.toArray its2.toArray n n2 k2 j2 k4 j4 (by simp only [List.size_toArray]; omega)
  refine concat_meets ⟨_, e, rfl⟩ ⟨_, e2, rfl⟩ noFill_list_add seq_list_add
    PySem.F.slot_list_add PySem.F.entry_list_add (PySem.F.args_list_add_2 _ _) lw ⟨e, e2, ?_⟩
  have ea : its.toArray ++ its2.toArray = (its ++ its2).toArray := by simp
  rw [ea]
  exact ⟨.ref _, _, I.lnew (t' := s.toks) (r.append r2) (by rw [List.length_append]; omega), rfl, q _ I.fresh⟩
end

/-! ### isinstance against built-in classes -/
def kitT (T C : String) : Option Bool := if (Value.type T == Value.type C) = true then some true else if PySem.W.kitMeta C = true then (fastBuiltinMro T).map (·.contains (.type C)) else none
theorem kit_t {K : PySem.W.Frag} {T C : String} {b : Bool} (h : kitT T C = some b) : PySem.W.kitOne K (.type T) (.type C) = some b := h
/-- a whole number (no truth) -/
def isInt : V → Bool
  | .int _ => true
  | _ => false
theorem ty_whole {K : PySem.W.Frag} {H : Hp} {x : V} {T : String} (h : TyOf K H x (.type T)) : ∃ b1 b2, PySem.W.kitOne K (.type T) (.type "int") = some b1 ∧ PySem.W.kitOne K (.type T) (.type "bool") = some b2 ∧ isInt x = (b1 && !b2) := by
  cases h with
  | non => exact ⟨false, false, kit_t (by decide +kernel), kit_t (by decide +kernel), rfl⟩
  | bl _ => exact ⟨true, true, kit_t (by decide +kernel), kit_t (by decide +kernel), rfl⟩
  | int _ => exact ⟨true, false, kit_t (by decide +kernel), kit_t (by decide +kernel), rfl⟩
  | str _ => exact ⟨false, false, kit_t (by decide +kernel), kit_t (by decide +kernel), rfl⟩
  | flt _ => exact ⟨false, false, kit_t (by decide +kernel), kit_t (by decide +kernel), rfl⟩
  | lst _ => exact ⟨false, false, kit_t (by decide +kernel), kit_t (by decide +kernel), rfl⟩
  | frz _ => exact ⟨false, false, kit_t (by decide +kernel), kit_t (by decide +kernel), rfl⟩
  | tup _ => exact ⟨false, false, kit_t (by decide +kernel), kit_t (by decide +kernel), rfl⟩
  | dK _ => exact ⟨false, false, kit_t (by decide +kernel), kit_t (by decide +kernel), rfl⟩
  | dT _ => exact ⟨false, false, kit_t (by decide +kernel), kit_t (by decide +kernel), rfl⟩
theorem kit_tt {K : PySem.W.Frag} : PySem.W.kitOne K (.type "tuple") (.type "tuple") = some true := kit_t (by decide +kernel)
end L2

end

namespace Fr
/-- lowest terms of t by b: x by y -/
structure Low (t b x y : Int) : Prop where
  pos : 0 < y
  cop : Int.gcd x y = 1
  eq : x * b = t * y
theorem gcd_step {a b : Int} (ha : 0 ≤ a) (hb : 0 ≤ b) : Int.gcd b (a.fmod b) = Int.gcd a b := by
  obtain ⟨m, rfl⟩ := Int.eq_ofNat_of_zero_le ha
  obtain ⟨n, rfl⟩ := Int.eq_ofNat_of_zero_le hb
  rw [Int.fmod_eq_emod_of_nonneg _ hb]
  show Nat.gcd n (m % n) = Nat.gcd m n
  rw [Nat.gcd_comm m n, Nat.gcd_rec n m, Nat.gcd_comm]
theorem gcd_end {a : Int} (ha : 0 ≤ a) : (Int.gcd a 0 : Int) = a := by
  rw [Int.gcd_zero_right]; omega
theorem gcd_abs (a b : Int) : Int.gcd (if a < 0 then -a else a) (if b < 0 then -b else b) = Int.gcd a b := by
  split <;> split <;> simp
theorem gcd_pos {a b : Int} (h : b ≠ 0) : 0 < Int.gcd a b := Int.gcd_pos_of_ne_zero_right a h
/-- the quotients by the greatest common divisor -/
theorem quot {a b : Int} (h : b ≠ 0) : ∃ x y : Int, a = x * (Int.gcd a b : Int) ∧ b = y * (Int.gcd a b : Int) ∧ Int.gcd x y = 1 := by
  have gp := gcd_pos (a := a) h
  obtain ⟨x, hx⟩ := Int.gcd_dvd_left a b
  obtain ⟨y, hy⟩ := Int.gcd_dvd_right a b
  refine ⟨x, y, by rw [Int.mul_comm]; exact hx, by rw [Int.mul_comm]; exact hy, ?_⟩
  have e : Int.gcd a b = Int.gcd a b * Int.gcd x y := by
    have := Int.gcd_mul_left (Int.gcd a b : Int) x y
    rw [← hx, ← hy] at this
    simpa using this
  have : Int.gcd a b * 1 = Int.gcd a b * Int.gcd x y := by rw [Nat.mul_one]; exact e
  exact (Nat.eq_of_mul_eq_mul_left gp this).symm
theorem fdiv_mul {x d : Int} (h : d ≠ 0) : (x * d).fdiv d = x := by
  rw [Int.mul_comm]; exact Int.mul_fdiv_cancel_left x h
theorem low {t b : Int} (h : b ≠ 0) (d : Int) (hd : d = if b < 0 then -(Int.gcd t b : Int) else (Int.gcd t b : Int)) :
    d ≠ 0 ∧ Low t b (t.fdiv d) (b.fdiv d) := by
  obtain ⟨x, y, hx, hy, c⟩ := quot (a := t) h
  have gp : (0 : Int) < (Int.gcd t b : Int) := by have := gcd_pos (a := t) h; omega
  generalize (Int.gcd t b : Int) = g at *
  by_cases n : b < 0
  · rw [if_pos n] at hd
    subst hd
    have e1 : t.fdiv (-g) = -x := by
      have : t = (-x) * (-g) := by rw [Int.neg_mul_neg]; exact hx
      rw [this]; exact fdiv_mul (by omega)
    have e2 : b.fdiv (-g) = -y := by
      have : b = (-y) * (-g) := by rw [Int.neg_mul_neg]; exact hy
      rw [this]; exact fdiv_mul (by omega)
    refine ⟨by omega, ?_⟩
    rw [e1, e2]
    refine ⟨?_, by simpa using c, ?_⟩
    · have : y < 0 := by
        rcases Int.lt_trichotomy y 0 with q | q | q
        · exact q
        · rw [q] at hy; omega
        · have := Int.mul_pos q gp; omega
      omega
    · rw [hx, hy, Int.mul_assoc, Int.mul_neg, Int.mul_comm g y, Int.mul_neg, Int.neg_mul]
  · rw [if_neg n] at hd
    rw [hd]
    have e1 : t.fdiv g = x := by rw [hx]; exact fdiv_mul (by omega)
    have e2 : b.fdiv g = y := by rw [hy]; exact fdiv_mul (by omega)
    refine ⟨by omega, ?_⟩
    rw [e1, e2]
    refine ⟨?_, c, ?_⟩
    · rcases Int.lt_trichotomy y 0 with q | q | q
      · have := Int.mul_neg_of_neg_of_pos q gp; omega
      · rw [q] at hy; omega
      · exact q
    · rw [hx, hy, Int.mul_assoc, Int.mul_comm g y]
/-- bounds of the quotients -/
theorem fdiv_le {t d : Int} {M : Int} (hd : d ≠ 0) (h : -M ≤ t ∧ t ≤ M) (dv : d ∣ t) : -M ≤ t.fdiv d ∧ t.fdiv d ≤ M := by
  obtain ⟨k, rfl⟩ := dv
  rw [Int.mul_fdiv_cancel_left k hd]
  have h1 : k.natAbs ≤ (d * k).natAbs := by
    rw [Int.natAbs_mul]
    exact Nat.le_mul_of_pos_left _ (by omega)
  omega
end Fr

section
set_option maxHeartbeats 1000000
/-! STEPS of readings, one rule for each head; the calls of own defs by one fact; equality of data. -/
namespace L2
open PySem PySem.Spec PyProof.Rows
section
variable {σ : St} {H : Hp} {D : Ends} {t u : TS} {te ta tb tc : TE} {Q : VK} {c d : TT} {ts : TA}
theorem s_seq {n : St → Hp → Prop} {r : VK} {b k : St → Hp → Prop} (h : t (Ends.mk (u (Ends.mk n r b k)) r b k) σ H) : tSeq t u (Ends.mk n r b k) σ H := h
theorem s_asg {i : Nat} (h : te σ H fun x H1 => D.nx (σ.set i (some x)) H1) : tAsg te (gName i) D σ H := h
theorem s_drop (h : te σ H fun _ H1 => D.nx σ H1) : tDrop te D σ H := h
theorem s_ret (h : te σ H D.rt) : tRet te D σ H := h
theorem s_if (h : c σ H fun b H1 => if b = true then t D σ H1 else u D σ H1) : tIfS c t u D σ H := h
theorem s_next (h : D.nx σ H) : tNext D σ H := h
theorem s_par {i j : Nat} (h : ts σ H fun vs H1 => ∃ v w, vs = [v, w] ∧ D.nx ((σ.set i (some v)).set j (some w)) H1) : tPar i j ts D σ H := h
theorem s_gn {i : Nat} {v : V} {σ' : St} {P : St → Hp → Prop} (e : σ.set i (some v) = σ') (h : P σ' H) : gName i v σ H P := by
  subst e
  exact h
theorem s_var {i : Nat} {v : V} (h : σ[i]? = some (some v)) (q : Q v H) : tVar i σ H Q := ⟨v, h, q⟩
theorem s_c {v : V} (q : Q v H) : tC v σ H Q := q
theorem s_op {r : R2} (h : ta σ H fun x H1 => tb σ H1 fun y H2 => r x y H2 Q) : tOp r ta tb σ H Q := h
theorem s_un {r : V → Hp → VK → Prop} (h : ta σ H fun x H1 => r x H1 Q) : tUn r ta σ H Q := h
theorem s_cons {P : List V → Hp → Prop} (h : ta σ H fun x H1 => ts σ H1 fun xs H2 => P (x :: xs) H2) : tCons ta ts σ H P := h
theorem s_nil {P : List V → Hp → Prop} (h : P [] H) : tNil σ H P := h
/-- a new object is laid -/
def Al (o : HO) (n : Nat) (H : Hp) (Q : VK) : Prop := n ≤ sizeLine ∧ ∀ p, H p = none → Q (.ref p) (upd H p o)
theorem s_al {o : HO} {n : Nat} (hn : n ≤ sizeLine) (h : ∀ p H', Same H H' → H' p = some o → Q (.ref p) H') : Al o n H Q := ⟨hn, fun p hp => h p _ (fun b u e => by rw [upd_ne (ne_of_none e hp)]; exact e) upd_same⟩
theorem s_alN {o : HO} {n : Nat} (hn : n ≤ sizeLine) (h : ∀ p H', H p = none → Same H H' → H' p = some o → Q (.ref p) H') : Al o n H Q := ⟨hn, fun p hp => h p _ hp (fun b u e => by rw [upd_ne (ne_of_none e hp)]; exact e) upd_same⟩
theorem s_tup (h : ts σ H fun xs H1 => Al (.tup xs) xs.length H1 Q) : tTup ts σ H Q := h
theorem s_lst (h : ts σ H fun xs H1 => Al (.lst xs) xs.length H1 Q) : tLst ts σ H Q := h
theorem s_call {sp : Sp} {E : XK} (h : ts σ H fun vs H1 => sp vs H1 Q E) : tCall sp [] E ts σ H Q := by
  unfold tCall
  simpa only [List.append_nil] using h
theorem s_cb {r : List V → Hp → VK → Prop} (h : ts σ H fun vs H1 => r vs H1 Q) : tCB r ts σ H Q := h
theorem s_test {P : Bool → Hp → Prop} (h : te σ H fun x H' => ∃ k, x = .bl k ∧ P k H') : tTest te σ H P := h
theorem s_b {P : Bool → Hp → Prop} (h : te σ H fun x H' => ∃ k, x = .bl k ∧ P k H') : tB te σ H P := h
theorem s_and {P : Bool → Hp → Prop} (h : c σ H fun k H1 => if k = true then d σ H1 P else P false H1) : tAnd c d σ H P := h
theorem s_or {P : Bool → Hp → Prop} (h : c σ H fun k H1 => if k = true then P true H1 else d σ H1 P) : tOr c d σ H P := h
theorem s_not {P : Bool → Hp → Prop} (h : c σ H fun k H1 => P (!k) H1) : tNot c σ H P := h
theorem s_andV (h : ta σ H fun x H1 => ∃ c, x = .bl c ∧ if c = true then tb σ H1 Q else Q (.bl false) H1) : tAndV ta tb σ H Q := h
theorem s_notV (h : ta σ H fun x H1 => ∃ c, x = .bl c ∧ Q (.bl (!c)) H1) : tNotV ta σ H Q := h
theorem s_bl {P : Bool → Prop} {k : Bool} (h : P k) : ∃ k', V.bl k = .bl k' ∧ P k' := ⟨k, rfl, h⟩
theorem s_rI {C : Int → Int → Prop} {g : Int → Int → V} {i j : Int} (hc : C i j) (q : Q (g i j) H) : rI C g (.int i) (.int j) H Q := ⟨i, j, rfl, rfl, hc, q⟩
theorem s_rI0 {g : Int → Int → V} {i j : Int} (q : Q (g i j) H) : rI0 g (.int i) (.int j) H Q := ⟨i, j, rfl, rfl, q⟩
theorem s_rU {g : Int → V} {i : Int} (q : Q (g i) H) : rU g (.int i) H Q := ⟨i, rfl, q⟩
theorem s_eqI {i j : Int} (q : Q (.bl (decide (i = j))) H) : rEq (.int i) (.int j) H Q := ⟨rfl, by
  have e : decide (V.int i = V.int j) = decide (i = j) := by rw [Bool.eq_iff_iff]; simp
  rw [e]; exact q⟩
theorem s_neI {i j : Int} (q : Q (.bl (!decide (i = j))) H) : rNe (.int i) (.int j) H Q := ⟨rfl, by
  have e : decide (V.int i = V.int j) = decide (i = j) := by rw [Bool.eq_iff_iff]; simp
  rw [e]; exact q⟩
theorem s_ixT {K : PySem.W.Frag} {p : Addr} {xs : List V} {i : Int} {v : V} (h : SqT K H p xs) (e : atI xs i = some v) (q : Q v H) : rIxT K (.ref p) (.int i) H Q := ⟨p, xs, i, v, rfl, rfl, h, e, q⟩
theorem s_ixL {K : PySem.W.Frag} {p : Addr} {xs : List V} {i : Int} {v : V} (h : SqL K H p xs) (e : atI xs i = some v) (q : Q v H) : rIxL K (.ref p) (.int i) H Q := ⟨p, xs, i, v, rfl, rfl, h, e, q⟩
theorem s_nx {n : St → Hp → Prop} {r : VK} {b k : St → Hp → Prop} (h : n σ H) : (Ends.mk n r b k).nx σ H := h
theorem s_rt {n : St → Hp → Prop} {r : VK} {b k : St → Hp → Prop} {v : V} (h : r v H) : (Ends.mk n r b k).rt v H := h
theorem s_set {i : Nat} {v : Option V} {σ' : St} (e : σ.set i v = σ') (h : D.nx σ' H) : D.nx (σ.set i v) H := e ▸ h
theorem s_set2 {i j : Nat} {v w : Option V} {σ' : St} (e : (σ.set i v).set j w = σ') (h : D.nx σ' H) : D.nx ((σ.set i v).set j w) H := e ▸ h
end
theorem iteNt {A B : Prop} (h : B) : if (!true) = true then A else B := iteF h
theorem ln0 : ([] : List V).length ≤ sizeLine := by show 0 ≤ sizeLine; decide
theorem ln1 {a : V} : [a].length ≤ sizeLine := by show 1 ≤ sizeLine; decide
theorem ln2 {a b : V} : [a, b].length ≤ sizeLine := by show 2 ≤ sizeLine; decide
theorem ln3 {a b c : V} : [a, b, c].length ≤ sizeLine := by show 3 ≤ sizeLine; decide
theorem ln5 {a b c d e : V} : [a, b, c, d, e].length ≤ sizeLine := by show 5 ≤ sizeLine; decide
theorem Same.new {H : Hp} {p : Addr} {o : HO} (h : H p = none) : Same H (upd H p o) := fun b u e => by
  rw [upd_ne (ne_of_none e h)]
  exact e
theorem Same.tup {K : PySem.W.Frag} {H H' : Hp} {a : Addr} {xs : List V} (e : Same H H') (h : SqT K H a xs) : SqT K H' a xs := by
  rcases h with (h | ⟨o, h⟩) | h
  · exact .inl (.inl (e _ _ h))
  · exact .inl (.inr ⟨o, e _ _ h⟩)
  · exact .inr h
/-! ### own defs, called -/
/-- the def x is there, and keeps its promise -/
def Cal (P : Program) (w : World) (K : PySem.W.Frag) (mg : Str → Option Value) (base : Heap) (CX : CXT) (k : Nat) (x : Str) (sp : Sp) : Prop :=
  ∃ f fd ps, FnOk P w K mg base CX k f fd ps sp ∧ mg x = some (.ref f) ∧ PySem.W.keepIn K (.ref f) = true ∧ Binds K fd ps []
section
variable {X : Cx} {x : Str} {p pos : Pos} {e : Expr} {es : List Expr} {t : TA} {sp : Sp} {CX : CXT} {k : Nat} {E : XK}
theorem pe_cal (c : Cal X.prog X.w X.K X.mg X.base CX k x sp) (hr : Room k X.A) (hx : Passes CX X E) (ha : PA X (e :: es) t) (hg : Gl X x := by rfl) (hdb : (x == ("__debug__" : Str)) = false := by decide)
    (he : starEach (e :: es) X.env = (false, eval e X.env) :: starEach es X.env := by rfl) (hpl : (backTo pos (starEach es X.env)).any (·.1) = false := by rfl) : PE X (.Call (.Name x p) (e :: es) [] pos) (tCall sp [] E t) := by
  obtain ⟨f, fd, ps, G, hm, hk, hb⟩ := c
  exact pe_call G hr hg hm hk hb .nil hx ha hdb he hpl
end
end L2

end

section
set_option maxHeartbeats 1000000
namespace Fr
open PySem L2
/-- of at most n bits -/
abbrev Sz (n : Nat) (i : Int) : Prop := i.natAbs < 2 ^ n
theorem Sz.mono {n m : Nat} {i : Int} (h : Sz n i) (l : n ≤ m) : Sz m i := Nat.lt_of_lt_of_le h (Nat.pow_le_pow_right (by decide) l)
theorem Sz.sm {n : Nat} {i : Int} (h : Sz n i) (l : n ≤ 4000 := by decide) : Sm i := h.mono l
theorem Sz.mul {n m : Nat} {i j : Int} (h : Sz n i) (k : Sz m j) : Sz (n + m) (i * j) := by
  show (i * j).natAbs < 2 ^ (n + m)
  rw [Int.natAbs_mul, Nat.pow_add]
  exact Nat.mul_lt_mul'' h k
theorem Sz.add {n : Nat} {i j : Int} (h : Sz n i) (k : Sz n j) : Sz (n + 1) (i + j) := by
  have e : (2 : Nat) ^ (n + 1) = 2 ^ n * 2 := Nat.pow_succ ..
  show (i + j).natAbs < _
  have h' : i.natAbs < 2 ^ n := h
  have k' : j.natAbs < 2 ^ n := k
  omega
theorem Sz.le {n : Nat} {i j : Int} (h : Sz n i) (l : j.natAbs ≤ i.natAbs) : Sz n j := Nat.lt_of_le_of_lt l h
/-- both quotients by the divisor with b's sign -/
theorem low2 {t b d : Int} (h : b ≠ 0) (hd : d = if b < 0 then -(Int.gcd t b : Int) else (Int.gcd t b : Int)) :
    d ≠ 0 ∧ d.natAbs ≤ b.natAbs ∧ Low t b (t.fdiv d) (b.fdiv d) ∧ (t.fdiv d).natAbs ≤ t.natAbs ∧ (b.fdiv d).natAbs ≤ b.natAbs := by
  obtain ⟨d0, L⟩ := low h d hd
  have dt : d ∣ t := by
    rw [hd]
    split
    · exact Int.neg_dvd.mpr (Int.gcd_dvd_left t b)
    · exact Int.gcd_dvd_left t b
  have db : d ∣ b := by
    rw [hd]
    split
    · exact Int.neg_dvd.mpr (Int.gcd_dvd_right t b)
    · exact Int.gcd_dvd_right t b
  have t1 := fdiv_le (M := t.natAbs) d0 ⟨by omega, by omega⟩ dt
  have b1 := fdiv_le (M := b.natAbs) d0 ⟨by omega, by omega⟩ db
  exact ⟨d0, Nat.le_of_dvd (by omega) (Int.natAbs_dvd_natAbs.mpr db), L, by omega, by omega⟩
/-- two lowest terms of one number are one -/
theorem Low.bottom {t b x y : Int} (L : Low t b x y) (hb : 0 < b) : y ∣ b := by
  have h : y ∣ x * b := ⟨t, by rw [L.eq, Int.mul_comm]⟩
  have c : Int.gcd y x = 1 := by rw [Int.gcd_comm]; exact L.cop
  have h' : y.natAbs ∣ x.natAbs * b.natAbs := by rw [← Int.natAbs_mul]; exact Int.natAbs_dvd_natAbs.mpr h
  exact Int.natAbs_dvd_natAbs.mp (Nat.Coprime.dvd_of_dvd_mul_left (show Nat.Coprime y.natAbs x.natAbs from c) h')
theorem Low.small {t b x y : Int} (L : Low t b x y) (hb : 0 < b) : 0 < y ∧ y ≤ b ∧ x.natAbs ≤ t.natAbs := by
  have yp := L.pos
  have h := Int.le_of_dvd hb (L.bottom hb)
  refine ⟨yp, h, ?_⟩
  have e : x.natAbs * b.natAbs = t.natAbs * y.natAbs := by rw [← Int.natAbs_mul, L.eq, Int.natAbs_mul]
  have e2 : t.natAbs * y.natAbs ≤ t.natAbs * b.natAbs := Nat.mul_le_mul_left _ (by omega)
  exact Nat.le_of_mul_le_mul_right (by rw [e]; exact e2) (by omega)
/-- lowest terms of another pair that is crosswise alike -/
theorem Low.cross {t b t' b' x y : Int} (L : Low t b x y) (hb : b ≠ 0) (e : t * b' = t' * b) : Low t' b' x y := by
  refine ⟨L.pos, L.cop, ?_⟩
  have h : (x * b') * b = (t' * y) * b := by
    calc (x * b') * b = (x * b) * b' := by rw [Int.mul_assoc, Int.mul_comm b' b, ← Int.mul_assoc]
      _ = (t * y) * b' := by rw [L.eq]
      _ = (t * b') * y := by rw [Int.mul_assoc, Int.mul_comm y b', ← Int.mul_assoc]
      _ = (t' * b) * y := by rw [e]
      _ = (t' * y) * b := by rw [Int.mul_assoc, Int.mul_comm b y, ← Int.mul_assoc]
  exact Int.eq_of_mul_eq_mul_right hb h
end Fr

end

section
set_option maxHeartbeats 1000000
namespace L2
open PySem PySem.Spec PyProof.Rows
/-! ### data: what a value tells, whole -/
mutual
inductive Rp (K : PySem.W.Frag) (H : Hp) : V → PyData → Prop where
  | non : Rp K H .non .none
  | bl (b : Bool) : Rp K H (.bl b) (.bool b)
  | int (i : Int) : Rp K H (.int i) (.int i)
  | str (x : Str) : Rp K H (.str x) (.str x)
  | tup {a : Addr} {xs : List V} {ds : List PyData} : SqT K H a xs → Rps K H xs ds → Rp K H (.ref a) (.tuple ds)
  | lst {a : Addr} {xs : List V} {ds : List PyData} : SqL K H a xs → Rps K H xs ds → Rp K H (.ref a) (.list ds)
inductive Rps (K : PySem.W.Frag) (H : Hp) : List V → List PyData → Prop where
  | nil : Rps K H [] []
  | cons {x : V} {xs : List V} {d : PyData} {ds : List PyData} : Rp K H x d → Rps K H xs ds → Rps K H (x :: xs) (d :: ds)
end
section
variable {X : Cx} {pins : List (Addr × Obj)} {σ : St} {H : Hp} {s : Shared}
mutual
theorem Inv.reads (I : Inv X pins σ H s) : ∀ {d : PyData} {x : V} {u : Value}, Rp X.K H x d → RelV x u → ∃ as, Reads s.heap u d as
  | .none, _, _, .non, r => by cases r; exact ⟨_, .none⟩
  | .bool _, _, _, .bl _, r => by cases r; exact ⟨_, .bool _⟩
  | .int _, _, _, .int _, r => by obtain ⟨t, rfl⟩ := r; exact ⟨_, .int _ _⟩
  | .str _, _, _, .str _, r => by obtain ⟨t, rfl⟩ := r; exact ⟨_, .str _ _⟩
  | .tuple ds, _, _, .tup h hs, r => by
    cases r
    obtain ⟨its, rv, ⟨o, e, c, n, d⟩, _⟩ := I.tuple h
    obtain ⟨as, q⟩ := Inv.readsAll I hs rv
    exact ⟨_, .tuple e c d (by simpa using q)⟩
  | .list ds, _, _, .lst h hs, r => by
    cases r
    obtain ⟨its, rv, ⟨o, n, e, c, _, d⟩, _⟩ := I.list h
    obtain ⟨as, q⟩ := Inv.readsAll I hs rv
    exact ⟨_, .list e c d (by simpa using q)⟩
theorem Inv.readsAll (I : Inv X pins σ H s) : ∀ {ds : List PyData} {xs : List V} {us : List Value}, Rps X.K H xs ds → Vals xs us → ∃ as, ReadsAll s.heap us ds as
  | [], _, _, .nil, r => by cases r; exact ⟨_, .nil⟩
  | d :: ds, _, _, .cons h hs, r => by
    cases r with
    | cons r1 r2 =>
      obtain ⟨as, q⟩ := Inv.reads I h r1
      obtain ⟨bs, q2⟩ := Inv.readsAll I hs r2
      exact ⟨_, .cons q q2⟩
end
def rEqD (K : PySem.W.Frag) : R2 := fun x y H Q => ∃ d e, Rp K H x d ∧ Rp K H y e ∧ SeqAt.shaped d = true ∧ SeqAt.shaped e = true ∧ Q (.bl (PyData.eqv d e)) H
def rNeD (K : PySem.W.Frag) : R2 := fun x y H Q => ∃ d e, Rp K H x d ∧ Rp K H y e ∧ SeqAt.shaped d = true ∧ SeqAt.shaped e = true ∧ Q (.bl (!PyData.eqv d e)) H
theorem op_eqD (hu : X.A.units + 64 < cLine) : OpR X (compareOp .Eq) (rEqD X.K) := by
  intro pins s σ H x y v u Q I rx ry h
  obtain ⟨d, e, hd, he, sd, se, q⟩ := h
  obtain ⟨as, ra⟩ := I.reads hd rx
  obtain ⟨bs, rb⟩ := I.reads he ry
  exact SeqAt.compareEq_shaped ra rb sd se hu ⟨.bl _, H, I, rfl, q⟩
theorem op_neD (hu : X.A.units + 64 < cLine) : OpR X (compareOp .NotEq) (rNeD X.K) := by
  intro pins s σ H x y v u Q I rx ry h
  obtain ⟨d, e, hd, he, sd, se, q⟩ := h
  obtain ⟨as, ra⟩ := I.reads hd rx
  obtain ⟨bs, rb⟩ := I.reads he ry
  exact SeqAt.compareNe_shaped ra rb sd se hu ⟨.bl _, H, I, rfl, q⟩
end
/-- what changes no tuple, no frozen thing -/
def Tups (H H' : Hp) : Prop := (∀ b xs, H b = some (.tup xs) → H' b = some (.tup xs)) ∧ ∀ b o u, H b = some (.frz o u) → H' b = some (.frz o u)
theorem Same.tups {H H' : Hp} (s : Same H H') : Tups H H' := ⟨fun b xs e => s _ _ e, fun b o u e => s _ _ e⟩
theorem Tups.refl (H : Hp) : Tups H H := ⟨fun _ _ e => e, fun _ _ _ e => e⟩
theorem Tups.trans {H H1 H2 : Hp} (a : Tups H H1) (b : Tups H1 H2) : Tups H H2 := ⟨fun c xs e => b.1 c xs (a.1 c xs e), fun c o u e => b.2 c o u (a.2 c o u e)⟩
theorem Tups.lst {H : Hp} {l : Addr} {xs ys : List V} (h : H l = some (.lst xs)) : Tups H (upd H l (.lst ys)) := by
  refine ⟨fun b zs e => ?_, fun b o u e => ?_⟩
  · rw [upd_ne (ne_of e h (by intro z; cases z))]
    exact e
  · rw [upd_ne (ne_of e h (by intro z; cases z))]
    exact e
theorem Tups.sq {K : PySem.W.Frag} {H H' : Hp} {a : Addr} {xs : List V} (e : Tups H H') (h : SqT K H a xs) : SqT K H' a xs := by
  rcases h with (h | ⟨o, h⟩) | h
  · exact .inl (.inl (e.1 _ _ h))
  · exact .inl (.inr ⟨o, e.2 _ _ _ h⟩)
  · exact .inr h
/-- a fraction as a value: two ints in a tuple -/
def FrV (H : Hp) (v : V) (x y : Int) : Prop := ∃ p, v = .ref p ∧ H p = some (.tup [.int x, .int y])
theorem FrV.of {H : Hp} {p : Addr} {x y : Int} (h : H p = some (.tup [.int x, .int y])) : FrV H (.ref p) x y := ⟨p, rfl, h⟩
/-- the ten classes of refusals -/
structure Cs where
  (RoadError NoNumber NoNet NoWish NoWay TooMany NoShare NoStep NoSuch NoText : Addr)
end L2

end

section
set_option maxHeartbeats 1000000
namespace L2
open PySem

end L2

end

section
set_option maxHeartbeats 1000000
/-! LIST COMPREHENSIONS over the hand layer: one clause, at most one test; an element that raises nothing. -/
namespace L2
open PySem PySem.Spec PyProof.Rows
/-- the cells of the names that a block draws from around it -/
def closL (cells : List (Str × Addr)) : List (Str × NameKind) → List (Str × Addr) → List (Str × Addr)
  | [], cs => cs
  | (n, k) :: r, cs => closL cells r (if (k == .free) = true then (n, (cells.lookup n).getD 0) :: cs else cs)
theorem clos_eq {scope : Scope} {env : Env} (h : ∀ x ∈ scope.names, x.2 = .free → ∃ c, env.cells.lookup x.1 = some c) : closureFor scope env = pure (closL env.cells scope.names []) := by
  have key : ∀ (l : List (Str × NameKind)) (cs : List (Str × Addr)), (∀ x ∈ l, x.2 = .free → ∃ c, env.cells.lookup x.1 = some c) →
      forIn (m := Sem) l cs (fun (x : Str × NameKind) (r : List (Str × Addr)) => if (x.2 == .free) = true then (do let a ← cellOf env x.1; pure (.yield ((x.1, a) :: r))) else pure (.yield r)) = pure (closL env.cells l cs) := by
    intro l
    induction l with
    | nil => intro cs _; rfl
    | cons x r ih =>
      intro cs hx
      obtain ⟨n, k⟩ := x
      rw [List.forIn_cons]
      unfold closL
      by_cases hk : k = .free
      · subst hk
        obtain ⟨c, e⟩ := hx (n, .free) List.mem_cons_self rfl
        have ec : cellOf env n = pure c := by unfold cellOf; rw [e]
        simp only [beq_self_eq_true, if_true]
        rw [ec, pure_bind, pure_bind]
        rw [e]
        exact ih _ fun y hy => hx y (List.mem_cons_of_mem _ hy)
      · have hb : (k == NameKind.free) = false := by simpa using hk
        simp only [hb, Bool.false_eq_true, if_false]
        rw [pure_bind]
        exact ih _ fun y hy => hx y (List.mem_cons_of_mem _ hy)
  have e := key scope.names [] h
  unfold closureFor
  simp only [bind_pure]
  exact e
theorem closL_lookup {cells : List (Str × Addr)} {x : Str} {c : Addr} : ∀ {l : List (Str × NameKind)} {cs : List (Str × Addr)}, (closL cells l cs).lookup x = some c →
    cs.lookup x = some c ∨ ((x, NameKind.free) ∈ l ∧ (cells.lookup x).getD 0 = c)
  | [], cs, h => .inl h
  | (n, k) :: r, cs, h => by
    unfold closL at h
    rcases closL_lookup h with q | ⟨h1, h2⟩
    · clear h
      by_cases hk : (k == NameKind.free) = true
      · rw [if_pos hk, List.lookup_cons] at q
        cases hx : x == n with
        | true =>
          rw [hx] at q
          have e1 : x = n := by simpa using hx
          have e2 : k = .free := by simpa using hk
          subst e1 e2
          exact .inr ⟨List.mem_cons_self, Option.some.inj q⟩
        | false =>
          rw [hx] at q
          exact .inl q
      · rw [if_neg hk] at q
        exact .inl q
    · exact .inr ⟨List.mem_cons_of_mem _ h1, h2⟩
theorem closL_has {cells : List (Str × Addr)} {x : Str} : ∀ {l : List (Str × NameKind)} {cs : List (Str × Addr)}, ((x, NameKind.free) ∈ l ∨ ∃ c, cs.lookup x = some c) → ∃ c, (closL cells l cs).lookup x = some c
  | [], cs, h => by
    rcases h with h | h
    · cases h
    · exact h
  | (n, k) :: r, cs, h => by
    unfold closL
    refine closL_has ?_
    rcases h with h | ⟨c, h⟩
    · rcases List.mem_cons.mp h with h | h
      · cases h
        right
        simp only [beq_self_eq_true, if_true, List.lookup_cons]
        exact ⟨_, rfl⟩
      · exact .inl h
    · right
      split
      · rw [List.lookup_cons]
        cases x == n with
        | true => exact ⟨_, rfl⟩
        | false => exact ⟨c, h⟩
      · exact ⟨c, h⟩
section
variable {prog : Program} {w : World} {A : Around} {R : Result → Shared → Prop} {s : Shared}
/-- the block's loop, the step ahead of the store told apart -/
theorem comp_loop {elt target iter : Expr} {ifs : List Expr} {scope : Scope} {pos : Pos} {it acc : Value} {env : Env} (I : Nat → Shared → Prop) (n : Nat) (h : I n s)
    (turn : ∀ n s, I n s → wpAny (model prog w) A (pyNext it) (fun r s1 => match r with
      | none => R (.ok .next) s1
      | some v => wpAny (model prog w) A (letOwnedTupleGo target it v) (fun _ s2 => wpAny (model prog w) A (assign target env v) (fun _ s3 =>
          wpAny (model prog w) A (forIn ifs true fun c r => if r = true then do let ok ← isTrue c env (eval c env); pure (ForInStep.yield ok) else pure (ForInStep.yield r)) (fun ok s4 =>
            if ok = true then wpAny (model prog w) A (eval elt env) (fun x s5 => wpAny (model prog w) A (call (.builtin "list.append") [acc, x]) (fun _ s6 => ∃ m, m < n ∧ I m s6) (fun _ _ => False) s5) (fun _ _ => False) s4
            else ∃ m, m < n ∧ I m s4) (fun _ _ => False) s3) (fun _ _ => False) s2) (fun _ _ => False) s1) (fun _ _ => False) s) :
    codeAny (model prog w) A (.compLoop (.ListComp elt [⟨target, iter, ifs, 0⟩] scope pos) 0 it acc env) R s := by
  refine codeAny_loop rfl I (fun n s hI => ?_) n h
  show wpAny _ A ((compTurn (.ListComp elt [⟨target, iter, ifs, 0⟩] scope pos) 0 it acc env).onRaise (fun x => do noteFrame x env; theTreesLotGoes x)) _ _ s
  refine wpAny_noted ?_
  rw [compTurn_list]
  refine wpAny_bind (wpAny_standAt (wpAny_bind (wpAny_mono (turn n s hI) (fun r s1 h1 => ?_) fun _ _ z => z.elim)))
  cases r with
  | none => exact wpAny_pure h1
  | some v =>
    refine wpAny_bind (wpAny_mono h1 (fun _ s2 h2 => ?_) fun _ _ z => z.elim)
    refine wpAny_bind (wpAny_mono h2 (fun _ s3 h3 => ?_) fun _ _ z => z.elim)
    refine wpAny_bind (wpAny_mono h3 (fun ok s4 h4 => ?_) fun _ _ z => z.elim)
    cases ok with
    | false => exact wpAny_pure ⟨rfl, h4⟩
    | true => exact wpAny_bind (wpAny_bind (wpAny_mono h4 (fun x s5 h5 => wpAny_bind (wpAny_mono h5 (fun _ s6 h6 => wpAny_pure (wpAny_pure ⟨rfl, h6⟩)) fun _ _ z => z.elim)) fun _ _ z => z.elim))
end

/-- the block's context: its own names first, then those it draws from around it -/
def Cx.comp (X : Cx) (s : Shared) (H : Hp) (N' : List Str) (scope : Scope) (C : Addr) (fp : List Addr) : Cx where
  prog := X.prog
  w := X.w
  K := X.K
  mg := X.mg
  base := X.base
  A := X.A
  N := N'
  s₀ := s
  H₀ := H
  env := compEnvC scope (closL X.env.cells scope.names []) C X.env
  outer := X.stack
  stack := X.stack
  ex := fp
  fn := fun _ => false
  calm := X.calm
  pn := []
  xe := fun _ _ => False
/-- a block's scope within X's: own names local, all others drawn from X's cells; capt: those it draws -/
structure CompScope (X : Cx) (scope : Scope) (own capt : List Str) (ix : List Nat) : Prop where
  kind : scope.kind = .function
  nocell : ∀ y ∈ scope.names, y.2 ≠ .cell
  locs : ∀ y ∈ scope.names, y.2 = .local → scope.names.lookup y.1 = some .local
  frees : ∀ y ∈ scope.names, y.2 = .free → X.env.scope.names.lookup y.1 = some .cell
  cap : ∀ (j : Nat) (x : Str), capt[j]? = some x → scope.names.lookup x = some .free ∧ ∃ i, ix[j]? = some i ∧ X.N[i]? = some x
  nd : (own ++ capt).Nodup
  len : ix.length = capt.length
inductive Caps (X : Cx) (scope : Scope) : List Str → List Nat → Prop where
  | nil : Caps X scope [] []
  | cons {x : Str} {i : Nat} {xs : List Str} {is : List Nat} (h1 : scope.names.lookup x = some .free) (h2 : X.N[i]? = some x) (r : Caps X scope xs is) : Caps X scope (x :: xs) (i :: is)
theorem Caps.at {X : Cx} {scope : Scope} : ∀ {capt : List Str} {ix : List Nat}, Caps X scope capt ix → ∀ (j : Nat) (x : Str), capt[j]? = some x → scope.names.lookup x = some .free ∧ ∃ i, ix[j]? = some i ∧ X.N[i]? = some x
  | _, _, .nil, j, x, h => by simp at h
  | _, _, .cons h1 h2 r, 0, x, h => by
    simp at h
    subst h
    exact ⟨h1, _, rfl, h2⟩
  | _, _, .cons h1 h2 r, j + 1, x, h => by
    obtain ⟨q1, i, q2, q3⟩ := r.at j x (by simpa using h)
    exact ⟨q1, i, by simpa using q2, q3⟩
theorem Caps.len {X : Cx} {scope : Scope} : ∀ {capt : List Str} {ix : List Nat}, Caps X scope capt ix → ix.length = capt.length
  | _, _, .nil => rfl
  | _, _, .cons _ _ r => by simp [r.len]
theorem CompScope.of {X : Cx} {scope : Scope} {own capt : List Str} {ix : List Nat} (kind : scope.kind = .function) (nocell : ∀ y ∈ scope.names, y.2 ≠ .cell) (locs : ∀ y ∈ scope.names, y.2 = .local → scope.names.lookup y.1 = some .local)
    (frees : ∀ y ∈ scope.names, y.2 = .free → X.env.scope.names.lookup y.1 = some .cell) (c : Caps X scope capt ix) (nd : (own ++ capt).Nodup) : CompScope X scope own capt ix := ⟨kind, nocell, locs, frees, c.at, nd, c.len⟩
/-- what the names hold at the block's entry -/
def capV (n : Nat) (ix : List Nat) (σ : St) : St := List.replicate n none ++ ix.map fun i => (σ[i]?).join
section
variable {X : Cx} {pins : List (Addr × Obj)} {σ : St} {H : Hp} {s : Shared} {scope : Scope} {own capt : List Str} {ix : List Nat} {fp : List Addr}
theorem lookup_relabel {env : Env} {x : Str} : ∀ {names : List (Str × NameKind)}, (∀ y ∈ names, y.2 = .free → env.scope.names.lookup y.1 = some .cell) → env.scope.kind = .function →
    (names.map fun (n, k) => if (k == NameKind.free && env.scope.kind == .function && env.kindOf n == some .cell) then (n, NameKind.cell) else (n, k)).lookup x = (names.lookup x).map fun k => if k = .free then .cell else k
  | [], _, _ => rfl
  | (n, k) :: r, h, hk => by
    have ih := lookup_relabel (x := x) (names := r) (fun y hy => h y (List.mem_cons_of_mem _ hy)) hk
    rw [List.map_cons, List.lookup_cons]
    by_cases hf : k = .free
    · subst hf
      have e : env.kindOf n = some .cell := h (n, .free) List.mem_cons_self rfl
      have e2 : (NameKind.free == NameKind.free && env.scope.kind == .function && env.kindOf n == some .cell) = true := by rw [e, hk]; rfl
      rw [if_pos e2, List.lookup_cons]
      cases x == n with
      | true => rfl
      | false => exact ih
    · have e2 : ¬ (k == NameKind.free && env.scope.kind == .function && env.kindOf n == some .cell) = true := by
        intro z
        rw [Bool.and_eq_true, Bool.and_eq_true] at z
        exact hf (by simpa using z.1.1)
      rw [if_neg e2, List.lookup_cons]
      cases x == n with
      | true => simp [hf]
      | false => exact ih
theorem comp_cells (I : Inv X pins σ H s) (CS : CompScope X scope own capt ix) {x : Str} {c : Addr} (e : (closL X.env.cells scope.names []).lookup x = some c) : (x, NameKind.free) ∈ scope.names ∧ X.env.cells.lookup x = some c := by
  rcases closL_lookup e with e | ⟨h1, h2⟩
  · cases e
  · obtain ⟨c', e'⟩ := I.ok.has x (.inl (CS.frees _ h1 rfl))
    rw [e'] at h2
    exact ⟨h1, by rw [e']; exact congrArg some h2⟩
theorem comp_ok (I : Inv X pins σ H s) (CS : CompScope X scope own capt ix) (f : ∀ b ∈ fp, FpOk X pins H b) {C : Addr} (hC : s.heap.objs.size ≤ C) (hfp : ∀ b ∈ fp, b < s.heap.objs.size) : (X.comp s H (own ++ capt) scope C fp).Ok := by
  have cl : ∀ x c, (closL X.env.cells scope.names []).lookup x = some c → (x, NameKind.free) ∈ scope.names ∧ X.env.cells.lookup x = some c := fun x c e => comp_cells I CS e
  refine ⟨I.ok.mod, CS.kind, I.ok.glob, I.ok.blt, hC, fun x y c h1 h2 => I.ok.inj x y c (cl x c h1).2 (cl y c h2).2, fun x hx => ?_, fun x c z => (by cases z), I.ok.hd, I.ok.frames, .inl rfl, fun b hb => ⟨?_, fun x c e => ?_⟩, fun b o e => I.bs b o e, ?_, fun b o e hb => ?_, fun b hb z => ?_, I.stack, fun b hb => I.stkFree b hb⟩
  · -- a name that is a cell or free there
    have e : (compEnvC scope (closL X.env.cells scope.names []) C X.env).kindOf x = (scope.names.lookup x).map fun k => if k = .free then .cell else k := lookup_relabel CS.frees I.ok.kind
    have hx' : (scope.names.lookup x).map (fun k => if k = NameKind.free then NameKind.cell else k) = some .cell ∨ (scope.names.lookup x).map (fun k => if k = NameKind.free then NameKind.cell else k) = some .free := by rw [← e]; exact hx
    cases q : scope.names.lookup x with
    | none => rw [q] at hx'; rcases hx' with z | z <;> cases z
    | some k =>
      rw [q] at hx'
      have hm := PySem.mem_of_lookup q
      by_cases hk : k = .free
      · subst hk
        exact closL_has (.inl hm)
      · rcases hx' with z | z
        · simp only [Option.map_some, if_neg hk, Option.some.injEq] at z
          subst z
          exact absurd rfl (CS.nocell _ hm)
        · simp only [Option.map_some, if_neg hk, Option.some.injEq] at z
          exact absurd z hk
  · exact Nat.ne_of_lt (Nat.lt_of_lt_of_le (hfp b hb) hC)
  · exact (f b hb).2.2.2.2.1 x c (cl x c e).2
  · exact Nat.le_trans I.ok.bsz I.sz
  · rcases (f b hb).2.2.2.1 with z | z
    · exact I.ok.noex b o e z
    · exact absurd (Nat.lt_of_lt_of_le (Heap.lt_size e) (Nat.le_trans I.ok.bsz z)) (Nat.lt_irrefl _)
  · rcases List.mem_cons.mp (I.stkSub b z) with q | q
    · exact (f b hb).2.1 q
    · exact (f b hb).2.2.1 q
/-- the block's first state -/
theorem comp_inv (I : Inv X pins σ H s) (CS : CompScope X scope own capt ix) (f : ∀ b ∈ fp, FpOk X pins H b) (hfp : ∀ b ∈ fp, b < s.heap.objs.size) {h1 : Heap} {m : Str → Option Value} {C : Addr} {n tk : Nat} (hC : s.heap.objs.size < C)
    (keep : ∀ b o, s.heap.get? b = some o → h1.get? b = some o) (hacc : h1.get? s.heap.objs.size = some { cls := .type "list", data := .seq #[] n }) (hns : h1.Ns C m) :
    Inv (X.comp s H (own ++ capt) scope C fp) [] (capV own.length ix σ) (upd H s.heap.objs.size (.lst [])) { s with heap := h1, toks := tk } := by
  have hD := I.hok.fresh (Nat.le_refl s.heap.objs.size)
  have cellK : ∀ c v, s.heap.IsCell c v → h1.IsCell c v := fun c v ⟨o, e, d⟩ => ⟨o, keep c o e, d⟩
  refine ⟨comp_ok I CS f (Nat.le_of_lt hC) hfp, rfl, I.bare, Un.laid keep (Nat.le_refl _) hD, ⟨m, hns, fun i x v e1 e2 e3 => ?_⟩, fun x c e => ?_, ?_, fun x c e => ?_, fun p hp => absurd (show p ∈ ([] : List (Addr × Obj)) from hp) (by simp), ?_, ?_⟩
  · have hi : own.length ≤ i := by
      rcases Nat.lt_or_ge i own.length with z | z
      · have e2' : (capV own.length ix σ)[i]? = some (some v) := e2
        unfold capV at e2'
        rw [List.getElem?_append_left (by simpa using z), List.getElem?_replicate] at e2'
        split at e2' <;> cases e2'
      · exact z
    have e1' : capt[i - own.length]? = some x := by
      have e1'' : (own ++ capt)[i]? = some x := e1
      rw [List.getElem?_append_right hi] at e1''
      exact e1''
    obtain ⟨hl, i0, hi0, hN⟩ := CS.cap _ _ e1'
    have hv : σ[i0]? = some (some v) := by
      have e2' : (capV own.length ix σ)[i]? = some (some v) := e2
      unfold capV at e2'
      rw [List.getElem?_append_right (by simpa using hi), List.length_replicate, List.getElem?_map, hi0] at e2'
      have e3' : (σ[i0]?).join = some v := Option.some.inj e2'
      cases q : σ[i0]? with
      | none => rw [q] at e3'; cases e3'
      | some z => rw [q] at e3'; exact congrArg some e3'
    have hm := PySem.mem_of_lookup hl
    have hcell : X.env.scope.names.lookup x = some .cell := CS.frees _ hm rfl
    obtain ⟨m0, _, hloc⟩ := I.loc
    obtain ⟨u, ru, lk⟩ := hloc i0 x v hN hv (.inr (.inl hcell))
    refine ⟨u, ru, .inr ⟨.inl ?_, ?_⟩⟩
    · have e : (compEnvC scope (closL X.env.cells scope.names []) C X.env).kindOf x = (scope.names.lookup x).map fun k => if k = .free then .cell else k := lookup_relabel CS.frees I.ok.kind
      show (compEnvC scope (closL X.env.cells scope.names []) C X.env).kindOf x = some .cell
      rw [e, hl]
      rfl
    · rcases lk with ⟨k, _⟩ | ⟨_, c, ec, z⟩
      · have k' : X.env.scope.names.lookup x = some .local := k
        rw [hcell] at k'
        cases k'
      · obtain ⟨c', e'⟩ := closL_has (cells := X.env.cells) (cs := []) (.inl hm)
        have := (comp_cells I CS e').2
        rw [ec] at this
        cases this
        exact ⟨c, e', cellK _ _ z⟩
  · obtain ⟨v, z⟩ := I.cell x c (comp_cells I CS e).2
    exact ⟨v, cellK _ _ z⟩
  · show upd H s.heap.objs.size (.lst []) C = none
    rw [upd_ne (Nat.ne_of_gt hC)]
    exact I.hok.fresh (Nat.le_of_lt hC)
  · have q := (comp_cells I CS e).2
    obtain ⟨v, z⟩ := I.cell x c q
    rw [upd_ne (Nat.ne_of_lt z.lt)]
    exact I.freeC x c q
  · exact I.hok.laid keep (Nat.le_refl _) ⟨Nat.zero_le _, [], n, .nil, hacc⟩
  · show (capV own.length ix σ).length = (own ++ capt).length
    unfold capV
    rw [List.length_append, List.length_append, List.length_replicate, List.length_map, CS.len]
/-- no test, one test -/
def tNoIf : TT := fun _ H P => P true H
def PF (X : Cx) (ifs : List Expr) (t : TT) : Prop :=
  ∀ (pins : List (Addr × Obj)) (s : Shared) (σ : St) (H : Hp) (Q : Bool → Hp → Prop), Inv X pins σ H s → t σ H Q →
    wpAny (model X.prog X.w) X.A (forIn ifs true fun c r => if r = true then do let ok ← isTrue c X.env (eval c X.env); pure (ForInStep.yield ok) else pure (ForInStep.yield r)) (TP X pins σ Q) X.xe s
theorem pf_nil : PF X [] tNoIf := fun pins s σ H Q I h => wpAny_pure ⟨H, I, h⟩
theorem pf_one {c : Expr} {t : TT} (hc : PT X c t) : PF X [c] t := fun pins s σ H Q I h => by
  rw [List.forIn_cons]
  refine wpAny_bind ?_
  rw [if_pos rfl]
  exact wpAny_bind (thn (hc pins s σ H Q I h) fun ok s1 q => wpAny_pure (wpAny_pure q))
/-- [e for x in xs if c]: what the loop that makes the list asks -/
def tComp (n : Nat) (ix : List Nat) (wi : TI) (g : TG) (tc : TT) (te : TE) : TE := fun σ H Q => wi σ H fun J H1 => ∀ acc, H1 acc = none → ∃ W : Nat → Nat → St → Hp → Prop, (∃ m, W 0 m (capV n ix σ) (upd H1 acc (.lst []))) ∧
  ∀ i m σ' H', W i m σ' H' → (J.stop i H' ∧ Q (.ref acc) H') ∨ (J.go i H' ∧ ∃ N : St → Hp → Prop, (∀ σ2 H2, N σ2 H2 → ∃ m', m' < m ∧ W (i + 1) m' σ2 H2) ∧
    ∀ x H2, J.yld i H' x H2 → g x σ' H2 fun σ3 H3 => tc σ3 H3 fun ok H4 => if ok = true then te σ3 H4 fun v H5 => ∃ ys, H5 acc = some (.lst ys) ∧ ys.length < sizeLine ∧ N σ3 (upd H5 acc (.lst (ys ++ [v]))) else N σ3 H4)
theorem comp_run {E : Value → Shared → Prop} {elt target iter : Expr} {ifs : List Expr} {pos : Pos} {g : TG} {tc : TT} {te : TE} {J : It} {it : Addr} {tn : Nat → Heap → Prop} {RR : Value → Addr → Result → Shared → Prop} {Q : VK}
    (I : Inv X pins σ H s) (hc : X.calm = true) (CS : CompScope X scope own capt ix) (T : Turn X.prog X.w X.K target J fp it tn) (st : tn 0 s.heap) (f : ∀ b ∈ fp, FpOk X pins H b)
    (hg : ∀ s H C fp, PG (X.comp s H (own ++ capt) scope C fp) target g) (hf : ∀ s H C fp, PF (X.comp s H (own ++ capt) scope C fp) ifs tc) (he : ∀ s H C fp, PE (X.comp s H (own ++ capt) scope C fp) elt te)
    (hW : ∀ acc, H acc = none → ∃ W : Nat → Nat → St → Hp → Prop, (∃ m, W 0 m (capV own.length ix σ) (upd H acc (.lst []))) ∧
      ∀ i m σ' H', W i m σ' H' → (J.stop i H' ∧ Q (.ref acc) H') ∨ (J.go i H' ∧ ∃ N : St → Hp → Prop, (∀ σ2 H2, N σ2 H2 → ∃ m', m' < m ∧ W (i + 1) m' σ2 H2) ∧
        ∀ x H2, J.yld i H' x H2 → g x σ' H2 fun σ3 H3 => tc σ3 H3 fun ok H4 => if ok = true then te σ3 H4 fun v H5 => ∃ ys, H5 acc = some (.lst ys) ∧ ys.length < sizeLine ∧ N σ3 (upd H5 acc (.lst (ys ++ [v]))) else N σ3 H4))
    (fin : ∀ D C s' H', Inv X pins σ H' s' → FpOk X pins H' C → (∃ m, s'.heap.Ns C m) → Q (.ref D) H' → RR (.ref D) C (.ok .next) s') :
    wpAny (model X.prog X.w) X.A (newList []) (fun acc s3 => wpAny (model X.prog X.w) X.A (newFunctionEnv scope X.env.globals (closL X.env.cells scope.names []) [] X.env.qual none .none (some X.env)) (fun cenv s4 =>
      codeAny (model X.prog X.w) X.A (.compStart (.ListComp elt [⟨target, iter, ifs, 0⟩] scope pos) 0 (.ref it) acc { cenv with scope := relabel scope X.env }) (RR acc cenv.locals) s4) E s3) E s := by
  refine wpAny_newObj_type (wpAny_newFunctionEnv CS.nocell (by intro y hy; simp at hy) (fun h1 hns hsb => ?_) CS.kind)
  dsimp only at hns hsb ⊢
  generalize hP : s.heap.push { cls := .type "list", dict := none, data := .seq ([] : List Value).toArray } = P2 at hns hsb ⊢
  have hC : P2.objs.size = s.heap.objs.size + 1 := by rw [← hP, Heap.size_push]
  have lt : s.heap.objs.size < P2.objs.size := by omega
  have keep : ∀ b o, s.heap.get? b = some o → h1.get? b = some o := fun b o e => by
    have hb := Heap.lt_size e
    exact hsb.extBut b o (Nat.ne_of_lt (Nat.lt_trans hb lt)) (Heap.get?_push_of_some _ (hP ▸ Heap.get?_push_of_some _ e))
  have hacc : h1.get? s.heap.objs.size = some { cls := .type "list", data := .seq #[] } := hsb.extBut _ _ (Nat.ne_of_lt lt) (Heap.get?_push_of_some _ (hP ▸ Heap.get?_push_size _ rfl))
  have hfp : ∀ b ∈ fp, b < s.heap.objs.size := fun b hb => by
    obtain ⟨o, e, _⟩ := T.obj 0 _ st b hb
    exact Heap.lt_size e
  obtain ⟨W, ⟨m0, w0⟩, turn⟩ := hW s.heap.objs.size (I.hok.fresh (Nat.le_refl _))
  have ok := comp_ok I CS f (Nat.le_of_lt lt) hfp
  have stat : ∀ {H' : Hp}, (∀ b ∈ fp, H' b = none) → ∀ b ∈ fp, FpOk (X.comp s H (own ++ capt) scope P2.objs.size fp) [] H' b := fun hn b hb =>
    ⟨hn b hb, (ok.exf b hb).1, ok.exfs b hb, .inl hb, (ok.exf b hb).2, fun p hp => absurd (show p ∈ ([] : List (Addr × Obj)) from hp) (by simp)⟩
  have back : ∀ {s' : Shared} {σ' : St} {H' : Hp}, Inv (X.comp s H (own ++ capt) scope P2.objs.size fp) [] σ' H' s' → Inv X pins σ H' s' := fun {s' σ' H'} J' =>
    I.call' J'.os J'.base J'.hok J'.bare fun b hb => ⟨(f b hb).2.2.2.1, (f b hb).2.1, (f b hb).2.2.2.2.1, (f b hb).2.2.2.2.2⟩
  have loop : ∀ tk : Nat, codeAny (model X.prog X.w) X.A (.compLoop (.ListComp elt [⟨target, iter, ifs, 0⟩] scope pos) 0 (.ref it) (.ref s.heap.objs.size) (compEnvC scope (closL X.env.cells scope.names []) P2.objs.size X.env))
      (RR (.ref s.heap.objs.size) P2.objs.size) { s with heap := h1, toks := tk } := fun tk => by
    have I1 := comp_inv (tk := tk) I CS f hfp lt keep hacc hns
    refine comp_loop (fun n s' => ∃ i σ' H', Inv (X.comp s H (own ++ capt) scope P2.objs.size fp) [] σ' H' s' ∧ tn i s'.heap ∧ (∀ b ∈ fp, H' b = none) ∧ W i n σ' H') m0 ⟨0, _, _, I1, T.keep _ _ _ st fun b _ o e => keep b o e, fun b hb => ?_, w0⟩ ?_
    · rw [upd_ne (Nat.ne_of_lt (hfp b hb))]
      exact (f b hb).1
    rintro n s3 ⟨i, σ3, H3, I3, st3, fr3, w3⟩
    rcases turn i n σ3 H3 w3 with ⟨stop, qn⟩ | ⟨go, N, hN, step⟩
    · refine thn (T.done (X.comp s H (own ++ capt) scope P2.objs.size fp) rfl rfl rfl hc i [] s3 σ3 H3 _ I3 (stat fr3) st3 stop) fun r s4 ⟨hr, I4⟩ => ?_
      subst hr
      obtain ⟨m, hm, _⟩ := I4.loc
      exact fin _ _ _ _ (back I4) (I.fpOk (Nat.le_of_lt lt) I4.free) ⟨m, hm⟩ qn
    · refine thn (T.item (X.comp s H (own ++ capt) scope P2.objs.size fp) rfl rfl rfl hc i [] s3 σ3 H3 _ I3 (stat fr3) st3 go) fun r s4 ⟨u, hr, h4⟩ => ?_
      subst hr
      refine thn h4 fun _ s5 ⟨x, H5, I5, r5, y5, st5, fr5⟩ => ?_
      have I5' := I5.pinned (stat fr5) (T.obj _ _ st5)
      refine thn (hg _ _ _ _ _ s5 σ3 H5 x u _ I5' r5 (step x H5 y5)) fun _ s6 ⟨σ6, H6, I6, q6⟩ => ?_
      have again : ∀ {s7 : Shared} {H7 : Hp}, Inv (X.comp s H (own ++ capt) scope P2.objs.size fp) ([] ++ pinsAt fp s5.heap) σ6 H7 s7 → N σ6 H7 → ∃ m, m < n ∧ ∃ i σ' H', Inv (X.comp s H (own ++ capt) scope P2.objs.size fp) [] σ' H' s7 ∧ tn i s7.heap ∧ (∀ b ∈ fp, H' b = none) ∧ W i m σ' H' := fun {s7 H7} I7 n7 => by
        obtain ⟨m', hm, w7⟩ := hN σ6 H7 n7
        refine ⟨m', hm, i + 1, σ6, H7, I7.unpinned, T.keep _ _ _ st5 fun b hb o e => (I7.pin (b, o) (List.mem_append_right _ (List.mem_append_right _ (mem_pinsAt hb e)))).1, fun b hb => ?_, w7⟩
        obtain ⟨o, e, d⟩ := T.obj _ _ st5 b hb
        exact (I7.pin (b, o) (List.mem_append_right _ (List.mem_append_right _ (mem_pinsAt hb e)))).2.1
      refine thn (hf _ _ _ _ _ s6 σ6 H6 _ I6 q6) fun okv s7 ⟨H7, I7, q7⟩ => ?_
      cases okv with
      | false =>
        rw [if_neg Bool.false_ne_true] at q7 ⊢
        exact again I7 q7
      | true =>
        rw [if_pos rfl] at q7 ⊢
        refine thn (he _ _ _ _ _ s7 σ6 H7 _ I7 q7) fun xv s8 ⟨v, H8, I8, r8, ys, hy, hz, n8⟩ => ?_
        refine thn (mt_append (X := X.comp s H (own ++ capt) scope P2.objs.size fp) _ s8 σ6 H8 (.ref s.heap.objs.size) [v] (.ref s.heap.objs.size) [xv] (fun _ H9 => N σ6 H9) I8 rfl (.cons r8 .nil) ⟨_, ys, v, rfl, rfl, hy, hz, n8⟩) fun _ s9 ⟨_, H9, I9, _, n9⟩ => again I9 n9
  refine codeAny_compStart_list (loop _) (T.self _ 0 _ _ _ (T.keep _ _ _ st fun b _ o e => keep b o e) (loop _))
theorem pe_comp {elt target iter : Expr} {ifs : List Expr} {pos : Pos} {wi : TI} {g : TG} {tc : TT} {te : TE} (hc : X.calm = true) (CS : CompScope X scope own capt ix) (hi : PI X target iter wi)
    (hg : ∀ s H C fp, PG (X.comp s H (own ++ capt) scope C fp) target g) (hf : ∀ s H C fp, PF (X.comp s H (own ++ capt) scope C fp) ifs tc) (he : ∀ s H C fp, PE (X.comp s H (own ++ capt) scope C fp) elt te)
    (hs : ∀ x, foldedSetIterable iter X.env x = pure x := by intro _; rfl) : PE X (.ListComp elt [⟨target, iter, ifs, 0⟩] scope pos) (tComp own.length ix wi g tc te) := by
  intro pins s σ H Q I h
  rw [eval_ListComp]
  refine wpAny_comprehension_free (use := none) rfl hs (clos_eq fun x hx hk => I.ok.has x.1 (.inl (CS.frees x hx hk))) CS.kind CS.locs (thn (hi pins s σ H _ I h) fun v s1 h1 => thn h1 fun itv s2 h2 => ?_)
  obtain ⟨it, fp, tn, J, H2, e, I2, T, st2, f2, hW⟩ := h2
  subst e
  refine comp_run (RR := fun acc C => compPost (model X.prog X.w) X.A X.xe none (EP X pins σ Q) acc C) I2 hc CS T st2 f2 hg hf he hW fun D C s' H' J' fC ⟨m, hn⟩ q => ⟨m, hn, fun h' sb => ⟨.ref D, H', ?_, rfl, q⟩⟩
  exact J'.turned (t' := s'.toks) (fun b o hb e => (sb.2 b hb).trans e) fC.1 fC.2.1 fC.2.2.2.1 fC.2.2.2.2.1 fC.2.2.2.2.2
/-- y = [..]: the store comes ahead of the block's end -/
theorem ps_comp {i : Nat} {y : Str} {py spos : Pos} {elt target iter : Expr} {ifs : List Expr} {pos : Pos} {wi : TI} {g : TG} {tc : TT} {te : TE} (hc : X.calm = true) (CS : CompScope X scope own capt ix) (hi : PI X target iter wi)
    (hg : ∀ s H C fp, PG (X.comp s H (own ++ capt) scope C fp) target g) (hf : ∀ s H C fp, PF (X.comp s H (own ++ capt) scope C fp) ifs tc) (he : ∀ s H C fp, PE (X.comp s H (own ++ capt) scope C fp) elt te)
    (hN : X.N.Nodup := by assumption) (hiy : X.N[i]? = some y := by rfl) (hy : Loc X.env.scope y := by first | exact Or.inl rfl | exact Or.inr rfl) (hfn : X.fn y = true ∨ X.env.scope.names.lookup y = some .local := by first | exact .inl rfl | exact .inr rfl | assumption)
    (hsw : swapsWith (.ListComp elt [⟨target, iter, ifs, 0⟩] scope pos) (some (.Name y py)) spos.line X.env = pure true := by rfl)
    (hs : ∀ x, foldedSetIterable iter X.env x = pure x := by intro _; rfl) : PS X (.Assign [.Name y py] (.ListComp elt [⟨target, iter, ifs, 0⟩] scope pos) spos) (tAsg (tComp own.length ix wi g tc te) (gName i)) := by
  intro pins s σ H D I h
  rw [exec_Assign_Name_used _ _ _ _ hsw]
  refine wpAny_bind (wpAny_standAt (wpAny_bind ?_))
  show wpAny _ X.A (do let _ ← comprehension (.ListComp elt [⟨target, iter, ifs, 0⟩] scope pos) scope X.env _ (newList []) false (eval iter X.env) (some (assign (.Name y py) X.env))) _ _ s
  refine wpAny_bind (wpAny_mono (wpAny_comprehension_free (use := some (assign (.Name y py) X.env)) (Q := fun _ s' => SP X pins D .next s') rfl hs (clos_eq fun x hx hk => I.ok.has x.1 (.inl (CS.frees x hx hk))) CS.kind CS.locs
    (thn (hi pins s σ H _ I h) fun v s1 h1 => thn h1 fun itv s2 h2 => ?_)) (fun _ s' hq => wpAny_pure (wpAny_pure hq)) fun _ _ e => e)
  obtain ⟨it, fp, tn, J, H2, e, I2, T, st2, f2, hW⟩ := h2
  subst e
  refine comp_run (Q := fun x H1 => D.nx (σ.set i (some x)) H1) (RR := fun acc C => compPost (model X.prog X.w) X.A X.xe (some (assign (.Name y py) X.env)) (fun _ s' => SP X pins D .next s') acc C) I2 hc CS T st2 f2 hg hf he hW fun Dd C s' H' J' fC ⟨m, hn⟩ q => ?_
  show wpAny _ X.A (assign (.Name y py) X.env (.ref Dd)) _ _ _
  refine wpAny_assign_Name (store_ok2 J' hN hiy hy (v := .ref Dd) rfl (fun s'' I'' ⟨a, sa, ha⟩ => ?_) hfn)
  have hCa : C ≠ a := by
    rcases ha with z | z
    · rw [z]; exact fC.2.1
    · exact Ne.symm (fC.2.2.2.2.1 y a z)
  refine ⟨m, hn.sameBut sa hCa, fun h' sb => ⟨_, H', ?_, q⟩⟩
  exact I''.turned (t' := s''.toks) (fun b o hb e => (sb.2 b hb).trans e) fC.1 fC.2.1 fC.2.2.2.1 fC.2.2.2.2.1 fC.2.2.2.2.2
end
end L2

end

section
set_option maxHeartbeats 1000000
/-! enumerate and zip of lists, walked by a tuple of names. -/
namespace L2
open PySem PySem.Spec PyProof.Rows
theorem bt_enumerate : bootBuiltins "enumerate" = some (.type "enumerate") := by decide +kernel
theorem bt_zip : bootBuiltins "zip" = some (.type "zip") := by decide +kernel
section
variable {X : Cx} {pins : List (Addr × Obj)} {σ : St} {H : Hp} {s : Shared}
/-- records of ours have turned, a new tuple is laid -/
theorem Inv.yields (I : Inv X pins σ H s) {ch : List Addr} (hch : ∀ b ∈ ch, FpOk X pins H b) {h' : Heap} {tk : Nat} (keep : ∀ b o, b ∉ ch → s.heap.get? b = some o → h'.get? b = some o) {t : Addr} (ht : s.heap.objs.size ≤ t)
    {xs : List V} {us : List Value} (r : Vals xs us) (hl : xs.length ≤ sizeLine) (hT : IsTup h' t us.toArray) : Inv X pins σ (upd H t (.tup xs)) { s with heap := h', toks := tk } := by
  have hn := I.hok.fresh ht
  have nt : ∀ b o, s.heap.get? b = some o → b ≠ t := fun b o e => Nat.ne_of_lt (Nat.lt_of_lt_of_le (Heap.lt_size e) ht)
  have nc : ∀ b u, H b = some u → b ∉ ch := fun b u e z => by
    have := (hch b z).1
    rw [e] at this
    cases this
  have un : Un (frs X.stack) ch H (upd H t (.tup xs)) s.heap h' := by
    refine ⟨fun b o e n hb hc => keep b o hc e, fun b o e n hb hc => ⟨o.slots, keep b o hc e⟩, fun b o e n hc => ?_, fun b o e hc => ⟨o, keep b o hc e⟩, fun b ys e => ?_, fun b o u e => ?_, fun b ps e => ⟨#[], ?_⟩⟩
    · rw [upd_ne (nt b o e)]
      exact n
    · rw [upd_ne (ne_of_none e hn)]
      exact e
    · rw [upd_ne (ne_of_none e hn)]
      exact e
    · rw [upd_ne (ne_of_none e hn), e]
      simp
  refine I.call' (s' := { s with heap := h', toks := tk }) rfl un (fun b o e => ?_) I.bare fun b hb => ⟨(hch b hb).2.2.2.1, (hch b hb).2.1, (hch b hb).2.2.2.2.1, (hch b hb).2.2.2.2.2⟩
  by_cases hb : b = t
  · subst hb
    rw [upd_same] at e
    cases e
    exact ⟨hl, us, r, hT⟩
  · rw [upd_ne hb] at e
    refine (I.hok b o e).stay (fun c u hc q => keep c u ?_ q) (fun c q => ?_) fun c ys q => ?_
    · rcases hc with rfl | hc
      · exact nc _ _ e
      · exact nc _ _ hc
    · rw [upd_ne (ne_of_none q hn)]
      exact q
    · rw [upd_ne (ne_of_none q hn)]
      exact q
end
/-- (i, x) of the list at a -/
def Ite (K : PySem.W.Frag) (a : Addr) : It :=
  ⟨fun i H => ∃ xs x, SqL K H a xs ∧ xs[i]? = some x, fun i H v H' => ∃ x t, (∀ xs, SqL K H a xs → xs[i]? = some x) ∧ v = .ref t ∧ H t = none ∧ H' = upd H t (.tup [.int i, x]), fun i H => ∃ xs, SqL K H a xs ∧ xs.length ≤ i⟩
/-- (x, y) of the lists at a, b -/
def Itz (K : PySem.W.Frag) (a b : Addr) : It :=
  ⟨fun i H => ∃ xs ys x y, SqL K H a xs ∧ SqL K H b ys ∧ xs[i]? = some x ∧ ys[i]? = some y,
    fun i H v H' => ∃ x y t, (∀ xs, SqL K H a xs → xs[i]? = some x) ∧ (∀ ys, SqL K H b ys → ys[i]? = some y) ∧ v = .ref t ∧ H t = none ∧ H' = upd H t (.tup [x, y]),
    fun i H => ∃ xs ys, SqL K H a xs ∧ SqL K H b ys ∧ (xs.length ≤ i ∨ ys.length ≤ i)⟩
theorem turn_enum {P : Program} {w : World} {K : PySem.W.Frag} {elts : List Expr} {k} {tp : Pos} (a e it : Addr) (hne : e ≠ it) : Turn P w K (.Tuple elts k tp) (Ite K a) [e, it] e (fun i h => (∃ old, IsEnum h e it i old) ∧ h.IsListIter it a i) where
  mem := by simp
  obj := fun i h st b hb => by
    obtain ⟨⟨old, he⟩, o, eo, c, d⟩ := st
    simp only [List.mem_cons, List.not_mem_nil, or_false] at hb
    rcases hb with rfl | rfl
    · exact ⟨_, he, fun v z => by cases z⟩
    · exact ⟨o, eo, fun v z => by rw [d] at z; cases z⟩
  keep := fun i h h' st kk => by
    obtain ⟨⟨old, he⟩, hi⟩ := st
    exact ⟨⟨old, kk e (by simp) _ he⟩, hi.at fun o q => kk it (by simp) o q⟩
  item := by
    intro X hP hw hK hc i pins s σ H E I hf st hg
    subst hP hw hK
    obtain ⟨xs, x, hq, hx⟩ := hg
    obtain ⟨⟨old, he⟩, hi⟩ := st
    obtain ⟨its, rv, p, hz⟩ := I.list hq
    obtain ⟨u, hu, ru⟩ := rv.get hx
    refine wpAny_pyNext_enum_item he hi p.isList (x := u) (by simpa using hu) hne fun h' eo hi' ht hsz kp => ?_
    refine ⟨_, rfl, wpAny_letOwnedTupleGo_enum (s := { s with heap := h', toks := s.toks + 1 }) eo fun h'' ee sb => ?_⟩
    have lt : ∀ {c o}, s.heap.get? c = some o → s.heap.objs.size ≠ c := fun q => Nat.ne_of_gt (Heap.lt_size q)
    have nfp : s.heap.objs.size ≠ e := lt he
    have ht2 : h''.get? s.heap.objs.size = some { cls := .type "tuple", data := .seq #[.int i s.toks, u] } := sb.extBut _ _ nfp ht
    refine ⟨.ref s.heap.objs.size, upd H s.heap.objs.size (.tup [.int i, x]), ?_, rfl, ⟨x, _, fun ys hy => by rw [I.list_inj hy hq]; exact hx, rfl, I.hok.fresh (Nat.le_refl _), rfl⟩, ⟨⟨_, ee⟩, hi'.extBut sb.extBut (Ne.symm hne)⟩, fun b hb => ?_⟩
    · exact I.yields (ch := [e, it]) hf (fun b o hb q => sb.extBut b o (fun z => hb (by simp [z])) (kp b o (fun z => hb (by simp [z])) (fun z => hb (by simp [z])) q)) (Nat.le_refl _) (us := [.int i s.toks, u]) (.cons ⟨_, rfl⟩ (.cons ru .nil)) (by show 2 ≤ sizeLine; decide) ⟨_, ht2, rfl, _, rfl⟩
    · have hb' : s.heap.objs.size ≠ b := by
        simp only [List.mem_cons, List.not_mem_nil, or_false] at hb
        rcases hb with rfl | rfl
        · exact nfp
        · obtain ⟨o, q, _⟩ := hi
          exact lt q
      rw [upd_ne (Ne.symm hb')]
      exact (hf b hb).1
  done := by
    intro X hP hw hK hc i pins s σ H E I hf st hg
    subst hP hw hK
    obtain ⟨xs, hq, hx⟩ := hg
    obtain ⟨⟨old, he⟩, hi⟩ := st
    obtain ⟨its, rv, p, hz⟩ := I.list hq
    have hl := rv.length
    obtain ⟨f0, f1, f2, f3, f4, f5⟩ := hf it (by simp)
    exact wpAny_pyNext_enum_end (I.ok.hd hc) he hi p.isList (by simp; omega) fun h' eb => ⟨rfl, I.turned (t' := s.toks) (fun b o hb q => eb b o hb q) f0 f1 f3 f4 f5⟩
  self := fun _ _ _ _ _ st h => by
    obtain ⟨⟨old, he⟩, hi⟩ := st
    exact wpAny_pyIter_enum he h
theorem turn_zip {P : Program} {w : World} {K : PySem.W.Frag} {elts : List Expr} {k} {tp : Pos} (a b z TI TO i1 i2 : Addr) (D : ZipApart z TI TO i1 i2 a b) :
    Turn P w K (.Tuple elts k tp) (Itz K a b) [z, TI, TO, i1, i2] z (fun i h => IsZip h z TI TO .none ∧ IsPair h TI (.ref i1) (.ref i2) ∧ (∃ u v, IsPair h TO u v) ∧ h.IsListIter i1 a i ∧ h.IsListIter i2 b i) where
  mem := by simp
  obj := fun i h st c hc => by
    obtain ⟨hz, hTI, ⟨u, v, hTO⟩, ⟨o1, e1, _, d1⟩, ⟨o2, e2, _, d2⟩⟩ := st
    simp only [List.mem_cons, List.not_mem_nil, or_false] at hc
    rcases hc with rfl | rfl | rfl | rfl | rfl
    · exact ⟨_, hz, fun v z => by cases z⟩
    · exact ⟨_, hTI, fun v z => by cases z⟩
    · exact ⟨_, hTO, fun v z => by cases z⟩
    · exact ⟨o1, e1, fun v z => by rw [d1] at z; cases z⟩
    · exact ⟨o2, e2, fun v z => by rw [d2] at z; cases z⟩
  keep := fun i h h' st kk => by
    obtain ⟨hz, hTI, ⟨u, v, hTO⟩, h1, h2⟩ := st
    exact ⟨kk z (by simp) _ hz, kk TI (by simp) _ hTI, ⟨u, v, kk TO (by simp) _ hTO⟩, h1.at fun o q => kk i1 (by simp) o q, h2.at fun o q => kk i2 (by simp) o q⟩
  item := by
    intro X hP hw hK hc i pins s σ H E I hf st hg
    subst hP hw hK
    obtain ⟨xs, ys, x, y, hq1, hq2, hx, hy⟩ := hg
    obtain ⟨hz, hTI, ⟨u0, v0, hTO⟩, h1, h2⟩ := st
    obtain ⟨its, rv, p, _⟩ := I.list hq1
    obtain ⟨its2, rv2, p2, _⟩ := I.list hq2
    obtain ⟨u, hu, ru⟩ := rv.get hx
    obtain ⟨v, hv, rv'⟩ := rv2.get hy
    refine wpAny_pyNext_zip_item D hz hTI hTO h1 h2 p.isList p2.isList (x := u) (y := v) (by simpa using hu) (by simpa using hv) fun h' z1 to1 j1 j2 ht hsz kp => ?_
    refine ⟨_, rfl, wpAny_letOwnedTupleGo_zip (s := { s with heap := h' }) z1 fun h'' zz sb => ?_⟩
    have lt : ∀ {c o}, s.heap.get? c = some o → s.heap.objs.size ≠ c := fun q => Nat.ne_of_gt (Heap.lt_size q)
    have nz : s.heap.objs.size ≠ z := lt hz
    have ht2 : h''.get? s.heap.objs.size = some { cls := .type "tuple", data := .seq #[u, v] } := sb.extBut _ _ nz ht
    refine ⟨.ref s.heap.objs.size, upd H s.heap.objs.size (.tup [x, y]), ?_, rfl, ⟨x, y, _, fun ys hy => by rw [I.list_inj hy hq1]; exact hx, fun zs hz' => by rw [I.list_inj hz' hq2]; exact hy, rfl, I.hok.fresh (Nat.le_refl _), rfl⟩,
      ⟨zz, sb.extBut _ _ D.TIz (kp _ _ D.TIz D.TITO D.TIi1 D.TIi2 hTI), ⟨_, _, sb.extBut _ _ D.TOz to1⟩, j1.extBut sb.extBut D.i1z, j2.extBut sb.extBut D.i2z⟩, fun c hc => ?_⟩
    · exact I.yields (ch := [z, TI, TO, i1, i2]) (tk := s.toks) hf (fun c o hc q => sb.extBut c o (fun e => hc (by simp [e])) (kp c o (fun e => hc (by simp [e])) (fun e => hc (by simp [e])) (fun e => hc (by simp [e])) (fun e => hc (by simp [e])) q)) (Nat.le_refl _) (us := [u, v]) (.cons ru (.cons rv' .nil)) (by show 2 ≤ sizeLine; decide) ⟨_, ht2, rfl, _, rfl⟩
    · have hc' : s.heap.objs.size ≠ c := by
        simp only [List.mem_cons, List.not_mem_nil, or_false] at hc
        rcases hc with rfl | rfl | rfl | rfl | rfl
        · exact nz
        · exact lt hTI
        · exact lt hTO
        · obtain ⟨o, q, _⟩ := h1
          exact lt q
        · obtain ⟨o, q, _⟩ := h2
          exact lt q
      rw [upd_ne (Ne.symm hc')]
      exact (hf c hc).1
  done := by
    intro X hP hw hK hc i pins s σ H E I hf st hg
    subst hP hw hK
    obtain ⟨xs, ys, hq1, hq2, hx⟩ := hg
    obtain ⟨hz, hTI, ⟨u0, v0, hTO⟩, h1, h2⟩ := st
    obtain ⟨its, rv, p, _⟩ := I.list hq1
    obtain ⟨its2, rv2, p2, _⟩ := I.list hq2
    have hl := rv.length
    have hl2 := rv2.length
    refine wpAny_pyNext_zip_end (I.ok.hd hc) D hz hTI hTO h1 h2 p.isList p2.isList ?_ fun h' kp => ⟨rfl, ?_⟩
    · rcases hx with hx | hx
      · exact .inl (by simp; omega)
      · exact .inr (by simp; omega)
    · refine I.call' (s' := { s with heap := h' }) (ch := [z, TI, TO, i1, i2]) rfl ⟨fun c o e n hb hc => ?_, fun c o e n hb hc => ⟨o.slots, ?_⟩, fun c o e n hc => n, fun c o e hc => ⟨o, ?_⟩, fun _ _ e => e, fun _ _ _ e => e, fun c ps e => ⟨#[], by rw [e]; simp⟩⟩ (fun c o e => ?_) I.bare fun c hc => ⟨(hf c hc).2.2.2.1, (hf c hc).2.1, (hf c hc).2.2.2.2.1, (hf c hc).2.2.2.2.2⟩
      · exact kp c o (fun e => hc (by simp [e])) (fun e => hc (by simp [e])) (fun e => hc (by simp [e])) (fun e => hc (by simp [e])) e
      · exact kp c o (fun e => hc (by simp [e])) (fun e => hc (by simp [e])) (fun e => hc (by simp [e])) (fun e => hc (by simp [e])) e
      · exact kp c o (fun e => hc (by simp [e])) (fun e => hc (by simp [e])) (fun e => hc (by simp [e])) (fun e => hc (by simp [e])) e
      · have nc : ∀ d u, H d = some u → d ≠ z ∧ d ≠ TO ∧ d ≠ i1 ∧ d ≠ i2 := fun d u q => by
          have ne : ∀ d', d' ∈ [z, TI, TO, i1, i2] → d ≠ d' := fun d' hd' z => by
            have := (hf d' hd').1
            rw [← z, q] at this
            cases this
          exact ⟨ne z (by simp), ne TO (by simp), ne i1 (by simp), ne i2 (by simp)⟩
        refine (I.hok c o e).stay (fun d u hd q => ?_) (fun _ q => q) fun _ _ q => q
        rcases hd with rfl | hd
        · obtain ⟨n1, n2, n3, n4⟩ := nc _ _ e
          exact kp _ _ n1 n2 n3 n4 q
        · obtain ⟨n1, n2, n3, n4⟩ := nc _ _ hd
          exact kp _ _ n1 n2 n3 n4 q
  self := fun _ _ _ _ _ st h => by
    obtain ⟨hz, _⟩ := st
    exact wpAny_pyIter_zip hz h
theorem zip_apart {n l1 l2 : Nat} (h1 : l1 < n) (h2 : l2 < n) : ZipApart (n + 4) (n + 2) (n + 3) n (n + 1) l1 l2 := by
  constructor <;> (show (_ : Nat) ≠ _; omega)
section
variable {X : Cx} {elts : List Expr} {k : Nat} {tp : Pos}
def iEnum (K : PySem.W.Frag) (ta : TA) : TI := fun σ H R => ta σ H fun vs H1 => ∃ a, vs = [.ref a] ∧ (∃ xs, SqL K H1 a xs) ∧ R (Ite K a) H1
def iZip (K : PySem.W.Frag) (ta : TA) : TI := fun σ H R => ta σ H fun vs H1 => ∃ a b, vs = [.ref a, .ref b] ∧ (∃ xs, SqL K H1 a xs) ∧ (∃ ys, SqL K H1 b ys) ∧ R (Itz K a b) H1
theorem pi_enum {a : Expr} {ta : TA} {p pos : Pos} (hg : Gl X "enumerate") (hm : X.mg "enumerate" = none) (ha : PA X [a] ta) (hs : starEach [a] X.env = [(false, eval a X.env)] := by rfl) : PI X (.Tuple elts k tp) (.Call (.Name "enumerate" p) [a] [] pos) (iEnum X.K ta) := by
  intro pins s σ H R I h
  refine Call_ (ld_blt I hg hm bt_enumerate (PyProof.Rows.callWith_type1 (thn (ha pos pins s σ H _ I h) fun us s1 ⟨vs, H1, I1, r1, q1⟩ => ?_) hs rfl))
  obtain ⟨l, rfl, ⟨xs, hq⟩, q⟩ := q1
  obtain ⟨u, rfl, ru⟩ := r1.one
  cases ru
  obtain ⟨its, rv, pl, _⟩ := I1.list hq
  refine call_enumerate_list pl.isList fun h' ee li hsz kp => ?_
  refine wpAny_pyIter_enum (s := { s1 with heap := h' }) ee ?_
  refine ⟨_, [s1.heap.objs.size + 1, s1.heap.objs.size], _, _, H1, rfl, I1.kept (t' := s1.toks) kp, turn_enum l _ _ (Nat.succ_ne_self _), ⟨⟨_, ee⟩, li⟩, fun b hb => ?_, q⟩
  simp only [List.mem_cons, List.not_mem_nil, or_false] at hb
  rcases hb with rfl | rfl
  · exact I1.fpOk (Nat.le_succ _) (I1.hok.fresh (Nat.le_succ _))
  · exact I1.fpOk (Nat.le_refl _) (I1.hok.fresh (Nat.le_refl _))
theorem pi_zip {a b : Expr} {ta : TA} {p pos : Pos} (hg : Gl X "zip") (hm : X.mg "zip" = none) (ha : PA X [a, b] ta) (hs : starEach [a, b] X.env = [(false, eval a X.env), (false, eval b X.env)] := by rfl) (hs2 : starEach [b] X.env = [(false, eval b X.env)] := by rfl) :
    PI X (.Tuple elts k tp) (.Call (.Name "zip" p) [a, b] [] pos) (iZip X.K ta) := by
  intro pins s σ H R I h
  refine Call_ (ld_blt I hg hm bt_zip (PyProof.Rows.callWith_type1 (thn (ha pos pins s σ H _ I h) fun us s1 ⟨vs, H1, I1, r1, q1⟩ => ?_) (by rw [hs, hs2]) (by rw [hs2]; rfl)))
  obtain ⟨l1, l2, rfl, ⟨xs, hq1⟩, ⟨ys, hq2⟩, q⟩ := q1
  obtain ⟨u, v, rfl, ru, rv⟩ := r1.two
  cases ru
  cases rv
  obtain ⟨its, _, p1, _⟩ := I1.list hq1
  obtain ⟨its2, _, p2, _⟩ := I1.list hq2
  have lt1 : l1 < s1.heap.objs.size := by
    obtain ⟨o, _, e, _⟩ := p1
    exact Heap.lt_size e
  have lt2 : l2 < s1.heap.objs.size := by
    obtain ⟨o, _, e, _⟩ := p2
    exact Heap.lt_size e
  refine call_zip_2 p1.isList p2.isList fun h' zz pi po j1 j2 hsz kp => ?_
  refine wpAny_pyIter_zip (s := { s1 with heap := h' }) zz ?_
  refine ⟨_, [s1.heap.objs.size + 4, s1.heap.objs.size + 2, s1.heap.objs.size + 3, s1.heap.objs.size, s1.heap.objs.size + 1], _, _, H1, rfl, I1.kept (t' := s1.toks) kp, turn_zip l1 l2 _ _ _ _ _ (zip_apart lt1 lt2), ⟨zz, pi, ⟨_, _, po⟩, j1, j2⟩, fun b hb => ?_, q⟩
  have le : s1.heap.objs.size ≤ b := by
    simp only [List.mem_cons, List.not_mem_nil, or_false] at hb
    rcases hb with rfl | rfl | rfl | rfl | rfl
    · exact Nat.le_add_right _ _
    · exact Nat.le_add_right _ _
    · exact Nat.le_add_right _ _
    · exact Nat.le_refl _
    · exact Nat.le_add_right _ _
  exact I1.fpOk le (I1.hok.fresh le)
end
end L2

end

section
set_option maxHeartbeats 1000000
/-! ONE RULE FOR EACH OPERATION: ==, !=, +, []; texts with fields; global numbers. -/
namespace L2
open PySem PySem.Spec PyProof.Rows
section
variable {X : Cx}
/-- what is equal to itself -/
def plainV : V → Bool
  | .flt _ => false
  | .byt _ => false
  | _ => true
theorem eq_same {A : Around} {s : Shared} {v : V} {u u' : Value} (r : RelV v u) (r' : RelV v u') (h : plainV v = true) : SeqAt.EqAt A s u u' true := by
  cases v with
  | non => cases r; cases r'; exact .same _
  | bl _ => cases r; cases r'; exact .same _
  | int i =>
    obtain ⟨t, rfl⟩ := r
    obtain ⟨t', rfl⟩ := r'
    have := SeqAt.EqAt.int_int (A := A) (s := s) i t i t'
    rwa [beq_self_eq_true] at this
  | str x =>
    obtain ⟨t, rfl⟩ := r
    obtain ⟨t', rfl⟩ := r'
    have := SeqAt.EqAt.str_str (A := A) (s := s) x t x t'
    rwa [beq_self_eq_true] at this
  | byt _ => cases h
  | flt _ => cases h
  | ref _ => cases r; cases r'; exact .same _
  | ty _ => cases r; cases r'; exact .same _
/-- two lists (or tuples) of the very same things -/
def TwoSame (K : PySem.W.Frag) (x y : V) (H : Hp) : Prop := ∃ a b xs, x = .ref a ∧ y = .ref b ∧ ((SqL K H a xs ∧ SqL K H b xs) ∨ (SqT K H a xs ∧ SqT K H b xs)) ∧ xs.all plainV = true
theorem vals_same {A : Around} {s : Shared} {xs : List V} {us us' : List Value} (r : Vals xs us) (r' : Vals xs us') (h : xs.all plainV = true) : ∀ j (h1 : j < us.toArray.size) (h2 : j < us'.toArray.size), SeqAt.EqAt A s us.toArray[j] us'.toArray[j] true := fun j h1 h2 => by
  have l1 := r.length
  have l2 := r'.length
  have hj : j < xs.length := by simp at h1; omega
  have hx : xs[j]? = some xs[j] := by simp [hj]
  obtain ⟨u, e1, q1⟩ := r.get hx
  obtain ⟨u', e2, q2⟩ := r'.get hx
  have p : plainV xs[j] = true := List.all_eq_true.mp h _ (List.getElem_mem hj)
  obtain ⟨_, e1'⟩ := List.getElem?_eq_some_iff.mp e1
  obtain ⟨_, e2'⟩ := List.getElem?_eq_some_iff.mp e2
  have := eq_same (A := A) (s := s) q1 q2 p
  rw [← e1', ← e2'] at this
  simpa using this
theorem all_true {n : Nat} : (List.range n).all (fun _ => true) = true := by simp
theorem op_eqS (hu : X.A.units + 64 < cLine) : OpR X (compareOp .Eq) (fun x y H Q => TwoSame X.K x y H ∧ Q (.bl true) H) := by
  intro pins s σ H x y v u Q I rx ry h
  obtain ⟨⟨a, b, xs, rfl, rfl, h, pl⟩, q⟩ := h
  cases rx
  cases ry
  rcases h with ⟨h1, h2⟩ | ⟨h1, h2⟩
  · obtain ⟨its, r1, p1, _⟩ := I.list h1
    obtain ⟨its2, r2, p2, _⟩ := I.list h2
    have e := r1.length.symm.trans r2.length
    refine SeqAt.eq_listAt p1.isList p2.isList (by simp; omega) (by omega) (vals_same r1 r2 pl) ?_
    rw [all_true]
    exact ⟨.bl true, H, I, rfl, q⟩
  · obtain ⟨its, r1, p1, _⟩ := I.tuple h1
    obtain ⟨its2, r2, p2, _⟩ := I.tuple h2
    have e := r1.length.symm.trans r2.length
    refine SeqAt.eq_tupleAt (show s.heap.IsTuple a its.toArray from p1) (show s.heap.IsTuple b its2.toArray from p2) (by omega) (vals_same r1 r2 pl) ?_
    rw [all_true]
    have e2 : (its.toArray.size == its2.toArray.size) = true := by simp [e]
    rw [e2]
    exact ⟨.bl true, H, I, rfl, q⟩
theorem op_neS (hu : X.A.units + 64 < cLine) : OpR X (compareOp .NotEq) (fun x y H Q => TwoSame X.K x y H ∧ Q (.bl false) H) := by
  intro pins s σ H x y v u Q I rx ry h
  obtain ⟨⟨a, b, xs, rfl, rfl, h, pl⟩, q⟩ := h
  cases rx
  cases ry
  rcases h with ⟨h1, h2⟩ | ⟨h1, h2⟩
  · obtain ⟨its, r1, p1, _⟩ := I.list h1
    obtain ⟨its2, r2, p2, _⟩ := I.list h2
    have e := r1.length.symm.trans r2.length
    have k := SeqAt.RcNeAt.lists (A := X.A) p1.isList p2.isList (by simp; omega) (by omega) (vals_same r1 r2 pl)
    rw [all_true] at k
    exact k X.prog X.w X.xe _ ⟨.bl false, H, I, rfl, q⟩
  · obtain ⟨its, r1, p1, _⟩ := I.tuple h1
    obtain ⟨its2, r2, p2, _⟩ := I.tuple h2
    have e := r1.length.symm.trans r2.length
    have k := SeqAt.RcNeAt.tuples (A := X.A) (show s.heap.IsTuple a its.toArray from p1) (show s.heap.IsTuple b its2.toArray from p2) (by omega) (vals_same r1 r2 pl)
    have e2 : (its.toArray.size == its2.toArray.size) = true := by simp [e]
    rw [all_true, e2] at k
    exact k X.prog X.w X.xe _ ⟨.bl false, H, I, rfl, q⟩
/-- == and != of anything -/
def rEqA (K : PySem.W.Frag) : R2 := fun x y H Q => rEq x y H Q ∨ rEqD K x y H Q ∨ (TwoSame K x y H ∧ Q (.bl true) H)
def rNeA (K : PySem.W.Frag) : R2 := fun x y H Q => rNe x y H Q ∨ rNeD K x y H Q ∨ (TwoSame K x y H ∧ Q (.bl false) H)
theorem op_eqA (hu : X.A.units + 64 < cLine) : OpR X (compareOp .Eq) (rEqA X.K) := op_eq.or ((op_eqD hu).or (op_eqS hu))
theorem op_neA (hu : X.A.units + 64 < cLine) : OpR X (compareOp .NotEq) (rNeA X.K) := op_ne.or ((op_neD hu).or (op_neS hu))
/-- + of ints, lists, tuples, texts -/
def rAddA (K : PySem.W.Frag) : R2 := fun x y H Q => rI0 (fun i j => .int (i + j)) x y H Q ∨ rCatS K x y H Q ∨ rCatT K x y H Q ∨ ∃ i j, x = .str i ∧ y = .str j ∧ i.length + j.length ≤ sizeLine ∧ Q (.str (i ++ j)) H
theorem op_addA : OpR X (binaryOp .Add) (rAddA X.K) := op_add.or (op_catS.or (op_catT.or op_add_str))
variable {σ : St} {H : Hp} {Q : VK} {K : PySem.W.Frag}
theorem s_eqAI {i j : Int} (q : Q (.bl (decide (i = j))) H) : rEqA K (.int i) (.int j) H Q := .inl (s_eqI q)
theorem s_neAI {i j : Int} (q : Q (.bl (!decide (i = j))) H) : rNeA K (.int i) (.int j) H Q := .inl (s_neI q)
theorem s_addI {i j : Int} (q : Q (.int (i + j)) H) : rAddA K (.int i) (.int j) H Q := .inl ⟨i, j, rfl, rfl, q⟩
theorem s_catL {a b : Addr} {xs ys : List V} (h1 : SqL K H a xs) (h2 : SqL K H b ys) (hl : xs.length + ys.length ≤ sizeLine) (q : ∀ p H', H p = none → Same H H' → H' p = some (.lst (xs ++ ys)) → Q (.ref p) H') : rAddA K (.ref a) (.ref b) H Q :=
  .inr (.inl ⟨a, b, xs, ys, rfl, rfl, h1, h2, hl, fun p hp => q p _ hp (Same.new hp) upd_same⟩)
theorem s_catT {a b : Addr} {xs ys : List V} (h1 : SqT K H a xs) (h2 : SqT K H b ys) (n1 : xs ≠ []) (n2 : ys ≠ []) (hl : xs.length + ys.length ≤ sizeLine) (q : ∀ p H', H p = none → Same H H' → H' p = some (.tup (xs ++ ys)) → Q (.ref p) H') : rAddA K (.ref a) (.ref b) H Q :=
  .inr (.inr (.inl ⟨a, b, xs, ys, rfl, rfl, h1, h2, n1, hl, fun z => absurd z n2, fun _ p hp => q p _ hp (Same.new hp) upd_same⟩))
theorem s_ixSL {p : Addr} {xs : List V} {i : Int} {v : V} (h : SqL K H p xs) (e : atI xs i = some v) (q : Q v H) : rIx K (.ref p) (.int i) H Q := .inl (s_ixL h e q)
theorem s_ixST {p : Addr} {xs : List V} {i : Int} {v : V} (h : SqT K H p xs) (e : atI xs i = some v) (q : Q v H) : rIx K (.ref p) (.int i) H Q := .inr (.inl (s_ixT h e q))
def rLen (K : PySem.W.Frag) : List V → Hp → VK → Prop := fun xs H Q => ∃ x n, xs = [x] ∧ LenV K x H n ∧ Q (.int n) H
def rAbs : List V → Hp → VK → Prop := fun xs H Q => ∃ i, xs = [.int i] ∧ Q (.int (if i < 0 then -i else i)) H
def rMin2 : List V → Hp → VK → Prop := fun xs H Q => ∃ i j, xs = [.int i, .int j] ∧ Q (.int (if j < i then j else i)) H
def rListOf (K : PySem.W.Frag) : List V → Hp → VK → Prop := fun xs H Q => ∃ p ys, xs = [.ref p] ∧ (SqL K H p ys ∨ SqT K H p ys) ∧ ∀ l, H l = none → Q (.ref l) (upd H l (.lst ys))
theorem s_lenL {p : Addr} {xs : List V} (h : SqL K H p xs) (q : Q (.int xs.length) H) : rLen K [.ref p] H Q := ⟨_, _, rfl, .inl ⟨xs, h, rfl⟩, q⟩
theorem s_lenT {p : Addr} {xs : List V} (h : SqT K H p xs) (q : Q (.int xs.length) H) : rLen K [.ref p] H Q := ⟨_, _, rfl, .inr ⟨xs, h, rfl⟩, q⟩
theorem s_abs1 {i : Int} (q : Q (.int (if i < 0 then -i else i)) H) : rAbs [.int i] H Q := ⟨i, rfl, q⟩
theorem s_min2 {i j : Int} (q : Q (.int (if j < i then j else i)) H) : rMin2 [.int i, .int j] H Q := ⟨i, j, rfl, q⟩
/-- list(xs): a new list -/
theorem s_listL {p : Addr} {xs : List V} (h : SqL K H p xs) (q : ∀ l H', H l = none → Same H H' → H' l = some (.lst xs) → Q (.ref l) H') : rListOf K [.ref p] H Q := ⟨p, xs, rfl, .inl h, fun l hl => q l _ hl (Same.new hl) upd_same⟩
/-! ### f".." -/
end
end L2

end

section
set_option maxHeartbeats 1000000
/-! LOOPS AND BLOCKS by what holds between two turns. -/
namespace L2
open PySem PySem.Spec PyProof.Rows
theorem Same.updN {H H1 : Hp} {l : Addr} {o : HO} (s : Same H H1) (n : H l = none) : Same H (upd H1 l o) := fun b u e => by
  rw [upd_ne (ne_of_none e n)]
  exact s b u e
/-- the loop's own part -/
def ForW (J : It) (g : TG) (tb : TS) (D : Ends) (σ : St) (H : Hp) : Prop := ∃ W : Nat → Nat → St → Hp → Prop, (∃ m, W 0 m σ H) ∧ ∀ i m σ H, W i m σ H →
  (J.stop i H ∧ D.nx σ H) ∨ (J.go i H ∧ ∃ N : St → Hp → Prop, (∀ σ' H', N σ' H' → ∃ m', m' < m ∧ W (i + 1) m' σ' H') ∧ ∀ x H', J.yld i H x H' → g x σ H' fun σ2 H2 => tb { D with nx := N, ct := N, bk := D.nx } σ2 H2)
/-- a block's own part -/
def CompW (J : It) (acc : Addr) (g : TG) (tc : TT) (te : TE) (σ : St) (H : Hp) (Q : VK) : Prop := ∃ W : Nat → Nat → St → Hp → Prop, (∃ m, W 0 m σ (upd H acc (.lst []))) ∧
  ∀ i m σ' H', W i m σ' H' → (J.stop i H' ∧ Q (.ref acc) H') ∨ (J.go i H' ∧ ∃ N : St → Hp → Prop, (∀ σ2 H2, N σ2 H2 → ∃ m', m' < m ∧ W (i + 1) m' σ2 H2) ∧
    ∀ x H2, J.yld i H' x H2 → g x σ' H2 fun σ3 H3 => tc σ3 H3 fun ok H4 => if ok = true then te σ3 H4 fun v H5 => ∃ ys, H5 acc = some (.lst ys) ∧ ys.length < sizeLine ∧ N σ3 (upd H5 acc (.lst (ys ++ [v]))) else N σ3 H4)
def jList (K : PySem.W.Frag) (x : V) (H : Hp) (R : It → Hp → Prop) : Prop := ∃ a, x = .ref a ∧ (∃ xs, SqL K H a xs) ∧ R (Itl K a) H
def jR1 (vs : List V) (H : Hp) (R : It → Hp → Prop) : Prop := ∃ j : Int, vs = [.int j] ∧ -(2 ^ 62) ≤ j ∧ j < 2 ^ 62 ∧ R (Itr 0 j.toNat) H
def jR2 (vs : List V) (H : Hp) (R : It → Hp → Prop) : Prop := ∃ i j : Int, vs = [.int i, .int j] ∧ (-(2 ^ 62) ≤ i ∧ i < 2 ^ 62 ∧ -(2 ^ 62) ≤ j ∧ j < 2 ^ 62) ∧ R (Itr i (j - i).toNat) H
def jEnum (K : PySem.W.Frag) (vs : List V) (H : Hp) (R : It → Hp → Prop) : Prop := ∃ a, vs = [.ref a] ∧ (∃ xs, SqL K H a xs) ∧ R (Ite K a) H
def jZip (K : PySem.W.Frag) (vs : List V) (H : Hp) (R : It → Hp → Prop) : Prop := ∃ a b, vs = [.ref a, .ref b] ∧ (∃ xs, SqL K H a xs) ∧ (∃ ys, SqL K H b ys) ∧ R (Itz K a b) H
section
variable {K : PySem.W.Frag} {σ : St} {H : Hp} {R : It → Hp → Prop} {tl te : TE} {ta : TA} {a b : Addr} {xs ys : List V} {wi : TI} {g : TG} {tb : TS} {D : Ends} {tc : TT} {n : Nat} {ix : List Nat} {Q : VK}
theorem s_for (h : wi σ H fun J H1 => ForW J g tb D σ H1) : tFor wi g tb D σ H := h
theorem s_comp {σ' : St} (e : capV n ix σ = σ') (h : wi σ H fun J H1 => ∀ acc, H1 acc = none → CompW J acc g tc te σ' H1 Q) : tComp n ix wi g tc te σ H Q := by
  subst e
  exact h
theorem s_iList (h : tl σ H fun x H1 => jList K x H1 R) : iList K tl σ H R := h
theorem s_iR1 (h : ta σ H fun vs H1 => jR1 vs H1 R) : iRng1 ta σ H R := h
theorem s_iR2 (h : ta σ H fun vs H1 => jR2 vs H1 R) : iRng2 ta σ H R := h
theorem s_iEnum (h : ta σ H fun vs H1 => jEnum K vs H1 R) : iEnum K ta σ H R := h
theorem s_iZip (h : ta σ H fun vs H1 => jZip K vs H1 R) : iZip K ta σ H R := h
theorem s_jList (h : SqL K H a xs) (q : R (Itl K a) H) : jList K (.ref a) H R := ⟨a, rfl, ⟨xs, h⟩, q⟩
theorem s_jR1 {j : Int} (h : -(2 ^ 62) ≤ j ∧ j < 2 ^ 62) (q : R (Itr 0 j.toNat) H) : jR1 [.int j] H R := ⟨j, rfl, h.1, h.2, q⟩
theorem s_jR2 {i j : Int} (h1 : -(2 ^ 62) ≤ i ∧ i < 2 ^ 62) (h2 : -(2 ^ 62) ≤ j ∧ j < 2 ^ 62) (q : R (Itr i (j - i).toNat) H) : jR2 [.int i, .int j] H R := ⟨i, j, rfl, ⟨h1.1, h1.2, h2.1, h2.2⟩, q⟩
theorem s_jEnum (h : SqL K H a xs) (q : R (Ite K a) H) : jEnum K [.ref a] H R := ⟨a, rfl, ⟨xs, h⟩, q⟩
theorem s_jZip (h1 : SqL K H a xs) (h2 : SqL K H b ys) (q : R (Itz K a b) H) : jZip K [.ref a, .ref b] H R := ⟨a, b, rfl, ⟨xs, h1⟩, ⟨ys, h2⟩, q⟩
/-- slices -/
theorem s_sl {r : V → Option Int → Option Int → Hp → VK → Prop} {lo hi : TO} (h : te σ H fun x H1 => lo σ H1 fun l H2 => hi σ H2 fun u H3 => r x l u H3 Q) : tSl r te lo hi σ H Q := h
theorem s_noPart {P : Option Int → Hp → Prop} (h : P none H) : tNoPart σ H P := h
theorem s_part {P : Option Int → Hp → Prop} (h : te σ H fun x H1 => ∃ i, x = .int i ∧ P (some i) H1) : tPart te σ H P := h
theorem s_exI {P : Int → Prop} {i : Int} (h : P i) : ∃ j, V.int i = .int j ∧ P j := ⟨i, rfl, h⟩
theorem s_slL {lo hi : Option Int} (h : SqL K H a xs) (q : ∀ p H', H p = none → Same H H' → H' p = some (.lst (cutV xs lo hi)) → Q (.ref p) H') : rSlL K (.ref a) lo hi H Q := ⟨a, xs, rfl, h, fun p hp => q p _ hp (Same.new hp) upd_same⟩
theorem s_slT {lo hi : Option Int} (h : SqT K H a xs) (hw : ¬ (HT.sIx xs.length 0 lo = 0 ∧ HT.sIx xs.length xs.length hi = xs.length)) (q : ∀ p H', H p = none → Same H H' → H' p = some (.tup (cutV xs lo hi)) → Q (.ref p) H') : rSlT K (.ref a) lo hi H Q := ⟨a, xs, rfl, h, hw, fun p hp => q p _ hp (Same.new hp) upd_same⟩
theorem cut_to {k : Nat} : cutV xs none (some (k : Int)) = xs.take k := by
  unfold cutV
  rw [HT.sIx_none, HT.sIx_nat, List.drop_zero, Nat.sub_zero, Nat.min_comm]
  rw [← List.take_take]
  exact List.take_of_length_le (by rw [List.length_take]; omega)
theorem cut_from {k : Nat} : cutV xs (some (k : Int)) none = xs.drop k := by
  unfold cutV
  rw [HT.sIx_none, HT.sIx_nat]
  by_cases h : k ≤ xs.length
  · rw [Nat.min_eq_left h]
    exact List.take_of_length_le (by rw [List.length_drop]; omega)
  · rw [Nat.min_eq_right (by omega), List.drop_length, List.take_nil]
    exact (List.drop_eq_nil_of_le (by omega)).symm
/-- unpacking -/
theorem s_gt2 {t : Addr} {v w : V} {i j : Nat} {σ' : St} {P : St → Hp → Prop} (h : SqT K H t [v, w]) (e : (σ.set i (some v)).set j (some w) = σ') (q : P σ' H) : gTup K 2 (gCons (gName i) (gCons (gName j) gNil)) (.ref t) σ H P := by
  subst e
  exact ⟨t, [v, w], rfl, h, rfl, v, [w], rfl, w, [], rfl, rfl, q⟩
theorem s_asgG (h : te σ H fun x H1 => g x σ H1 D.nx) : tAsg te g D σ H := h
/-- xs[k] = v -/
theorem s_gsub {to ti : TE} {v : V} {P : St → Hp → Prop} (h : to σ H fun o H1 => ti σ H1 fun i H2 => rSetL o i v H2 fun H3 => P σ H3) : gSub to ti rSetL v σ H P := h
theorem s_setL {p : Addr} {k : Nat} {v : V} {P : Hp → Prop} (h : H p = some (.lst xs)) (hk : k < xs.length) (q : P (upd H p (.lst (xs.set k v)))) : rSetL (.ref p) (.int (k : Int)) v H P := by
  refine ⟨p, xs, _, k, rfl, rfl, h, ?_, q⟩
  unfold ixN
  rw [if_pos (by omega), if_pos (by omega)]
  rfl
end
section
variable {K : PySem.W.Frag} {a b acc : Addr} {xs ys : List V} {g : TG} {tb : TS} {tc : TT} {te : TE} {D : Ends} {σ : St} {H : Hp} {Q : VK} {lo : Int} {n : Nat}
/-- what a turn of a block comes to -/
abbrev blk (acc : Addr) (tc : TT) (te : TE) (N : St → Hp → Prop) : St → Hp → Prop := fun σ3 H3 => tc σ3 H3 fun ok H4 => if ok = true then te σ3 H4 fun v H5 => ∃ ys, H5 acc = some (.lst ys) ∧ ys.length < sizeLine ∧ N σ3 (upd H5 acc (.lst (ys ++ [v]))) else N σ3 H4
theorem comp_range (Pv : Nat → St → Hp → Prop) (h0 : Pv 0 σ (upd H acc (.lst []))) (hs : ∀ i σ H, i < n → Pv i σ H → g (.int (lo + i)) σ H (blk acc tc te (Pv (i + 1)))) (hd : ∀ σ H, Pv n σ H → Q (.ref acc) H) :
    ∃ W : Nat → Nat → St → Hp → Prop, (∃ m, W 0 m σ (upd H acc (.lst []))) ∧ ∀ i m σ' H', W i m σ' H' → ((Itr lo n).stop i H' ∧ Q (.ref acc) H') ∨ ((Itr lo n).go i H' ∧ ∃ N : St → Hp → Prop, (∀ σ2 H2, N σ2 H2 → ∃ m', m' < m ∧ W (i + 1) m' σ2 H2) ∧
      ∀ x H2, (Itr lo n).yld i H' x H2 → g x σ' H2 (blk acc tc te N)) := by
  refine ⟨fun i m σ H => m = n - i ∧ i ≤ n ∧ Pv i σ H, ⟨n, by simp, Nat.zero_le _, h0⟩, ?_⟩
  rintro i m σ' H' ⟨rfl, hi, p⟩
  by_cases hlt : i < n
  · refine .inr ⟨hlt, Pv (i + 1), fun σ2 H2 p' => ⟨n - (i + 1), by omega, rfl, hlt, p'⟩, fun x H2 y => ?_⟩
    obtain ⟨e, y⟩ := y
    subst e y
    exact hs i σ' _ hlt p
  · have e : i = n := by omega
    subst e
    exact .inl ⟨Nat.le_refl _, hd σ' H' p⟩
theorem comp_list (Pv : Nat → St → Hp → Prop) (h0 : Pv 0 σ (upd H acc (.lst []))) (hl : ∀ i σ H, i ≤ xs.length → Pv i σ H → SqL K H a xs) (hs : ∀ i x σ H, xs[i]? = some x → Pv i σ H → g x σ H (blk acc tc te (Pv (i + 1)))) (hd : ∀ σ H, Pv xs.length σ H → Q (.ref acc) H) :
    ∃ W : Nat → Nat → St → Hp → Prop, (∃ m, W 0 m σ (upd H acc (.lst []))) ∧ ∀ i m σ' H', W i m σ' H' → ((Itl K a).stop i H' ∧ Q (.ref acc) H') ∨ ((Itl K a).go i H' ∧ ∃ N : St → Hp → Prop, (∀ σ2 H2, N σ2 H2 → ∃ m', m' < m ∧ W (i + 1) m' σ2 H2) ∧
      ∀ x H2, (Itl K a).yld i H' x H2 → g x σ' H2 (blk acc tc te N)) := by
  refine ⟨fun i m σ H => m = xs.length - i ∧ i ≤ xs.length ∧ Pv i σ H, ⟨_, rfl, Nat.zero_le _, h0⟩, ?_⟩
  rintro i m σ' H' ⟨rfl, hi, p⟩
  have q := hl i σ' H' hi p
  by_cases hlt : i < xs.length
  · refine .inr ⟨⟨xs, xs[i], q, by simp [hlt]⟩, Pv (i + 1), fun σ2 H2 p' => ⟨xs.length - (i + 1), by omega, rfl, hlt, p'⟩, fun x H2 y => ?_⟩
    obtain ⟨e, y⟩ := y
    subst e
    exact hs i x σ' _ (y xs q) p
  · have e : i = xs.length := by omega
    subst e
    exact .inl ⟨⟨xs, q, Nat.le_refl _⟩, hd σ' H' p⟩
/-- for i, x in enumerate(xs) -/
theorem for_enum (Pv : Nat → St → Hp → Prop) (h0 : Pv 0 σ H) (hl : ∀ i σ H, i ≤ xs.length → Pv i σ H → SqL K H a xs)
    (hs : ∀ i x t σ H H', xs[i]? = some x → Pv i σ H → Same H H' → H' t = some (.tup [.int i, x]) → g (.ref t) σ H' fun σ2 H2 => tb { D with nx := Pv (i + 1), ct := Pv (i + 1), bk := D.nx } σ2 H2) (hd : ∀ σ H, Pv xs.length σ H → D.nx σ H) :
    ∃ W : Nat → Nat → St → Hp → Prop, (∃ m, W 0 m σ H) ∧ ∀ i m σ H, W i m σ H →
      ((Ite K a).stop i H ∧ D.nx σ H) ∨ ((Ite K a).go i H ∧ ∃ N : St → Hp → Prop, (∀ σ' H', N σ' H' → ∃ m', m' < m ∧ W (i + 1) m' σ' H') ∧ ∀ x H', (Ite K a).yld i H x H' → g x σ H' fun σ2 H2 => tb { D with nx := N, ct := N, bk := D.nx } σ2 H2) := by
  refine ⟨fun i m σ H => m = xs.length - i ∧ i ≤ xs.length ∧ Pv i σ H, ⟨_, rfl, Nat.zero_le _, h0⟩, ?_⟩
  rintro i m σ' H' ⟨rfl, hi, p⟩
  have q := hl i σ' H' hi p
  by_cases hlt : i < xs.length
  · refine .inr ⟨⟨xs, xs[i], q, by simp [hlt]⟩, Pv (i + 1), fun σ2 H2 p' => ⟨xs.length - (i + 1), by omega, rfl, hlt, p'⟩, fun v H2 y => ?_⟩
    obtain ⟨x, t, hx, rfl, ht, rfl⟩ := y
    exact hs i x t σ' H' _ (hx xs q) p (Same.new ht) upd_same
  · have e : i = xs.length := by omega
    subst e
    exact .inl ⟨⟨xs, q, Nat.le_refl _⟩, hd σ' H' p⟩
/-- for x, y in zip(xs, ys), as long as one another -/
theorem for_zip (hxy : xs.length = ys.length) (Pv : Nat → St → Hp → Prop) (h0 : Pv 0 σ H) (hl : ∀ i σ H, i ≤ xs.length → Pv i σ H → SqL K H a xs ∧ SqL K H b ys)
    (hs : ∀ i x y t σ H H', xs[i]? = some x → ys[i]? = some y → Pv i σ H → Same H H' → H' t = some (.tup [x, y]) → g (.ref t) σ H' fun σ2 H2 => tb { D with nx := Pv (i + 1), ct := Pv (i + 1), bk := D.nx } σ2 H2) (hd : ∀ σ H, Pv xs.length σ H → D.nx σ H) :
    ∃ W : Nat → Nat → St → Hp → Prop, (∃ m, W 0 m σ H) ∧ ∀ i m σ H, W i m σ H →
      ((Itz K a b).stop i H ∧ D.nx σ H) ∨ ((Itz K a b).go i H ∧ ∃ N : St → Hp → Prop, (∀ σ' H', N σ' H' → ∃ m', m' < m ∧ W (i + 1) m' σ' H') ∧ ∀ x H', (Itz K a b).yld i H x H' → g x σ H' fun σ2 H2 => tb { D with nx := N, ct := N, bk := D.nx } σ2 H2) := by
  refine ⟨fun i m σ H => m = xs.length - i ∧ i ≤ xs.length ∧ Pv i σ H, ⟨_, rfl, Nat.zero_le _, h0⟩, ?_⟩
  rintro i m σ' H' ⟨rfl, hi, p⟩
  obtain ⟨q1, q2⟩ := hl i σ' H' hi p
  by_cases hlt : i < xs.length
  · have hlt2 : i < ys.length := by omega
    refine .inr ⟨⟨xs, ys, xs[i], ys[i], q1, q2, by simp [hlt], by simp [hlt2]⟩, Pv (i + 1), fun σ2 H2 p' => ⟨xs.length - (i + 1), by omega, rfl, hlt, p'⟩, fun v H2 y => ?_⟩
    obtain ⟨x, y', t, hx, hy, rfl, ht, rfl⟩ := y
    exact hs i x y' t σ' H' _ (hx xs q1) (hy ys q2) p (Same.new ht) upd_same
  · have e : i = xs.length := by omega
    subst e
    exact .inl ⟨⟨xs, ys, q1, q2, .inl (Nat.le_refl _)⟩, hd σ' H' p⟩
end
end L2

end

section
set_option maxHeartbeats 1000000
/-! MORE BUILTINS: sum, any, all, sorted. -/
namespace L2
open PySem PySem.Spec PyProof.Rows
section
variable {X : Cx}
theorem vals_ints2 : ∀ {ns : List Int} {us : List Value}, Vals (ns.map V.int) us → IntsAre us ns
  | [], us, r => by
    cases r
    exact .nil
  | n :: ns, us, r => by
    cases r with
    | cons h r =>
      obtain ⟨t, rfl⟩ := h
      exact .cons n t (vals_ints2 r)
/-- sum(xs), of whole numbers -/
def rSum (K : PySem.W.Frag) : List V → Hp → VK → Prop := fun xs H Q => ∃ (p : Addr) (ns : List Int), xs = [.ref p] ∧ SqL K H p (ns.map V.int) ∧ Q (.int ns.sum) H
theorem call_sum (hc : X.calm = true) : CallR X (.builtin "sum") (rSum X.K) := by
  intro pins s σ H xs us Q I r h
  obtain ⟨p, ns, rfl, hq, q⟩ := h
  obtain ⟨u, rfl, rx⟩ := vals1 r
  cases rx
  obtain ⟨its, r', pl, hz⟩ := I.list hq
  have hi := vals_ints2 r'
  obtain ⟨ys, ey⟩ := hi.allInts.items
  have hl := pl.isList
  rw [ey] at hl
  refine sum_intListG (I.ok.hd hc) hl fun h' tk t' hk => ?_
  refine ⟨.int ns.sum, H, I.kept hk, ⟨t', ?_⟩, q⟩
  have e2 : numsOf its = ns := hi.numsOf
  have e3 := nums_intItems (xs := ys)
  rw [preSum_eq, List.take_of_length_le (by simp)]
  rw [← ey] at e3
  rw [show its.toArray.toList = its from rfl, e2] at e3
  rw [e3]
theorem bt_sum : bootBuiltins "sum" = some (.builtin "sum") := by decide +kernel
theorem bt_sorted : bootBuiltins "sorted" = some (.builtin "sorted") := by decide +kernel
/-- xs[i], read for xs[i] += .. -/
theorem get_list : PGet X (rIxL X.K) := by
  intro pins s σ H o i ov iv Q I rx ry h
  obtain ⟨p, xs, k, z, rfl, rfl, hq, he, q⟩ := h
  cases rx
  obtain ⟨t, rfl⟩ := ry
  obtain ⟨its, r, pl, hz⟩ := I.list hq
  obtain ⟨j, h1, h2, h3, h4, h5⟩ := atI_get he
  obtain ⟨w, ew, rw'⟩ := r.get h2
  have hl := r.length
  have hn := line63
  have done : EP X pins σ Q w s := ⟨z, H, I, rw', q⟩
  by_cases h0 : 0 ≤ k
  · have hj : k.toNat = j := by
      rw [seqIndex_of h0 h5] at h1
      exact Option.some.inj h1
    exact wpAny_getItem_list pl.isList h0 (by omega) (by rw [hj]; simpa using ew) done
  · have hj : (k + (its.toArray.size : Int)).toNat = j := by
      rw [seqIndex_neg (by omega) h4] at h1
      rw [List.size_toArray, ← hl]
      exact Option.some.inj h1
    exact wpAny_getItem_list_neg pl.isList (by omega) (by rw [List.size_toArray] <;> omega) (by omega) (by rw [hj]; simpa using ew) done
/-- int(i), int(b) -/
def rInt1 : List V → Hp → VK → Prop := fun xs H Q => (∃ i, xs = [.int i] ∧ Q (.int i) H) ∨ ∃ k, xs = [.bl k] ∧ Q (.int (if k then 1 else 0)) H
theorem ps_agS {pos : Pos} {o i e : Expr} {to ti te : TE} {tget : V → V → Hp → VK → Prop} {tip : TIp} {tset : TSet} {op : Operator} {tpos : Pos} (ho : PE X o to) (hi : PE X i ti) (hg : PGet X tget) (he : PE X e te) (hp : PIp X op tip) (hs : PSet X tset)
    (ha : ∀ ov iv new, augStore i ov iv new = (do holding [new, ov, iv] (setItem ov iv new); release [new, ov, iv] []; pure .next) := by intros; rfl) : PS X (.AugAssign (.Subscript o i tpos) op e pos) (tAugS to ti te tget tip tset) := ps_augS ho hi hg he hp hs ha
end
end L2

end

/-! LEAST SUMS OF TIMES: rounds over all roads; what holds behind them. -/
namespace Bf
section
variable {n st : Nat} {rs : List Ed}
theorem nodup_le : ∀ (n : Nat) (l : List Nat), l.Nodup → (∀ x ∈ l, x < n) → l.length ≤ n
  | 0, l, _, h => by
    cases l with
    | nil => simp
    | cons a l => exact absurd (h a (by simp)) (by omega)
  | n + 1, l, nd, h => by
    by_cases c : n ∈ l
    · have e := List.length_erase_of_mem c
      have q := nodup_le n (l.erase n) (nd.erase _) fun x hx => by
        have := (nd.mem_erase_iff).mp hx
        have := h x this.2
        omega
      have : 0 < l.length := List.length_pos_of_mem c
      omega
    · have q := nodup_le n l nd fun x hx => by
        have := h x hx
        have : x ≠ n := fun e => c (e ▸ hx)
        omega
      omega
end
end Bf

section
set_option maxHeartbeats 1000000
/-! MORE STEPS: blocks over enumerate and zip, +=, isinstance of a tuple wherever it lies; lists of things item by item; deep data. -/
namespace L2
open PySem PySem.Spec PyProof.Rows
/-! ### item by item -/
inductive All2 {α β : Type} (R : α → β → Prop) : List α → List β → Prop where
  | nil : All2 R [] []
  | cons {a : α} {b : β} {as : List α} {bs : List β} : R a b → All2 R as bs → All2 R (a :: as) (b :: bs)
namespace All2
variable {α β : Type} {R S : α → β → Prop} {as as' : List α} {bs bs' : List β}
theorem len (h : All2 R as bs) : as.length = bs.length := by
  induction h with
  | nil => rfl
  | cons _ _ ih => simp [ih]
theorem imp (f : ∀ a b, R a b → S a b) (h : All2 R as bs) : All2 S as bs := by
  induction h with
  | nil => exact .nil
  | cons r _ ih => exact .cons (f _ _ r) ih
theorem get (h : All2 R as bs) : ∀ {i : Nat} {a : α}, as[i]? = some a → ∃ b, bs[i]? = some b ∧ R a b := by
  induction h with
  | nil => intro i a e; simp at e
  | cons r _ ih =>
    intro i a e
    cases i with
    | zero => simp at e; subst e; exact ⟨_, rfl, r⟩
    | succ i => exact ih (by simpa using e)
theorem getR (h : All2 R as bs) : ∀ {i : Nat} {b : β}, bs[i]? = some b → ∃ a, as[i]? = some a ∧ R a b := by
  induction h with
  | nil => intro i a e; simp at e
  | cons r _ ih =>
    intro i a e
    cases i with
    | zero => simp at e; subst e; exact ⟨_, rfl, r⟩
    | succ i => exact ih (by simpa using e)
theorem append (h : All2 R as bs) (h' : All2 R as' bs') : All2 R (as ++ as') (bs ++ bs') := by
  induction h with
  | nil => exact h'
  | cons r _ ih => exact .cons r ih
theorem one {a : α} {b : β} (r : R a b) : All2 R [a] [b] := .cons r .nil
theorem push {a : α} {b : β} (h : All2 R as bs) (r : R a b) : All2 R (as ++ [a]) (bs ++ [b]) := h.append (one r)
theorem take (h : All2 R as bs) : ∀ n, All2 R (as.take n) (bs.take n) := by
  induction h with
  | nil => intro n; simp; exact .nil
  | cons r _ ih =>
    intro n
    cases n with
    | zero => exact .nil
    | succ n => exact .cons r (ih n)
theorem drop (h : All2 R as bs) : ∀ n, All2 R (as.drop n) (bs.drop n) := by
  induction h with
  | nil => intro n; simp; exact .nil
  | cons r t ih =>
    intro n
    cases n with
    | zero => exact .cons r t
    | succ n => exact ih n
theorem memL (h : All2 R as bs) {a : α} (m : a ∈ as) : ∃ b ∈ bs, R a b := by
  obtain ⟨i, hi, rfl⟩ := List.getElem_of_mem m
  obtain ⟨b, e, r⟩ := h.get (List.getElem?_eq_getElem hi)
  exact ⟨b, List.mem_of_getElem? e, r⟩
end All2
/-! ### deep data -/
def PD (n : Nat) (d : PyData) : Prop := d.canLay0 = true ∧ d.depth ≤ n
theorem PD.int {n : Nat} (i : Int) : PD n (.int i) := ⟨rfl, Nat.zero_le _⟩
theorem PD.bool {n : Nat} (i : Bool) : PD n (.bool i) := ⟨rfl, Nat.zero_le _⟩
theorem pdAll {n : Nat} : ∀ {ds : List PyData}, (∀ d ∈ ds, PD n d) → PyData.canLayAll0 ds = true ∧ PyData.depthAll ds ≤ n
  | [], _ => ⟨rfl, Nat.zero_le _⟩
  | d :: ds, h => by
    obtain ⟨a, b⟩ := h d (by simp)
    obtain ⟨c, e⟩ := pdAll (ds := ds) fun x hx => h x (List.mem_cons_of_mem _ hx)
    constructor
    · show (d.canLay0 && PyData.canLayAll0 ds) = true
      rw [a, c]
      rfl
    · show max d.depth (PyData.depthAll ds) ≤ n
      omega
theorem PD.list {n : Nat} {ds : List PyData} (h : ∀ d ∈ ds, PD n d) : PD (n + 1) (.list ds) := ⟨(pdAll h).1, Nat.succ_le_succ (pdAll h).2⟩
theorem PD.tuple {n : Nat} {ds : List PyData} (h : ∀ d ∈ ds, PD n d) : PD (n + 1) (.tuple ds) := ⟨(pdAll h).1, Nat.succ_le_succ (pdAll h).2⟩
theorem PD.shaped {n : Nat} {d : PyData} (h : PD n d) (hn : n ≤ 64 := by decide) : SeqAt.shaped d = true := by
  show (d.canLay0 && decide (d.depth ≤ 64)) = true
  rw [h.1, decide_eq_true (Nat.le_trans h.2 hn)]
  rfl
mutual
theorem eqv_self : ∀ (d : PyData), d.canLay0 = true → PyData.eqv d d = true
  | .none, _ => rfl
  | .bool b, _ => by show (b == b) = true; simp
  | .int b, _ => by show (b == b) = true; simp
  | .str b, _ => by show (b == b) = true; exact beq_self_eq_true b
  | .list ds, h => eqvAll_self ds h
  | .tuple ds, h => eqvAll_self ds h
  | .dict _, h => by cases h
theorem eqvAll_self : ∀ (ds : List PyData), PyData.canLayAll0 ds = true → PyData.eqvAll ds ds = true
  | [], _ => rfl
  | d :: ds, h => by
    have h' : (d.canLay0 && PyData.canLayAll0 ds) = true := h
    rw [Bool.and_eq_true] at h'
    show (PyData.eqv d d && PyData.eqvAll ds ds) = true
    rw [eqv_self d h'.1, eqvAll_self ds h'.2]
    rfl
end
theorem rps_of {K : PySem.W.Frag} {H : Hp} {xs : List V} {ds : List PyData} (h : All2 (Rp K H) xs ds) : Rps K H xs ds := by
  induction h with
  | nil => exact .nil
  | cons r _ ih => exact .cons r ih
theorem s_neSame {K : PySem.W.Frag} {H : Hp} {Q : VK} {x y : V} {d : PyData} {n : Nat} (h1 : Rp K H x d) (h2 : Rp K H y d) (p : PD n d) (q : Q (.bl false) H) (hn : n ≤ 64 := by decide) : rNeA K x y H Q :=
  .inr (.inl ⟨d, d, h1, h2, p.shaped hn, p.shaped hn, by rw [eqv_self d p.1]; exact q⟩)
/-- a list of some against an empty one -/
theorem s_neNil {K : PySem.W.Frag} {H : Hp} {Q : VK} {x y : V} {ds : List PyData} {n : Nat} (h1 : Rp K H x (.list ds)) (h2 : Rp K H y (.list [])) (p : PD n (.list ds)) (q : Q (.bl (!decide (ds = []))) H) (hn : n ≤ 64 := by decide) : rNeA K x y H Q := by
  refine .inr (.inl ⟨_, _, h1, h2, p.shaped hn, rfl, ?_⟩)
  cases ds with
  | nil => exact q
  | cons d ds => exact q
/-! ### isinstance of a tuple wherever it lies -/
section
variable {X : Cx}
def rIsiS (K : PySem.W.Frag) : List V → Hp → VK → Prop := fun xs H Q => rIsi K xs H Q ∨ ∃ p ys, xs = [.ref p, .ty "tuple"] ∧ SqT K H p ys ∧ Q (.bl true) H
theorem call_isiS2 : CallR X (.builtin "isinstance") (fun xs H Q => ∃ p ys, xs = [.ref p, .ty "tuple"] ∧ SqT X.K H p ys ∧ Q (.bl true) H) := by
  intro pins s σ H xs us Q I r h
  obtain ⟨p, ys, rfl, hq, q⟩ := h
  obtain ⟨u, v, rfl, ru, rv⟩ := vals2 r
  have ev := (ClsV.ty "tuple").rel rv
  subst ev
  cases (show u = Value.ref p from ru)
  obtain ⟨its, _, ⟨o, h1, h2, _⟩, _⟩ := I.tuple hq
  exact PySem.W.kia_one PySem.W.kitx_tuple I.kIn ⟨o, h1, h2⟩ kit_tt (fun z => nomatch z) fun tk => ⟨.bl true, H, I.tok tk, rfl, q⟩
theorem call_isiS : CallR X (.builtin "isinstance") (rIsiS X.K) := call_isi.or call_isiS2
theorem call_isiSK {K : PySem.W.Frag} (h : X.K = K) : CallR X (.builtin "isinstance") (rIsiS K) := h ▸ call_isiS
end
/-! ### steps -/
section
variable {K : PySem.W.Frag} {a b acc : Addr} {xs ys : List V} {g : TG} {tb : TS} {tc : TT} {te to ti : TE} {D : Ends} {σ : St} {H : Hp} {Q : VK}
theorem s_augS {tget : V → V → Hp → VK → Prop} {tip : TIp} {tset : TSet} (h : to σ H fun o H1 => ti σ H1 fun i H2 => tget o i H2 fun x H3 => te σ H3 fun y H4 => tip x y H4 fun z H5 => tset o i z H5 fun H6 => D.nx σ H6) : tAugS to ti te tget tip tset D σ H := h
theorem s_ipI {f : Int → Int → Int} {i j : Int} (q : Q (.int (f i j)) H) : ipI f (.int i) (.int j) H Q := ⟨i, j, rfl, rfl, q⟩
theorem s_int1 {k : Bool} (q : Q (.int (if k then 1 else 0)) H) : rInt1 [.bl k] H Q := .inr ⟨k, rfl, q⟩
theorem s_bm {T : String} {r : V → List V → Hp → VK → Prop} {t : TA} (h : to σ H fun x H1 => tyV K T x H1 ∧ t σ H1 fun xs H2 => r x xs H2 Q) : tBM K T r to t σ H Q := h
theorem s_bm0 {T : String} {r : V → List V → Hp → VK → Prop} (h : to σ H fun x H1 => tyV K T x H1 ∧ r x [] H1 Q) : tBM0 K T r to σ H Q := h
/-- the list as a receiver -/
theorem s_tyL {l : Addr} {P : Prop} (h : SqL K H l xs) (q : P) : tyV K "list" (.ref l) H ∧ P := ⟨.inl ⟨rfl, _, h⟩, q⟩
theorem s_app {l : Addr} {y : V} (h : H l = some (.lst xs)) (hl : xs.length < sizeLine) (q : Q .non (upd H l (.lst (xs ++ [y])))) : rAppend (.ref l) [y] H Q := ⟨l, xs, y, rfl, rfl, h, hl, q⟩
theorem s_pop {l : Addr} {y : V} (h : H l = some (.lst (xs ++ [y]))) (q : Q y (upd H l (.lst xs))) : rPop (.ref l) [] H Q := by
  refine ⟨l, xs ++ [y], y, rfl, rfl, h, by simp, ?_⟩
  rw [List.dropLast_concat]
  exact q
theorem s_inL {x : V} {p : Addr} {n : Bool} (h : SqL K H p xs) (hx : flatV x = true) (hf : xs.all flatV = true) (q : Q (.bl (if n then !inV x xs else inV x xs)) H) : rIn K n x (.ref p) H Q := ⟨p, xs, rfl, .inl h, hx, hf, q⟩
theorem inV_ints {v : Nat} {ns : List Nat} : inV (.int v) (ns.map fun (i : Nat) => V.int i) = decide (v ∈ ns) := by
  unfold inV
  rw [List.any_map, Bool.eq_iff_iff]
  simp only [List.any_eq_true, decide_eq_true_eq]
  constructor
  · rintro ⟨y, hy, e⟩
    have e : ((y : Int) == (v : Int)) = true := e
    have e : (y : Int) = (v : Int) := beq_iff_eq.mp e
    have : y = v := by omega
    exact this ▸ hy
  · intro h
    exact ⟨v, h, by show ((v : Int) == (v : Int)) = true; simp⟩
theorem flat_ints {ns : List Nat} : (ns.map fun (i : Nat) => V.int i).all flatV = true := by
  rw [List.all_map, List.all_eq_true]
  intro x _
  rfl
/-- a block's condition and its item -/
theorem blkC {N : St → Hp → Prop} (h : tc σ H fun ok H4 => if ok = true then te σ H4 fun v H5 => ∃ ys, H5 acc = some (.lst ys) ∧ ys.length < sizeLine ∧ N σ (upd H5 acc (.lst (ys ++ [v]))) else N σ H4) : blk acc tc te N σ H := h
theorem blkN {N : St → Hp → Prop} (h : te σ H fun v H5 => ∃ ys, H5 acc = some (.lst ys) ∧ ys.length < sizeLine ∧ N σ (upd H5 acc (.lst (ys ++ [v])))) : blk acc tNoIf te N σ H := show (if true = true then _ else N σ H) from iteT h
theorem compR {lo : Int} {n : Nat} (Pv : Nat → St → Hp → Prop) (h0 : Pv 0 σ (upd H acc (.lst []))) (hs : ∀ i σ H, i < n → Pv i σ H → g (.int (lo + i)) σ H (blk acc tc te (Pv (i + 1)))) (hd : ∀ σ H, Pv n σ H → Q (.ref acc) H) : CompW (Itr lo n) acc g tc te σ H Q := comp_range Pv h0 hs hd
theorem compL (Pv : Nat → St → Hp → Prop) (h0 : Pv 0 σ (upd H acc (.lst []))) (hl : ∀ i σ H, i ≤ xs.length → Pv i σ H → SqL K H a xs) (hs : ∀ i x σ H, xs[i]? = some x → Pv i σ H → g x σ H (blk acc tc te (Pv (i + 1)))) (hd : ∀ σ H, Pv xs.length σ H → Q (.ref acc) H) : CompW (Itl K a) acc g tc te σ H Q := comp_list Pv h0 hl hs hd
theorem compZ (hxy : xs.length = ys.length) (Pv : Nat → St → Hp → Prop) (h0 : Pv 0 σ (upd H acc (.lst []))) (hl : ∀ i σ H, i ≤ xs.length → Pv i σ H → SqL K H a xs ∧ SqL K H b ys)
    (hs : ∀ i x y t σ H H', xs[i]? = some x → ys[i]? = some y → Pv i σ H → Same H H' → H' t = some (.tup [x, y]) → g (.ref t) σ H' (blk acc tc te (Pv (i + 1)))) (hd : ∀ σ H, Pv xs.length σ H → Q (.ref acc) H) : CompW (Itz K a b) acc g tc te σ H Q := by
  refine ⟨fun i m σ H => m = xs.length - i ∧ i ≤ xs.length ∧ Pv i σ H, ⟨_, rfl, Nat.zero_le _, h0⟩, ?_⟩
  rintro i m σ' H' ⟨rfl, hi, p⟩
  obtain ⟨q1, q2⟩ := hl i σ' H' hi p
  by_cases hlt : i < xs.length
  · have hlt2 : i < ys.length := by omega
    refine .inr ⟨⟨xs, ys, xs[i], ys[i], q1, q2, by simp [hlt], by simp [hlt2]⟩, Pv (i + 1), fun σ2 H2 p' => ⟨xs.length - (i + 1), by omega, rfl, hlt, p'⟩, fun v H2 y => ?_⟩
    obtain ⟨x, y', t, hx, hy, rfl, ht, rfl⟩ := y
    exact hs i x y' t σ' H' _ (hx xs q1) (hy ys q2) p (Same.new ht) upd_same
  · have e : i = xs.length := by omega
    subst e
    exact .inl ⟨⟨xs, ys, q1, q2, .inl (Nat.le_refl _)⟩, hd σ' H' p⟩
end
end L2

end

section
set_option maxHeartbeats 1000000
/-! zip of three lists, as long as the first one, walked by a tuple of names. -/
namespace L2
open PySem PySem.Spec PyProof.Rows
abbrev IsTri (h : Heap) (T : Addr) (a b c : Value) : Prop := h.get? T = some { cls := .type "tuple", data := .seq #[a, b, c] }
structure Ap3 (z TI TO i1 i2 i3 l1 l2 l3 : Addr) : Prop where
  TIz : TI ≠ z
  TOz : TO ≠ z
  i1z : i1 ≠ z
  i2z : i2 ≠ z
  i3z : i3 ≠ z
  TITO : TI ≠ TO
  TIi1 : TI ≠ i1
  TIi2 : TI ≠ i2
  TIi3 : TI ≠ i3
  TOi1 : TO ≠ i1
  TOi2 : TO ≠ i2
  TOi3 : TO ≠ i3
  i1i2 : i1 ≠ i2
  i1i3 : i1 ≠ i3
  i2i3 : i2 ≠ i3
  l1z : l1 ≠ z
  l1TO : l1 ≠ TO
  l1i1 : l1 ≠ i1
  l1i2 : l1 ≠ i2
  l1i3 : l1 ≠ i3
  l2z : l2 ≠ z
  l2TO : l2 ≠ TO
  l2i1 : l2 ≠ i1
  l2i2 : l2 ≠ i2
  l2i3 : l2 ≠ i3
  l3z : l3 ≠ z
  l3TO : l3 ≠ TO
  l3i1 : l3 ≠ i1
  l3i2 : l3 ≠ i2
  l3i3 : l3 ≠ i3
section
variable {prog : Program} {w : World} {A : Around} {E : Value → Shared → Prop} {s : Shared}
theorem upd_tri {T : Addr} {a b c x : Value} {k : Nat} {Q : Unit → Shared → Prop} (hT : IsTri s.heap T a b c)
    (h : ∀ h', h'.get? T = some { cls := .type "tuple", data := .seq ((#[a, b, c] : Array Value).setIfInBounds k x) } → Heap.SameBut T s.heap h' → Q () { s with heap := h' }) :
    wpAny (model prog w) A (updateSeq T (·.setIfInBounds k x)) Q E s := by
  refine wpAny_updateSeq hT rfl (h _ ?_ (Heap.SameBut.update ..))
  rw [Heap.get?_update_self _ hT rfl]
  simp [Obj.mapSeq]
theorem zip3_item {z TI TO i1 i2 i3 l1 l2 l3 : Addr} {k : Nat} {xs ys zs : Array Value} {x y t a b c : Value} {Q : Value → Shared → Prop} (D : Ap3 z TI TO i1 i2 i3 l1 l2 l3)
    (hz : IsZip s.heap z TI TO .none) (hTI : IsTri s.heap TI (.ref i1) (.ref i2) (.ref i3)) (hTO : IsTri s.heap TO a b c)
    (h1 : s.heap.IsListIter i1 l1 k) (h2 : s.heap.IsListIter i2 l2 k) (h3 : s.heap.IsListIter i3 l3 k) (hl1 : s.heap.IsList l1 xs) (hl2 : s.heap.IsList l2 ys) (hl3 : s.heap.IsList l3 zs) (hx : xs[k]? = some x) (hy : ys[k]? = some y) (ht : zs[k]? = some t)
    (hQ : ∀ h', IsZip h' z TI TO (rawInt s.heap.objs.size) → IsTri h' TO x y t → h'.IsListIter i1 l1 (k + 1) → h'.IsListIter i2 l2 (k + 1) → h'.IsListIter i3 l3 (k + 1) → IsTri h' s.heap.objs.size x y t → h'.objs.size = s.heap.objs.size + 1 →
      (∀ d o, d ≠ z → d ≠ TO → d ≠ i1 → d ≠ i2 → d ≠ i3 → s.heap.get? d = some o → h'.get? d = some o) → Q (.ref s.heap.objs.size) { s with heap := h' }) :
    wpAny (model prog w) A (Builtin.«zip.__next__» ⟨[.ref z], []⟩) (fun fin s' => ∃ v, fin = .done (.ret v) ∧ Q v s') E s := by
  show wpAny _ _ (field (.ref z) 2 >>= _) _ _ _
  refine wpAny_bind (wpAny_field hz rfl (x := .bool false) rfl ?_)
  show wpAny _ _ (field (.ref z) 3 >>= _) _ _ _
  refine wpAny_bind (wpAny_field hz rfl (x := .ref TI) rfl ?_)
  refine wpAny_bind (wpAny_seqItems hTI rfl ?_)
  show wpAny _ _ (Builtin.SmallTypes.ownedTupleIsFree (.ref z) >>= _) _ _ _
  refine wpAny_bind ?_
  unfold Builtin.SmallTypes.ownedTupleIsFree
  refine wpAny_bind (wpAny_field hz rfl (x := .none) rfl (wpAny_pure ?_))
  simp only [if_true]
  refine wpAny_bind (wpAny_rule ?_)
  refine wpAny_bind (wpAny_field hz rfl (x := .ref TO) rfl ?_)
  refine wpAny_bind (wpAny_setField_rec hz (by simp) fun g1 hz1 s1 => ?_)
  replace hz1 : IsZip g1 z TI TO .ellipsis := hz1
  refine wpAny_bind ?_
  simp only [List.zipIdx_cons, List.zipIdx_nil, List.forIn_cons, List.forIn_nil]
  have K1 : ∀ d o, d ≠ z → s.heap.get? d = some o → g1.get? d = some o := fun d o e q => s1.extBut _ _ e q
  -- the first
  refine wpAny_bind (wpAny_bind (wpAny_onRaise ?_))
  show wpAny _ _ (Builtin.SmallTypes.nextOf (.ref i1) >>= _) _ _ _
  refine wpAny_bind (wpAny_nextOf_list_item (h1.extBut s1.extBut D.i1z) (hl1.extBut s1.extBut D.l1z) hx fun g2 n1 s2 => wpAny_pure ?_)
  have T2 : IsTri g2 TO a b c := s2.extBut _ _ D.TOi1 (s1.extBut _ _ D.TOz hTO)
  refine wpAny_bind (wpAny_seqItems T2 rfl ?_)
  refine wpAny_bind (upd_tri T2 fun g3 T3 s3 => ?_)
  replace T3 : IsTri g3 TO x b c := T3
  refine wpAny_bind (wpAny_letGo (wpAny_pure ?_))
  -- the second
  refine wpAny_bind (wpAny_bind (wpAny_onRaise ?_))
  show wpAny _ _ (Builtin.SmallTypes.nextOf (.ref i2) >>= _) _ _ _
  refine wpAny_bind (wpAny_nextOf_list_item (((h2.extBut s1.extBut D.i2z).extBut s2.extBut D.i1i2.symm).extBut s3.extBut D.TOi2.symm)
    (((hl2.extBut s1.extBut D.l2z).extBut s2.extBut D.l2i1).extBut s3.extBut D.l2TO) hy fun g4 n2 s4 => wpAny_pure ?_)
  have T4 : IsTri g4 TO x b c := s4.extBut _ _ D.TOi2 T3
  refine wpAny_bind (wpAny_seqItems T4 rfl ?_)
  refine wpAny_bind (upd_tri T4 fun g5 T5 s5 => ?_)
  replace T5 : IsTri g5 TO x y c := T5
  refine wpAny_bind (wpAny_letGo (wpAny_pure ?_))
  -- the third
  refine wpAny_bind (wpAny_bind (wpAny_onRaise ?_))
  show wpAny _ _ (Builtin.SmallTypes.nextOf (.ref i3) >>= _) _ _ _
  refine wpAny_bind (wpAny_nextOf_list_item (((((h3.extBut s1.extBut D.i3z).extBut s2.extBut D.i1i3.symm).extBut s3.extBut D.TOi3.symm).extBut s4.extBut D.i2i3.symm).extBut s5.extBut D.TOi3.symm)
    (((((hl3.extBut s1.extBut D.l3z).extBut s2.extBut D.l3i1).extBut s3.extBut D.l3TO).extBut s4.extBut D.l3i2).extBut s5.extBut D.l3TO) ht fun g6 n3 s6 => wpAny_pure ?_)
  have T6 : IsTri g6 TO x y c := s6.extBut _ _ D.TOi3 T5
  refine wpAny_bind (wpAny_seqItems T6 rfl ?_)
  refine wpAny_bind (upd_tri T6 fun g7 T7 s7 => ?_)
  replace T7 : IsTri g7 TO x y t := T7
  refine wpAny_bind (wpAny_letGo (wpAny_pure (wpAny_pure ?_)))
  refine wpAny_bind (wpAny_seqItems T7 rfl ?_)
  refine wpAny_bind (wpAny_newTuple ?_)
  have hsz : g7.objs.size = s.heap.objs.size := by rw [s7.1, s6.1, s5.1, s4.1, s3.1, s2.1, s1.1]
  have z7 : IsZip g7 z TI TO .ellipsis := s7.extBut _ _ D.TOz.symm (s6.extBut _ _ D.i3z.symm (s5.extBut _ _ D.TOz.symm (s4.extBut _ _ D.i2z.symm (s3.extBut _ _ D.TOz.symm (s2.extBut _ _ D.i1z.symm hz1)))))
  have k7 : ∀ d o, d ≠ z → d ≠ TO → d ≠ i1 → d ≠ i2 → d ≠ i3 → s.heap.get? d = some o → g7.get? d = some o := fun d o c1 c2 c3 c4 c5 e =>
    s7.extBut _ _ c2 (s6.extBut _ _ c5 (s5.extBut _ _ c2 (s4.extBut _ _ c4 (s3.extBut _ _ c2 (s2.extBut _ _ c3 (K1 _ _ c1 e))))))
  have m1 : g7.IsListIter i1 l1 (k + 1) := ((((n1.extBut s3.extBut D.TOi1.symm).extBut s4.extBut D.i1i2).extBut s5.extBut D.TOi1.symm).extBut s6.extBut D.i1i3).extBut s7.extBut D.TOi1.symm
  have m2 : g7.IsListIter i2 l2 (k + 1) := ((n2.extBut s5.extBut D.TOi2.symm).extBut s6.extBut D.i2i3).extBut s7.extBut D.TOi2.symm
  have m3 : g7.IsListIter i3 l3 (k + 1) := n3.extBut s7.extBut D.TOi3.symm
  have zlt : z < g7.objs.size := Heap.lt_size z7
  show wpAny _ _ (Builtin.SmallTypes.ownedTupleHandOut (.ref z) (.ref g7.objs.size) >>= _) _ _ _
  refine wpAny_bind ?_
  unfold Builtin.SmallTypes.ownedTupleHandOut
  have z8 : IsZip (g7.push { cls := .type "tuple", data := .seq #[x, y, t] }) z TI TO .ellipsis := Heap.get?_push_of_some _ z7
  refine wpAny_bind (wpAny_setField_rec z8 (by simp) fun g8 z9 s8 => ?_)
  replace z9 : IsZip g8 z TI TO (rawInt g7.objs.size) := z9
  refine wpAny_setField_rec z9 (by simp) fun g9 z10 s9 => ?_
  replace z10 : IsZip g9 z TI TO (rawInt g7.objs.size) := z10
  have up : ∀ d o, d ≠ z → g7.get? d = some o → g9.get? d = some o := fun d o c1 e => s9.extBut _ _ c1 (s8.extBut _ _ c1 (Heap.get?_push_of_some _ e))
  have hT : IsTri g9 g7.objs.size x y t := s9.extBut _ _ (Nat.ne_of_gt zlt) (s8.extBut _ _ (Nat.ne_of_gt zlt) (Heap.get?_push_size _ rfl))
  have hs9 : g9.objs.size = g7.objs.size + 1 := by rw [s9.1, s8.1, Heap.size_push]
  rw [hsz] at z10 hT hs9
  refine wpAny_pure ⟨_, rfl, ?_⟩
  show Q (.ref g7.objs.size) _
  rw [hsz]
  exact hQ g9 z10 (up _ _ D.TOz T7) (m1.at fun o e => up _ o D.i1z e) (m2.at fun o e => up _ o D.i2z e) (m3.at fun o e => up _ o D.i3z e) hT hs9 fun d o c1 c2 c3 c4 c5 e => up d o c1 (k7 d o c1 c2 c3 c4 c5 e)
/-- the first one is at its end -/
theorem zip3_end {z TI TO i1 i2 i3 l1 l2 l3 : Addr} {k : Nat} {xs : Array Value} {Q : Fin → Shared → Prop} (hh : A.handled = none) (D : Ap3 z TI TO i1 i2 i3 l1 l2 l3)
    (hz : IsZip s.heap z TI TO .none) (hTI : IsTri s.heap TI (.ref i1) (.ref i2) (.ref i3)) (h1 : s.heap.IsListIter i1 l1 k) (hl1 : s.heap.IsList l1 xs) (hx : xs[k]? = none)
    (hE : ∀ h' e, (∀ d o, d ≠ z → d ≠ i1 → s.heap.get? d = some o → h'.get? d = some o) → (∃ o, h'.get? e = some o ∧ o.cls = .type "StopIteration") → E (.ref e) { s with heap := h' }) :
    wpAny (model prog w) A (Builtin.«zip.__next__» ⟨[.ref z], []⟩) Q E s := by
  show wpAny _ _ (field (.ref z) 2 >>= _) _ _ _
  refine wpAny_bind (wpAny_field hz rfl (x := .bool false) rfl ?_)
  show wpAny _ _ (field (.ref z) 3 >>= _) _ _ _
  refine wpAny_bind (wpAny_field hz rfl (x := .ref TI) rfl ?_)
  refine wpAny_bind (wpAny_seqItems hTI rfl ?_)
  show wpAny _ _ (Builtin.SmallTypes.ownedTupleIsFree (.ref z) >>= _) _ _ _
  refine wpAny_bind ?_
  unfold Builtin.SmallTypes.ownedTupleIsFree
  refine wpAny_bind (wpAny_field hz rfl (x := .none) rfl (wpAny_pure ?_))
  simp only [if_true]
  refine wpAny_bind (wpAny_rule ?_)
  refine wpAny_bind (wpAny_field hz rfl (x := .ref TO) rfl ?_)
  refine wpAny_bind (wpAny_setField_rec hz (by simp) fun g1 hz1 s1 => ?_)
  replace hz1 : IsZip g1 z TI TO .ellipsis := hz1
  refine wpAny_bind ?_
  simp only [List.zipIdx_cons, List.zipIdx_nil, List.forIn_cons, List.forIn_nil]
  refine wpAny_bind (wpAny_bind (wpAny_onRaise ?_))
  show wpAny _ _ (Builtin.SmallTypes.nextOf (.ref i1) >>= _) _ _ _
  refine wpAny_bind (wpAny_nextOf_list_end hh (h1.extBut s1.extBut D.i1z) (hl1.extBut s1.extBut D.l1z) hx fun g2 e s2 he => ?_)
  obtain ⟨oe, hoe, hce⟩ := he
  have z2 : IsZip g2 z TI TO .ellipsis := s2 _ _ D.i1z.symm hz1
  have hez : e ≠ z := fun x => by subst x; rw [z2] at hoe; cases hoe; simp at hce
  exact wpAny_setField_rec z2 (by simp) fun g3 _ s3 => hE g3 e (fun d o c1 c3 x => s3.extBut _ _ c1 (s2 _ _ c3 (s1.extBut _ _ c1 x))) ⟨oe, s3.extBut _ _ hez hoe, hce⟩
theorem next_zip3_item {z TI TO i1 i2 i3 l1 l2 l3 : Addr} {k : Nat} {xs ys zs : Array Value} {x y t a b c : Value} {Q : Option Value → Shared → Prop} (D : Ap3 z TI TO i1 i2 i3 l1 l2 l3)
    (hz : IsZip s.heap z TI TO .none) (hTI : IsTri s.heap TI (.ref i1) (.ref i2) (.ref i3)) (hTO : IsTri s.heap TO a b c)
    (h1 : s.heap.IsListIter i1 l1 k) (h2 : s.heap.IsListIter i2 l2 k) (h3 : s.heap.IsListIter i3 l3 k) (hl1 : s.heap.IsList l1 xs) (hl2 : s.heap.IsList l2 ys) (hl3 : s.heap.IsList l3 zs) (hx : xs[k]? = some x) (hy : ys[k]? = some y) (ht : zs[k]? = some t)
    (hQ : ∀ h', IsZip h' z TI TO (rawInt s.heap.objs.size) → IsTri h' TO x y t → h'.IsListIter i1 l1 (k + 1) → h'.IsListIter i2 l2 (k + 1) → h'.IsListIter i3 l3 (k + 1) → IsTri h' s.heap.objs.size x y t → h'.objs.size = s.heap.objs.size + 1 →
      (∀ d o, d ≠ z → d ≠ TO → d ≠ i1 → d ≠ i2 → d ≠ i3 → s.heap.get? d = some o → h'.get? d = some o) → Q (some (.ref s.heap.objs.size)) { s with heap := h' }) :
    wpAny (model prog w) A (pyNext (.ref z)) Q E s := by
  have hT : s.TypeIs (.ref z) "zip" := ⟨_, hz, rfl⟩
  unfold pyNext
  exact wpAny_bind (wpAny_attempt (wpAny_callSpecial?_slot (name := Str.ofString "__next__") hT F.slot_zip_next
    (wpAny_call_entry F.slot_zip_next hT F.entry_zip_next
      (zip3_item D hz hTI hTO h1 h2 h3 hl1 hl2 hl3 hx hy ht fun h' a1 a2 a3 a4 a5 a6 a7 a8 => wpAny_pure (hQ h' a1 a2 a3 a4 a5 a6 a7 a8)) (F.args_zip_next_1 _))))
theorem next_zip3_end {z TI TO i1 i2 i3 l1 l2 l3 : Addr} {k : Nat} {xs : Array Value} {Q : Option Value → Shared → Prop} (hh : A.handled = none) (D : Ap3 z TI TO i1 i2 i3 l1 l2 l3)
    (hz : IsZip s.heap z TI TO .none) (hTI : IsTri s.heap TI (.ref i1) (.ref i2) (.ref i3)) (h1 : s.heap.IsListIter i1 l1 k) (hl1 : s.heap.IsList l1 xs) (hx : xs[k]? = none)
    (hQ : ∀ h', (∀ d o, d ≠ z → d ≠ i1 → s.heap.get? d = some o → h'.get? d = some o) → Q none { s with heap := h' }) : wpAny (model prog w) A (pyNext (.ref z)) Q E s := by
  have hT : s.TypeIs (.ref z) "zip" := ⟨_, hz, rfl⟩
  unfold pyNext
  refine wpAny_bind (wpAny_attempt (wpAny_callSpecial?_slot (name := Str.ofString "__next__") hT F.slot_zip_next
    (wpAny_call_entry F.slot_zip_next hT F.entry_zip_next (zip3_end hh D hz hTI h1 hl1 hx fun h' e hk he => ?_) (F.args_zip_next_1 _))))
  obtain ⟨o, ho, hc⟩ := he
  refine wpAny_bind (wpAny_isInstance (T := "StopIteration") (b := true) ⟨o, ho, hc⟩ isSubtype_stop ?_)
  exact wpAny_pure (hQ _ hk)
end
theorem typeCall_zip3 (a b c : Value) : checkTypeCall "zip" ⟨[a, b, c], []⟩ = pure () := by kernel_rfl
theorem newCall_zip3 (a b c : Value) : checkBuiltinCall "zip.__new__" ⟨[.type "zip", a, b, c], []⟩ = pure () := by kernel_rfl
theorem args_oinit4 (a b c d : Value) : argsOk "object.__init__" ⟨[a, b, c, d], []⟩ := by
  unfold argsOk; rw [signature?_of (id := "object.__init__") (n := ['_', '_', 't', 'i', 'n', 'i', '_', '_']) (o := ['t', 'c', 'e', 'j', 'b', 'o']) (by kernel_rfl) F.owner_object]; kernel_rfl
abbrev zh1 (h : Heap) (l1 : Addr) : Heap := h.push { cls := .type "list_iterator", data := .fields #[.ref l1, .int 0 0] }
abbrev zh2 (h : Heap) (l1 l2 : Addr) : Heap := (zh1 h l1).push { cls := .type "list_iterator", data := .fields #[.ref l2, .int 0 0] }
abbrev zh3 (h : Heap) (l1 l2 l3 : Addr) : Heap := (zh2 h l1 l2).push { cls := .type "list_iterator", data := .fields #[.ref l3, .int 0 0] }
abbrev zh4 (h : Heap) (l1 l2 l3 : Addr) : Heap := (zh3 h l1 l2 l3).push { cls := .type "tuple", data := .seq #[.ref h.objs.size, .ref (zh1 h l1).objs.size, .ref (zh2 h l1 l2).objs.size] }
abbrev zh5 (h : Heap) (l1 l2 l3 : Addr) : Heap := (zh4 h l1 l2 l3).push { cls := .type "tuple", data := .seq #[.none, .none, .none] }
abbrev zh6 (h : Heap) (l1 l2 l3 : Addr) : Heap := (zh5 h l1 l2 l3).push { cls := .type "zip", data := .fields #[.none, .bool false, .bool false, .ref (zh3 h l1 l2 l3).objs.size, .ref (zh4 h l1 l2 l3).objs.size] }
theorem meets_zip3 (l1 l2 l3 : Addr) (xs ys zs : Array Value) :
    Meets (Builtin.«zip.__new__» ⟨[.type "zip", .ref l1, .ref l2, .ref l3], []⟩) (fun _ R s => s.heap.IsList l1 xs ∧ s.heap.IsList l2 ys ∧ s.heap.IsList l3 zs ∧
      R (.ok (.ret (.ref (zh5 s.heap l1 l2 l3).objs.size))) { s with heap := zh6 s.heap l1 l2 l3 }) :=
  .of_wp fun prog w A R s h => by
    obtain ⟨hp, g, d, tk, os⟩ := s; obtain ⟨hl1, hl2, hl3, h⟩ := h
    have hsub := sub_zip
    have hL1 : Heap.IsList (Shared.heap ⟨hp, g, d, tk, os⟩) l1 xs := hl1
    have hL2 : Heap.IsList (Shared.heap ⟨hp.push { cls := .type "list_iterator", data := .fields #[.ref l1, .int 0 0] }, g, d, tk, os⟩) l2 ys := Heap.IsList.push hl2 _
    have hL3 : Heap.IsList (Shared.heap ⟨(hp.push { cls := .type "list_iterator", data := .fields #[.ref l1, .int 0 0] }).push { cls := .type "list_iterator", data := .fields #[.ref l2, .int 0 0] }, g, d, tk, os⟩) l3 zs := Heap.IsList.push (Heap.IsList.push hl3 _) _
    wp_walk using wpAny_pyIter_list hL1, wpAny_pyIter_list hL2, wpAny_pyIter_list hL3
    exact ⟨_, rfl, h⟩
section
variable {prog : Program} {w : World} {A : Around} {E : Value → Shared → Prop} {s : Shared}
theorem call_zip3 {l1 l2 l3 : Addr} {xs ys zs : Array Value} {Q : Value → Shared → Prop} (hl1 : s.heap.IsList l1 xs) (hl2 : s.heap.IsList l2 ys) (hl3 : s.heap.IsList l3 zs)
    (h : ∀ h', IsZip h' (s.heap.objs.size + 5) (s.heap.objs.size + 3) (s.heap.objs.size + 4) .none → IsTri h' (s.heap.objs.size + 3) (.ref s.heap.objs.size) (.ref (s.heap.objs.size + 1)) (.ref (s.heap.objs.size + 2)) →
      IsTri h' (s.heap.objs.size + 4) .none .none .none → h'.IsListIter s.heap.objs.size l1 0 → h'.IsListIter (s.heap.objs.size + 1) l2 0 → h'.IsListIter (s.heap.objs.size + 2) l3 0 →
      (∀ c o, s.heap.get? c = some o → h'.get? c = some o) → Q (.ref (s.heap.objs.size + 5)) { s with heap := h' }) :
    wpAny (model prog w) A (call (.type "zip") [.ref l1, .ref l2, .ref l3]) Q E s := by
  refine callType_new F.called_zip (by decide) (typeCall_zip3 _ _ _) (newCall_zip3 _ _ _) (fun obj => args_oinit4 obj _ _ _) F.entry_zip_new
    (meets_zip3 l1 l2 l3 xs ys zs) ⟨hl1, hl2, hl3, ?_⟩
  have z1 : (zh1 s.heap l1).objs.size = s.heap.objs.size + 1 := Heap.size_push ..
  have z2 : (zh2 s.heap l1 l2).objs.size = s.heap.objs.size + 2 := by rw [Heap.size_push, z1]
  have z3 : (zh3 s.heap l1 l2 l3).objs.size = s.heap.objs.size + 3 := by rw [Heap.size_push, z2]
  have z4 : (zh4 s.heap l1 l2 l3).objs.size = s.heap.objs.size + 4 := by rw [Heap.size_push, z3]
  have z5 : (zh5 s.heap l1 l2 l3).objs.size = s.heap.objs.size + 5 := by rw [Heap.size_push, z4]
  have g6 : (zh6 s.heap l1 l2 l3).get? (zh5 s.heap l1 l2 l3).objs.size = some _ := Heap.get?_push_size _ rfl
  have g5 : (zh6 s.heap l1 l2 l3).get? (zh4 s.heap l1 l2 l3).objs.size = some _ := Heap.get?_push_of_some _ (Heap.get?_push_size _ rfl)
  have g4 : (zh6 s.heap l1 l2 l3).get? (zh3 s.heap l1 l2 l3).objs.size = some _ := Heap.get?_push_of_some _ (Heap.get?_push_of_some _ (Heap.get?_push_size _ rfl))
  have g3 : (zh6 s.heap l1 l2 l3).get? (zh2 s.heap l1 l2).objs.size = some _ := Heap.get?_push_of_some _ (Heap.get?_push_of_some _ (Heap.get?_push_of_some _ (Heap.get?_push_size _ rfl)))
  have g2 : (zh6 s.heap l1 l2 l3).get? (zh1 s.heap l1).objs.size = some _ := Heap.get?_push_of_some _ (Heap.get?_push_of_some _ (Heap.get?_push_of_some _ (Heap.get?_push_of_some _ (Heap.get?_push_size _ rfl))))
  have g1 : (zh6 s.heap l1 l2 l3).get? s.heap.objs.size = some _ := Heap.get?_push_of_some _ (Heap.get?_push_of_some _ (Heap.get?_push_of_some _ (Heap.get?_push_of_some _ (Heap.get?_push_of_some _ (Heap.get?_push_size _ rfl)))))
  show _ ∧ _
  rw [z3, z4, z5] at g6
  rw [z1, z2, z3] at g4
  rw [z4] at g5
  rw [z2] at g3
  rw [z1] at g2
  rw [z5]
  exact ⟨⟨_, g6, rfl⟩, h _ g6 g4 g5 ⟨_, g1, rfl, rfl⟩ ⟨_, g2, rfl, rfl⟩ ⟨_, g3, rfl, rfl⟩ fun c o x =>
    Heap.get?_push_of_some _ (Heap.get?_push_of_some _ (Heap.get?_push_of_some _ (Heap.get?_push_of_some _ (Heap.get?_push_of_some _ (Heap.get?_push_of_some _ x)))))⟩
end
def Itw (K : PySem.W.Frag) (a b c : Addr) : It :=
  ⟨fun i H => ∃ xs ys zs x y z, SqL K H a xs ∧ SqL K H b ys ∧ SqL K H c zs ∧ xs[i]? = some x ∧ ys[i]? = some y ∧ zs[i]? = some z,
    fun i H v H' => ∃ x y z t, (∀ xs, SqL K H a xs → xs[i]? = some x) ∧ (∀ ys, SqL K H b ys → ys[i]? = some y) ∧ (∀ zs, SqL K H c zs → zs[i]? = some z) ∧ v = .ref t ∧ H t = none ∧ H' = upd H t (.tup [x, y, z]),
    fun i H => ∃ xs, SqL K H a xs ∧ xs.length ≤ i⟩
theorem turn_zip3 {P : Program} {w : World} {K : PySem.W.Frag} {elts : List Expr} {k} {tp : Pos} (a b c z TI TO i1 i2 i3 : Addr) (D : Ap3 z TI TO i1 i2 i3 a b c) :
    Turn P w K (.Tuple elts k tp) (Itw K a b c) [z, TI, TO, i1, i2, i3] z (fun i h => IsZip h z TI TO .none ∧ IsTri h TI (.ref i1) (.ref i2) (.ref i3) ∧ (∃ u v q, IsTri h TO u v q) ∧ h.IsListIter i1 a i ∧ h.IsListIter i2 b i ∧ h.IsListIter i3 c i) where
  mem := by simp
  obj := fun i h st d hd => by
    obtain ⟨hz, hTI, ⟨u, v, q, hTO⟩, ⟨o1, e1, _, d1⟩, ⟨o2, e2, _, d2⟩, ⟨o3, e3, _, d3⟩⟩ := st
    simp only [List.mem_cons, List.not_mem_nil, or_false] at hd
    rcases hd with rfl | rfl | rfl | rfl | rfl | rfl
    · exact ⟨_, hz, fun v z => by cases z⟩
    · exact ⟨_, hTI, fun v z => by cases z⟩
    · exact ⟨_, hTO, fun v z => by cases z⟩
    · exact ⟨o1, e1, fun v z => by rw [d1] at z; cases z⟩
    · exact ⟨o2, e2, fun v z => by rw [d2] at z; cases z⟩
    · exact ⟨o3, e3, fun v z => by rw [d3] at z; cases z⟩
  keep := fun i h h' st kk => by
    obtain ⟨hz, hTI, ⟨u, v, q, hTO⟩, h1, h2, h3⟩ := st
    exact ⟨kk z (by simp) _ hz, kk TI (by simp) _ hTI, ⟨u, v, q, kk TO (by simp) _ hTO⟩, h1.at fun o q => kk i1 (by simp) o q, h2.at fun o q => kk i2 (by simp) o q, h3.at fun o q => kk i3 (by simp) o q⟩
  item := by
    intro X hP hw hK hc i pins s σ H E I hf st hg
    subst hP hw hK
    obtain ⟨xs, ys, zs, x, y, t, hq1, hq2, hq3, hx, hy, ht⟩ := hg
    obtain ⟨hz, hTI, ⟨u0, v0, q0, hTO⟩, h1, h2, h3⟩ := st
    obtain ⟨its, rv, p, _⟩ := I.list hq1
    obtain ⟨its2, rv2, p2, _⟩ := I.list hq2
    obtain ⟨its3, rv3, p3, _⟩ := I.list hq3
    obtain ⟨u, hu, ru⟩ := rv.get hx
    obtain ⟨v, hv, rv'⟩ := rv2.get hy
    obtain ⟨r, hr, rr⟩ := rv3.get ht
    refine next_zip3_item D hz hTI hTO h1 h2 h3 p.isList p2.isList p3.isList (x := u) (y := v) (t := r) (by simpa using hu) (by simpa using hv) (by simpa using hr) fun h' z1 to1 j1 j2 j3 hT hsz kp => ?_
    refine ⟨_, rfl, wpAny_letOwnedTupleGo_zip (s := { s with heap := h' }) z1 fun h'' zz sb => ?_⟩
    have lt : ∀ {c o}, s.heap.get? c = some o → s.heap.objs.size ≠ c := fun q => Nat.ne_of_gt (Heap.lt_size q)
    have nz : s.heap.objs.size ≠ z := lt hz
    have ht2 : h''.get? s.heap.objs.size = some { cls := .type "tuple", data := .seq #[u, v, r] } := sb.extBut _ _ nz hT
    refine ⟨.ref s.heap.objs.size, upd H s.heap.objs.size (.tup [x, y, t]), ?_, rfl, ⟨x, y, t, _, fun ys hy => by rw [I.list_inj hy hq1]; exact hx, fun zs hz' => by rw [I.list_inj hz' hq2]; exact hy, fun zs hz' => by rw [I.list_inj hz' hq3]; exact ht, rfl, I.hok.fresh (Nat.le_refl _), rfl⟩,
      ⟨zz, sb.extBut _ _ D.TIz (kp _ _ D.TIz D.TITO D.TIi1 D.TIi2 D.TIi3 hTI), ⟨_, _, _, sb.extBut _ _ D.TOz to1⟩, j1.extBut sb.extBut D.i1z, j2.extBut sb.extBut D.i2z, j3.extBut sb.extBut D.i3z⟩, fun c hc => ?_⟩
    · exact I.yields (ch := [z, TI, TO, i1, i2, i3]) (tk := s.toks) hf (fun c o hc q => sb.extBut c o (fun e => hc (by simp [e])) (kp c o (fun e => hc (by simp [e])) (fun e => hc (by simp [e])) (fun e => hc (by simp [e])) (fun e => hc (by simp [e])) (fun e => hc (by simp [e])) q)) (Nat.le_refl _) (us := [u, v, r]) (.cons ru (.cons rv' (.cons rr .nil))) (by show 3 ≤ sizeLine; decide) ⟨_, ht2, rfl, _, rfl⟩
    · have hc' : s.heap.objs.size ≠ c := by
        simp only [List.mem_cons, List.not_mem_nil, or_false] at hc
        rcases hc with rfl | rfl | rfl | rfl | rfl | rfl
        · exact nz
        · exact lt hTI
        · exact lt hTO
        · obtain ⟨o, q, _⟩ := h1
          exact lt q
        · obtain ⟨o, q, _⟩ := h2
          exact lt q
        · obtain ⟨o, q, _⟩ := h3
          exact lt q
      rw [upd_ne (Ne.symm hc')]
      exact (hf c hc).1
  done := by
    intro X hP hw hK hc i pins s σ H E I hf st hg
    subst hP hw hK
    obtain ⟨xs, hq1, hx⟩ := hg
    obtain ⟨hz, hTI, _, h1, _⟩ := st
    obtain ⟨its, rv, p, _⟩ := I.list hq1
    have hl := rv.length
    refine next_zip3_end (I.ok.hd hc) D hz hTI h1 p.isList (by simp; omega) fun h' kp => ⟨rfl, ?_⟩
    · refine I.call' (s' := { s with heap := h' }) (ch := [z, TI, TO, i1, i2, i3]) rfl ⟨fun c o e n hb hc => ?_, fun c o e n hb hc => ⟨o.slots, ?_⟩, fun c o e n hc => n, fun c o e hc => ⟨o, ?_⟩, fun _ _ e => e, fun _ _ _ e => e, fun c ps e => ⟨#[], by rw [e]; simp⟩⟩ (fun c o e => ?_) I.bare fun c hc => ⟨(hf c hc).2.2.2.1, (hf c hc).2.1, (hf c hc).2.2.2.2.1, (hf c hc).2.2.2.2.2⟩
      · exact kp c o (fun e => hc (by simp [e])) (fun e => hc (by simp [e])) e
      · exact kp c o (fun e => hc (by simp [e])) (fun e => hc (by simp [e])) e
      · exact kp c o (fun e => hc (by simp [e])) (fun e => hc (by simp [e])) e
      · have nc : ∀ d u, H d = some u → d ≠ z ∧ d ≠ i1 := fun d u q => by
          have ne : ∀ d', d' ∈ [z, TI, TO, i1, i2, i3] → d ≠ d' := fun d' hd' z => by
            have := (hf d' hd').1
            rw [← z, q] at this
            cases this
          exact ⟨ne z (by simp), ne i1 (by simp)⟩
        refine (I.hok c o e).stay (fun d u hd q => ?_) (fun _ q => q) fun _ _ q => q
        rcases hd with rfl | hd
        · obtain ⟨n1, n2⟩ := nc _ _ e
          exact kp _ _ n1 n2 q
        · obtain ⟨n1, n2⟩ := nc _ _ hd
          exact kp _ _ n1 n2 q
  self := fun _ _ _ _ _ st h => by
    obtain ⟨hz, _⟩ := st
    exact wpAny_pyIter_zip hz h
theorem ap3 {n l1 l2 l3 : Nat} (h1 : l1 < n) (h2 : l2 < n) (h3 : l3 < n) : Ap3 (n + 5) (n + 3) (n + 4) n (n + 1) (n + 2) l1 l2 l3 := by
  constructor <;> (show (_ : Nat) ≠ _; omega)
section
variable {X : Cx} {elts : List Expr} {k : Nat} {tp : Pos}
def jZip3 (K : PySem.W.Frag) (vs : List V) (H : Hp) (R : It → Hp → Prop) : Prop := ∃ a b c, vs = [.ref a, .ref b, .ref c] ∧ (∃ xs, SqL K H a xs) ∧ (∃ ys, SqL K H b ys) ∧ (∃ zs, SqL K H c zs) ∧ R (Itw K a b c) H
def iZip3 (K : PySem.W.Frag) (ta : TA) : TI := fun σ H R => ta σ H fun vs H1 => jZip3 K vs H1 R
theorem Vals.tri : ∀ {x y z : V} {us : List Value}, Vals [x, y, z] us → ∃ u v q, us = [u, v, q] ∧ RelV x u ∧ RelV y v ∧ RelV z q
  | _, _, _, _, .cons r (.cons q (.cons t .nil)) => ⟨_, _, _, rfl, r, q, t⟩
theorem pi_zip3 {a b c : Expr} {ta : TA} {p pos : Pos} (hg : Gl X "zip") (hm : X.mg "zip" = none) (ha : PA X [a, b, c] ta) (hs : starEach [a, b, c] X.env = [(false, eval a X.env), (false, eval b X.env), (false, eval c X.env)] := by rfl) (hs2 : starEach [b, c] X.env = [(false, eval b X.env), (false, eval c X.env)] := by rfl) :
    PI X (.Tuple elts k tp) (.Call (.Name "zip" p) [a, b, c] [] pos) (iZip3 X.K ta) := by
  intro pins s σ H R I h
  refine Call_ (ld_blt I hg hm bt_zip (PyProof.Rows.callWith_type1 (thn (ha pos pins s σ H _ I h) fun us s1 ⟨vs, H1, I1, r1, q1⟩ => ?_) (by rw [hs, hs2]) (by rw [hs2]; rfl)))
  obtain ⟨l1, l2, l3, rfl, ⟨xs, hq1⟩, ⟨ys, hq2⟩, ⟨zs, hq3⟩, q⟩ := q1
  obtain ⟨u, v, w, rfl, ru, rv, rw'⟩ := r1.tri
  cases ru
  cases rv
  cases rw'
  obtain ⟨its, _, p1, _⟩ := I1.list hq1
  obtain ⟨its2, _, p2, _⟩ := I1.list hq2
  obtain ⟨its3, _, p3, _⟩ := I1.list hq3
  have lt1 : l1 < s1.heap.objs.size := by
    obtain ⟨o, _, e, _⟩ := p1
    exact Heap.lt_size e
  have lt2 : l2 < s1.heap.objs.size := by
    obtain ⟨o, _, e, _⟩ := p2
    exact Heap.lt_size e
  have lt3 : l3 < s1.heap.objs.size := by
    obtain ⟨o, _, e, _⟩ := p3
    exact Heap.lt_size e
  refine call_zip3 p1.isList p2.isList p3.isList fun h' zz pi po j1 j2 j3 kp => ?_
  refine wpAny_pyIter_zip (s := { s1 with heap := h' }) zz ?_
  refine ⟨_, [s1.heap.objs.size + 5, s1.heap.objs.size + 3, s1.heap.objs.size + 4, s1.heap.objs.size, s1.heap.objs.size + 1, s1.heap.objs.size + 2], _, _, H1, rfl, I1.kept (t' := s1.toks) kp, turn_zip3 l1 l2 l3 _ _ _ _ _ _ (ap3 lt1 lt2 lt3), ⟨zz, pi, ⟨_, _, _, po⟩, j1, j2, j3⟩, fun b hb => ?_, q⟩
  have le : s1.heap.objs.size ≤ b := by
    simp only [List.mem_cons, List.not_mem_nil, or_false] at hb
    rcases hb with rfl | rfl | rfl | rfl | rfl | rfl
    · exact Nat.le_add_right _ _
    · exact Nat.le_add_right _ _
    · exact Nat.le_add_right _ _
    · exact Nat.le_refl _
    · exact Nat.le_add_right _ _
    · exact Nat.le_add_right _ _
  exact I1.fpOk le (I1.hok.fresh le)
end
section
variable {K : PySem.W.Frag} {σ : St} {H : Hp} {R : It → Hp → Prop} {te : TE} {ta : TA} {a b c acc : Addr} {xs ys zs : List V} {g : TG} {tc : TT} {Q : VK}
theorem s_iZip3 (h : ta σ H fun vs H1 => jZip3 K vs H1 R) : iZip3 K ta σ H R := h
theorem s_jZip3 (h1 : SqL K H a xs) (h2 : SqL K H b ys) (h3 : SqL K H c zs) (q : R (Itw K a b c) H) : jZip3 K [.ref a, .ref b, .ref c] H R := ⟨a, b, c, rfl, ⟨xs, h1⟩, ⟨ys, h2⟩, ⟨zs, h3⟩, q⟩
theorem s_gt3 {t : Addr} {v w u : V} {i j k : Nat} {σ' : St} {P : St → Hp → Prop} (h : SqT K H t [v, w, u]) (e : ((σ.set i (some v)).set j (some w)).set k (some u) = σ') (q : P σ' H) : gTup K 3 (gCons (gName i) (gCons (gName j) (gCons (gName k) gNil))) (.ref t) σ H P := by
  subst e
  exact ⟨t, [v, w, u], rfl, h, rfl, v, _, rfl, w, _, rfl, u, _, rfl, rfl, q⟩
theorem compZ3 (hxy : xs.length = ys.length) (hxz : xs.length = zs.length) (Pv : Nat → St → Hp → Prop) (h0 : Pv 0 σ (upd H acc (.lst []))) (hl : ∀ i σ H, i ≤ xs.length → Pv i σ H → SqL K H a xs ∧ SqL K H b ys ∧ SqL K H c zs)
    (hs : ∀ i x y z t σ H H', xs[i]? = some x → ys[i]? = some y → zs[i]? = some z → Pv i σ H → Same H H' → H' t = some (.tup [x, y, z]) → g (.ref t) σ H' (blk acc tc te (Pv (i + 1)))) (hd : ∀ σ H, Pv xs.length σ H → Q (.ref acc) H) : CompW (Itw K a b c) acc g tc te σ H Q := by
  refine ⟨fun i m σ H => m = xs.length - i ∧ i ≤ xs.length ∧ Pv i σ H, ⟨_, rfl, Nat.zero_le _, h0⟩, ?_⟩
  rintro i m σ' H' ⟨rfl, hi, p⟩
  obtain ⟨q1, q2, q3⟩ := hl i σ' H' hi p
  by_cases hlt : i < xs.length
  · have hlt2 : i < ys.length := by omega
    have hlt3 : i < zs.length := by omega
    refine .inr ⟨⟨xs, ys, zs, xs[i], ys[i], zs[i], q1, q2, q3, by simp [hlt], by simp [hlt2], by simp [hlt3]⟩, Pv (i + 1), fun σ2 H2 p' => ⟨xs.length - (i + 1), by omega, rfl, hlt, p'⟩, fun v H2 y => ?_⟩
    obtain ⟨x, y', z', t, hx, hy, hz, rfl, ht, rfl⟩ := y
    exact hs i x y' z' t σ' H' _ (hx xs q1) (hy ys q2) (hz zs q3) p (Same.new ht) upd_same
  · have e : i = xs.length := by omega
    subst e
    exact .inl ⟨⟨xs, q1, Nat.le_refl _⟩, hd σ' H' p⟩
end
end L2

end

section
set_option maxHeartbeats 1000000
/-! LIST COMPREHENSIONS whose own names a block within them draws: cells of their own. -/
namespace L2
open PySem PySem.Spec PyProof.Rows
theorem cf_inj : ∀ (names : List (Str × NameKind)) (n : Nat) (acc : List (Str × Addr)), (∀ x c, acc.lookup x = some c → c < n) → (∀ x y c, acc.lookup x = some c → acc.lookup y = some c → x = y) →
    ∀ x y c, (cellsFrom n names acc).lookup x = some c → (cellsFrom n names acc).lookup y = some c → x = y
  | [], n, acc, _, h => h
  | (z, k) :: r, n, acc, hl, hi => by
    unfold cellsFrom
    by_cases hk : (k == NameKind.cell) = true
    · rw [if_pos hk]
      have look : ∀ x c, ((z, n) :: acc).lookup x = some c → (x = z ∧ c = n) ∨ acc.lookup x = some c := fun x c e => by
        rw [List.lookup_cons] at e
        cases q : x == z with
        | true => rw [q] at e; exact .inl ⟨by simpa using q, (Option.some.inj e).symm⟩
        | false => rw [q] at e; exact .inr e
      refine cf_inj r (n + 1) _ (fun x c e => ?_) fun x y c e1 e2 => ?_
      · rcases look x c e with ⟨_, rfl⟩ | e
        · exact Nat.lt_succ_self _
        · exact Nat.lt_succ_of_lt (hl x c e)
      · rcases look x c e1 with ⟨rfl, h1⟩ | f1 <;> rcases look y c e2 with ⟨rfl, h2⟩ | f2
        · rfl
        · exact absurd (hl _ _ f2) (by rw [h1]; exact Nat.lt_irrefl _)
        · exact absurd (hl _ _ f1) (by rw [h2]; exact Nat.lt_irrefl _)
        · exact hi x y c f1 f2
    · rw [if_neg hk]
      exact cf_inj r n acc hl hi
theorem cf_look {x : Str} {c : Addr} : ∀ (names : List (Str × NameKind)) (h : Heap) (acc : List (Str × Addr)), (cellsFrom h.objs.size names acc).lookup x = some c → acc.lookup x = some c ∨ ((x, NameKind.cell) ∈ names ∧ (pushCells h names).IsCell c none ∧ h.objs.size ≤ c)
  | [], h, acc, e => .inl e
  | (z, k) :: r, h, acc, e => by
    unfold cellsFrom at e
    unfold pushCells
    by_cases hk : (k == NameKind.cell) = true
    · rw [if_pos hk] at e ⊢
      have hk' : k = .cell := by simpa using hk
      subst hk'
      have sz : (h.push { cls := .type "cell", data := .cell none }).objs.size = h.objs.size + 1 := Heap.size_push ..
      rw [← sz] at e
      rcases cf_look r _ _ e with q | ⟨q1, q2, q3⟩
      · rw [List.lookup_cons] at q
        cases w : x == z with
        | true =>
          rw [w] at q
          have e1 : x = z := by simpa using w
          have e2 : h.objs.size = c := Option.some.inj q
          subst e1 e2
          exact .inr ⟨List.mem_cons_self, ⟨_, pushCells_keeps _ _ _ _ (Heap.get?_push_size _ rfl), rfl⟩, Nat.le_refl _⟩
        | false => rw [w] at q; exact .inl q
      · exact .inr ⟨List.mem_cons_of_mem _ q1, q2, by omega⟩
    · rw [if_neg hk] at e ⊢
      rcases cf_look r _ _ e with q | ⟨q1, q2, q3⟩
      · exact .inl q
      · exact .inr ⟨List.mem_cons_of_mem _ q1, q2, q3⟩
theorem cf_out {x : Str} : ∀ (names : List (Str × NameKind)) (n : Nat) (acc : List (Str × Addr)), (x, NameKind.cell) ∉ names → (cellsFrom n names acc).lookup x = acc.lookup x
  | [], _, _, _ => rfl
  | (z, k) :: r, n, acc, h => by
    unfold cellsFrom
    have hr : (x, NameKind.cell) ∉ r := fun q => h (List.mem_cons_of_mem _ q)
    by_cases hk : (k == NameKind.cell) = true
    · rw [if_pos hk, cf_out r _ _ hr, List.lookup_cons]
      have hk' : k = .cell := by simpa using hk
      subst hk'
      cases w : x == z with
      | true =>
        have e1 : x = z := by simpa using w
        subst e1
        exact absurd List.mem_cons_self h
      | false => rfl
    · rw [if_neg hk]
      exact cf_out r _ _ hr
theorem new_env_cells {M : Model} {A : Around} {E : Value → Shared → Prop} {s : Shared} {scope : Scope} {globals : Addr} {cl : List (Str × Addr)} {qual : Str} {env : Env} {builtins : Addr} {Q : Env → Shared → Prop}
    (hQ : Q (newEnv scope s.heap.objs.size globals (cellsFrom (s.heap.objs.size + 1) scope.names cl) qual none .none (some env) builtins) { s with heap := pushCells (s.heap.push { cls := .type "dict", data := .dict #[] }) scope.names }) :
    wpAny M A (newFunctionEnv scope globals cl [] qual none .none (some env) builtins) Q E s := by
  simp only [newFunctionEnv, Option.isSome_some, if_true]
  refine wpAny_bind (wpAny_alloc ?_)
  refine wpAny_bind (wpAny_layCells _ (fun name kind cells => by cases hkc : kind == NameKind.cell <;> simp [hkc]) _ _ _ _ ?_)
  rw [show ({ s with heap := s.heap.push { cls := .type "dict", data := .dict #[] } } : Shared).heap.objs.size = s.heap.objs.size + 1 from Heap.size_push ..]
  rw [List.forIn_nil]
  exact wpAny_bind (wpAny_pure (wpAny_pure hQ))
/-- the block's cells -/
def ccl (X : Cx) (scope : Scope) (C : Addr) : List (Str × Addr) := cellsFrom (C + 1) scope.names (closL X.env.cells scope.names [])
def Cx.compC (X : Cx) (s : Shared) (H : Hp) (N' : List Str) (scope : Scope) (C : Addr) (fp : List Addr) : Cx where
  prog := X.prog
  w := X.w
  K := X.K
  mg := X.mg
  base := X.base
  A := X.A
  N := N'
  s₀ := s
  H₀ := H
  env := compEnvC scope (ccl X scope C) C X.env
  outer := X.stack
  stack := X.stack
  ex := fp
  fn := fun x => decide (scope.names.lookup x = some .cell)
  calm := X.calm
  pn := []
  xe := fun _ _ => False
structure CompScopeC (X : Cx) (scope : Scope) (own capt : List Str) (ix : List Nat) : Prop where
  kind : scope.kind = .function
  one : ∀ y ∈ scope.names, scope.names.lookup y.1 = some y.2
  frees : ∀ y ∈ scope.names, y.2 = .free → X.env.scope.names.lookup y.1 = some .cell
  cap : ∀ (j : Nat) (x : Str), capt[j]? = some x → scope.names.lookup x = some .free ∧ ∃ i, ix[j]? = some i ∧ X.N[i]? = some x
  nd : (own ++ capt).Nodup
  len : ix.length = capt.length
theorem CompScopeC.of {X : Cx} {scope : Scope} {own capt : List Str} {ix : List Nat} (kind : scope.kind = .function) (one : ∀ y ∈ scope.names, scope.names.lookup y.1 = some y.2)
    (frees : ∀ y ∈ scope.names, y.2 = .free → X.env.scope.names.lookup y.1 = some .cell) (c : Caps X scope capt ix) (nd : (own ++ capt).Nodup) : CompScopeC X scope own capt ix := ⟨kind, one, frees, c.at, nd, c.len⟩
/-- the names of a block, as seen from within -/
def relN (names : List (Str × NameKind)) (sc : Scope) : List (Str × NameKind) := names.map fun (n, k) => if (k == .free && sc.kind == .function && sc.names.lookup n == some .cell) then (n, .cell) else (n, k)
section
variable {X : Cx} {pins : List (Addr × Obj)} {σ : St} {H : Hp} {s : Shared} {scope : Scope} {own capt : List Str} {ix : List Nat} {fp : List Addr}
theorem clos_lookC (I : Inv X pins σ H s) (CS : CompScopeC X scope own capt ix) {x : Str} {c : Addr} (e : (closL X.env.cells scope.names []).lookup x = some c) : (x, NameKind.free) ∈ scope.names ∧ X.env.cells.lookup x = some c := by
  rcases closL_lookup e with e | ⟨h1, h2⟩
  · cases e
  · obtain ⟨c', e'⟩ := I.ok.has x (.inl (CS.frees _ h1 rfl))
    rw [e'] at h2
    exact ⟨h1, by rw [e']; exact congrArg some h2⟩
theorem clos_lt (I : Inv X pins σ H s) (CS : CompScopeC X scope own capt ix) {x : Str} {c : Addr} (e : (closL X.env.cells scope.names []).lookup x = some c) : c < s.heap.objs.size := by
  obtain ⟨v, z⟩ := I.cell x c (clos_lookC I CS e).2
  exact z.lt
theorem ccl_look (I : Inv X pins σ H s) (CS : CompScopeC X scope own capt ix) {h0 : Heap} {C : Addr} (hC : h0.objs.size = C + 1) {x : Str} {c : Addr} (e : (ccl X scope C).lookup x = some c) :
    ((x, NameKind.free) ∈ scope.names ∧ X.env.cells.lookup x = some c ∧ (closL X.env.cells scope.names []).lookup x = some c) ∨ ((x, NameKind.cell) ∈ scope.names ∧ (pushCells h0 scope.names).IsCell c none ∧ C + 1 ≤ c) := by
  unfold ccl at e
  rw [← hC] at e
  rcases cf_look _ _ _ e with q | ⟨q1, q2, q3⟩
  · exact .inl ⟨(clos_lookC I CS q).1, (clos_lookC I CS q).2, q⟩
  · exact .inr ⟨q1, q2, hC ▸ q3⟩
theorem comp_okC (I : Inv X pins σ H s) (CS : CompScopeC X scope own capt ix) (f : ∀ b ∈ fp, FpOk X pins H b) {C : Addr} (hC : s.heap.objs.size ≤ C) (hfp : ∀ b ∈ fp, b < s.heap.objs.size) {h0 : Heap} (h0C : h0.objs.size = C + 1) : (X.compC s H (own ++ capt) scope C fp).Ok := by
  have cl : ∀ x c, (closL X.env.cells scope.names []).lookup x = some c → (x, NameKind.free) ∈ scope.names ∧ X.env.cells.lookup x = some c := fun x c e => clos_lookC I CS e
  refine ⟨I.ok.mod, CS.kind, I.ok.glob, I.ok.blt, hC, ?_, fun x hx => ?_, fun x c z e => ?_, I.ok.hd, I.ok.frames, .inl rfl, fun b hb => ⟨?_, fun x c e => ?_⟩, fun b o e => I.bs b o e, ?_, fun b o e hb => ?_, fun b hb z => ?_, I.stack, fun b hb => I.stkFree b hb⟩
  · exact cf_inj _ _ _ (fun x c e => Nat.lt_succ_of_lt (Nat.lt_of_lt_of_le (clos_lt I CS e) hC)) fun x y c h1 h2 => I.ok.inj x y c (cl x c h1).2 (cl y c h2).2
  · have e : (compEnvC scope (ccl X scope C) C X.env).kindOf x = (scope.names.lookup x).map fun k => if k = .free then .cell else k := lookup_relabel CS.frees I.ok.kind
    have hx' : (scope.names.lookup x).map (fun k => if k = NameKind.free then NameKind.cell else k) = some .cell ∨ (scope.names.lookup x).map (fun k => if k = NameKind.free then NameKind.cell else k) = some .free := by rw [← e]; exact hx
    refine Option.isSome_iff_exists.mp (PySem.W.cellsFrom_some scope.names (C + 1) (closL X.env.cells scope.names []) ?_)
    cases q : scope.names.lookup x with
    | none => rw [q] at hx'; rcases hx' with z | z <;> cases z
    | some k =>
      rw [q] at hx'
      have hm := PySem.mem_of_lookup q
      by_cases hk : k = .free
      · subst hk
        exact .inr (Option.isSome_iff_exists.mpr (closL_has (.inl hm)))
      · rcases hx' with z | z
        · simp only [Option.map_some, if_neg hk, Option.some.injEq] at z
          subst z
          exact .inl rfl
        · simp only [Option.map_some, if_neg hk, Option.some.injEq] at z
          exact absurd z hk
  · have z' : scope.names.lookup x = some .cell := of_decide_eq_true z
    rcases ccl_look I CS h0C e with ⟨q, _⟩ | ⟨_, _, q⟩
    · have := CS.one _ q
      rw [z'] at this
      cases this
    · exact Nat.le_trans hC (Nat.le_trans (Nat.le_succ C) q)
  · exact Nat.ne_of_lt (Nat.lt_of_lt_of_le (hfp b hb) hC)
  · rcases ccl_look I CS h0C e with ⟨_, q, _⟩ | ⟨_, _, q⟩
    · exact (f b hb).2.2.2.2.1 x c q
    · have := hfp b hb
      intro z
      subst z
      exact absurd (Nat.lt_of_lt_of_le this hC) (Nat.not_lt.mpr (Nat.le_trans (Nat.le_succ C) q))
  · exact Nat.le_trans I.ok.bsz I.sz
  · rcases (f b hb).2.2.2.1 with z | z
    · exact I.ok.noex b o e z
    · exact absurd (Nat.lt_of_lt_of_le (Heap.lt_size e) (Nat.le_trans I.ok.bsz z)) (Nat.lt_irrefl _)
  · rcases List.mem_cons.mp (I.stkSub b z) with q | q
    · exact (f b hb).2.1 q
    · exact (f b hb).2.2.1 q
/-- the block's first state -/
theorem comp_invC (I : Inv X pins σ H s) (CS : CompScopeC X scope own capt ix) (f : ∀ b ∈ fp, FpOk X pins H b) (hfp : ∀ b ∈ fp, b < s.heap.objs.size) {h0 h1 : Heap} {m : Str → Option Value} {C : Addr} {n tk : Nat} (hC : s.heap.objs.size < C) (h0C : h0.objs.size = C + 1) (h01 : h1 = pushCells h0 scope.names)
    (keep : ∀ b o, s.heap.get? b = some o → h1.get? b = some o) (hacc : h1.get? s.heap.objs.size = some { cls := .type "list", data := .seq #[] n }) (hns : h1.Ns C m) :
    Inv (X.compC s H (own ++ capt) scope C fp) [] (capV own.length ix σ) (upd H s.heap.objs.size (.lst [])) { s with heap := h1, toks := tk } := by
  have hD := I.hok.fresh (Nat.le_refl s.heap.objs.size)
  have cellK : ∀ c v, s.heap.IsCell c v → h1.IsCell c v := fun c v ⟨o, e, d⟩ => ⟨o, keep c o e, d⟩
  have lk : ∀ {x c}, (ccl X scope C).lookup x = some c → _ := fun {x c} e => ccl_look I CS h0C e
  refine ⟨comp_okC I CS f (Nat.le_of_lt hC) hfp h0C, rfl, I.bare, Un.laid keep (Nat.le_refl _) hD, ⟨m, hns, fun i x v e1 e2 e3 => ?_⟩, fun x c e => ?_, ?_, fun x c e => ?_, fun p hp => absurd (show p ∈ ([] : List (Addr × Obj)) from hp) (by simp), ?_, ?_⟩
  · have hi : own.length ≤ i := by
      rcases Nat.lt_or_ge i own.length with z | z
      · have e2' : (capV own.length ix σ)[i]? = some (some v) := e2
        unfold capV at e2'
        rw [List.getElem?_append_left (by simpa using z), List.getElem?_replicate] at e2'
        split at e2' <;> cases e2'
      · exact z
    have e1' : capt[i - own.length]? = some x := by
      have e1'' : (own ++ capt)[i]? = some x := e1
      rw [List.getElem?_append_right hi] at e1''
      exact e1''
    obtain ⟨hl, i0, hi0, hN⟩ := CS.cap _ _ e1'
    have hv : σ[i0]? = some (some v) := by
      have e2' : (capV own.length ix σ)[i]? = some (some v) := e2
      unfold capV at e2'
      rw [List.getElem?_append_right (by simpa using hi), List.length_replicate, List.getElem?_map, hi0] at e2'
      have e3' : (σ[i0]?).join = some v := Option.some.inj e2'
      cases q : σ[i0]? with
      | none => rw [q] at e3'; cases e3'
      | some z => rw [q] at e3'; exact congrArg some e3'
    have hm := PySem.mem_of_lookup hl
    have hcell : X.env.scope.names.lookup x = some .cell := CS.frees _ hm rfl
    obtain ⟨m0, _, hloc⟩ := I.loc
    obtain ⟨u, ru, lk⟩ := hloc i0 x v hN hv (.inr (.inl hcell))
    refine ⟨u, ru, .inr ⟨.inl ?_, ?_⟩⟩
    · have e : (compEnvC scope (ccl X scope C) C X.env).kindOf x = (scope.names.lookup x).map fun k => if k = .free then .cell else k := lookup_relabel CS.frees I.ok.kind
      show (compEnvC scope (ccl X scope C) C X.env).kindOf x = some .cell
      rw [e, hl]
      rfl
    · rcases lk with ⟨k, _⟩ | ⟨_, c, ec, z⟩
      · have k' : X.env.scope.names.lookup x = some .local := k
        rw [hcell] at k'
        cases k'
      · obtain ⟨c', e'⟩ := closL_has (cells := X.env.cells) (cs := []) (.inl hm)
        have := (clos_lookC I CS e').2
        rw [ec] at this
        cases this
        refine ⟨c, ?_, cellK _ _ z⟩
        show (ccl X scope C).lookup x = some c
        unfold ccl
        rw [cf_out _ _ _ fun q => ?_]
        · exact e'
        · have := CS.one _ q
          rw [hl] at this
          cases this
  · rcases lk e with ⟨_, q, _⟩ | ⟨_, q, _⟩
    · obtain ⟨v, z⟩ := I.cell x c q
      exact ⟨v, cellK _ _ z⟩
    · exact ⟨none, by rw [← h01] at q; exact q⟩
  · show upd H s.heap.objs.size (.lst []) C = none
    rw [upd_ne (Nat.ne_of_gt hC)]
    exact I.hok.fresh (Nat.le_of_lt hC)
  · rcases lk e with ⟨_, q, _⟩ | ⟨_, _, q⟩
    · obtain ⟨v, z⟩ := I.cell x c q
      rw [upd_ne (Nat.ne_of_lt z.lt)]
      exact I.freeC x c q
    · rw [upd_ne (Nat.ne_of_gt (Nat.lt_of_lt_of_le hC (Nat.le_trans (Nat.le_succ C) q)))]
      exact I.hok.fresh (Nat.le_trans (Nat.le_of_lt hC) (Nat.le_trans (Nat.le_succ C) q))
  · exact I.hok.laid keep (Nat.le_refl _) ⟨Nat.zero_le _, [], n, .nil, hacc⟩
  · show (capV own.length ix σ).length = (own ++ capt).length
    unfold capV
    rw [List.length_append, List.length_append, List.length_replicate, List.length_map, CS.len]
theorem comp_runC {E : Value → Shared → Prop} {elt target iter : Expr} {ifs : List Expr} {pos : Pos} {g : TG} {tc : TT} {te : TE} {J : It} {it : Addr} {tn : Nat → Heap → Prop} {RR : Value → Addr → Result → Shared → Prop} {Q : VK}
    (I : Inv X pins σ H s) (hc : X.calm = true) (CS : CompScopeC X scope own capt ix) (T : Turn X.prog X.w X.K target J fp it tn) (st : tn 0 s.heap) (f : ∀ b ∈ fp, FpOk X pins H b)
    (hg : ∀ s H C fp, PG (X.compC s H (own ++ capt) scope C fp) target g) (hf : ∀ s H C fp, PF (X.compC s H (own ++ capt) scope C fp) ifs tc) (he : ∀ s H C fp, PE (X.compC s H (own ++ capt) scope C fp) elt te)
    (hW : ∀ acc, H acc = none → ∃ W : Nat → Nat → St → Hp → Prop, (∃ m, W 0 m (capV own.length ix σ) (upd H acc (.lst []))) ∧
      ∀ i m σ' H', W i m σ' H' → (J.stop i H' ∧ Q (.ref acc) H') ∨ (J.go i H' ∧ ∃ N : St → Hp → Prop, (∀ σ2 H2, N σ2 H2 → ∃ m', m' < m ∧ W (i + 1) m' σ2 H2) ∧
        ∀ x H2, J.yld i H' x H2 → g x σ' H2 fun σ3 H3 => tc σ3 H3 fun ok H4 => if ok = true then te σ3 H4 fun v H5 => ∃ ys, H5 acc = some (.lst ys) ∧ ys.length < sizeLine ∧ N σ3 (upd H5 acc (.lst (ys ++ [v]))) else N σ3 H4))
    (fin : ∀ D C s' H', Inv X pins σ H' s' → FpOk X pins H' C → (∃ m, s'.heap.Ns C m) → Q (.ref D) H' → RR (.ref D) C (.ok .next) s') :
    wpAny (model X.prog X.w) X.A (newList []) (fun acc s3 => wpAny (model X.prog X.w) X.A (newFunctionEnv scope X.env.globals (closL X.env.cells scope.names []) [] X.env.qual none .none (some X.env)) (fun cenv s4 =>
      codeAny (model X.prog X.w) X.A (.compStart (.ListComp elt [⟨target, iter, ifs, 0⟩] scope pos) 0 (.ref it) acc { cenv with scope := relabel scope X.env }) (RR acc cenv.locals) s4) E s3) E s := by
  refine wpAny_newObj_type (new_env_cells ?_)
  dsimp only
  generalize hP : s.heap.push { cls := .type "list", dict := none, data := .seq ([] : List Value).toArray } = P2
  generalize h0 : P2.push { cls := .type "dict", data := .dict #[] } = P3
  generalize h01 : pushCells P3 scope.names = h1
  have hC : P2.objs.size = s.heap.objs.size + 1 := by rw [← hP, Heap.size_push]
  have h0C : P3.objs.size = P2.objs.size + 1 := by rw [← h0, Heap.size_push]
  have lt : s.heap.objs.size < P2.objs.size := by omega
  have hns : h1.Ns P2.objs.size (fun _ => none) := by
    rw [← h01, ← h0]
    exact (Heap.Ns.new P2 (.type "dict")).keeps (pushCells_keeps _ _)
  have keep : ∀ b o, s.heap.get? b = some o → h1.get? b = some o := fun b o e => by
    rw [← h01, ← h0]
    exact pushCells_keeps _ _ _ _ (Heap.get?_push_of_some _ (hP ▸ Heap.get?_push_of_some _ e))
  have hacc : h1.get? s.heap.objs.size = some { cls := .type "list", data := .seq #[] } := by
    rw [← h01, ← h0]
    exact pushCells_keeps _ _ _ _ (Heap.get?_push_of_some _ (hP ▸ Heap.get?_push_size _ rfl))
  have hfp : ∀ b ∈ fp, b < s.heap.objs.size := fun b hb => by
    obtain ⟨o, e, _⟩ := T.obj 0 _ st b hb
    exact Heap.lt_size e
  obtain ⟨W, ⟨m0, w0⟩, turn⟩ := hW s.heap.objs.size (I.hok.fresh (Nat.le_refl _))
  have ok := comp_okC I CS f (Nat.le_of_lt lt) hfp h0C
  have stat : ∀ {H' : Hp}, (∀ b ∈ fp, H' b = none) → ∀ b ∈ fp, FpOk (X.compC s H (own ++ capt) scope P2.objs.size fp) [] H' b := fun hn b hb =>
    ⟨hn b hb, (ok.exf b hb).1, ok.exfs b hb, .inl hb, (ok.exf b hb).2, fun p hp => absurd (show p ∈ ([] : List (Addr × Obj)) from hp) (by simp)⟩
  have back : ∀ {s' : Shared} {σ' : St} {H' : Hp}, Inv (X.compC s H (own ++ capt) scope P2.objs.size fp) [] σ' H' s' → Inv X pins σ H' s' := fun {s' σ' H'} J' =>
    I.call' J'.os J'.base J'.hok J'.bare fun b hb => ⟨(f b hb).2.2.2.1, (f b hb).2.1, (f b hb).2.2.2.2.1, (f b hb).2.2.2.2.2⟩
  have loop : ∀ tk : Nat, codeAny (model X.prog X.w) X.A (.compLoop (.ListComp elt [⟨target, iter, ifs, 0⟩] scope pos) 0 (.ref it) (.ref s.heap.objs.size) (compEnvC scope (ccl X scope P2.objs.size) P2.objs.size X.env))
      (RR (.ref s.heap.objs.size) P2.objs.size) { s with heap := h1, toks := tk } := fun tk => by
    have I1 := comp_invC (tk := tk) I CS f hfp lt h0C h01.symm keep hacc hns
    refine comp_loop (fun n s' => ∃ i σ' H', Inv (X.compC s H (own ++ capt) scope P2.objs.size fp) [] σ' H' s' ∧ tn i s'.heap ∧ (∀ b ∈ fp, H' b = none) ∧ W i n σ' H') m0 ⟨0, _, _, I1, T.keep _ _ _ st fun b _ o e => keep b o e, fun b hb => ?_, w0⟩ ?_
    · rw [upd_ne (Nat.ne_of_lt (hfp b hb))]
      exact (f b hb).1
    rintro n s3 ⟨i, σ3, H3, I3, st3, fr3, w3⟩
    rcases turn i n σ3 H3 w3 with ⟨stop, qn⟩ | ⟨go, N, hN, step⟩
    · refine thn (T.done (X.compC s H (own ++ capt) scope P2.objs.size fp) rfl rfl rfl hc i [] s3 σ3 H3 _ I3 (stat fr3) st3 stop) fun r s4 ⟨hr, I4⟩ => ?_
      subst hr
      obtain ⟨m, hm, _⟩ := I4.loc
      exact fin _ _ _ _ (back I4) (I.fpOk (Nat.le_of_lt lt) I4.free) ⟨m, hm⟩ qn
    · refine thn (T.item (X.compC s H (own ++ capt) scope P2.objs.size fp) rfl rfl rfl hc i [] s3 σ3 H3 _ I3 (stat fr3) st3 go) fun r s4 ⟨u, hr, h4⟩ => ?_
      subst hr
      refine thn h4 fun _ s5 ⟨x, H5, I5, r5, y5, st5, fr5⟩ => ?_
      have I5' := I5.pinned (stat fr5) (T.obj _ _ st5)
      refine thn (hg _ _ _ _ _ s5 σ3 H5 x u _ I5' r5 (step x H5 y5)) fun _ s6 ⟨σ6, H6, I6, q6⟩ => ?_
      have again : ∀ {s7 : Shared} {H7 : Hp}, Inv (X.compC s H (own ++ capt) scope P2.objs.size fp) ([] ++ pinsAt fp s5.heap) σ6 H7 s7 → N σ6 H7 → ∃ m, m < n ∧ ∃ i σ' H', Inv (X.compC s H (own ++ capt) scope P2.objs.size fp) [] σ' H' s7 ∧ tn i s7.heap ∧ (∀ b ∈ fp, H' b = none) ∧ W i m σ' H' := fun {s7 H7} I7 n7 => by
        obtain ⟨m', hm, w7⟩ := hN σ6 H7 n7
        refine ⟨m', hm, i + 1, σ6, H7, I7.unpinned, T.keep _ _ _ st5 fun b hb o e => (I7.pin (b, o) (List.mem_append_right _ (List.mem_append_right _ (mem_pinsAt hb e)))).1, fun b hb => ?_, w7⟩
        obtain ⟨o, e, d⟩ := T.obj _ _ st5 b hb
        exact (I7.pin (b, o) (List.mem_append_right _ (List.mem_append_right _ (mem_pinsAt hb e)))).2.1
      refine thn (hf _ _ _ _ _ s6 σ6 H6 _ I6 q6) fun okv s7 ⟨H7, I7, q7⟩ => ?_
      cases okv with
      | false =>
        rw [if_neg Bool.false_ne_true] at q7 ⊢
        exact again I7 q7
      | true =>
        rw [if_pos rfl] at q7 ⊢
        refine thn (he _ _ _ _ _ s7 σ6 H7 _ I7 q7) fun xv s8 ⟨v, H8, I8, r8, ys, hy, hz, n8⟩ => ?_
        refine thn (mt_append (X := X.compC s H (own ++ capt) scope P2.objs.size fp) _ s8 σ6 H8 (.ref s.heap.objs.size) [v] (.ref s.heap.objs.size) [xv] (fun _ H9 => N σ6 H9) I8 rfl (.cons r8 .nil) ⟨_, ys, v, rfl, rfl, hy, hz, n8⟩) fun _ s9 ⟨_, H9, I9, _, n9⟩ => again I9 n9
  refine codeAny_compStart_list (loop _) (T.self _ 0 _ _ _ (T.keep _ _ _ st fun b _ o e => keep b o e) (loop _))
/-- y = [..]: the store comes ahead of the block's end -/
theorem ps_compC {i : Nat} {y : Str} {py spos : Pos} {elt target iter : Expr} {ifs : List Expr} {pos : Pos} {wi : TI} {g : TG} {tc : TT} {te : TE} (hc : X.calm = true) (CS : CompScopeC X scope own capt ix) (hi : PI X target iter wi)
    (hg : ∀ s H C fp, PG (X.compC s H (own ++ capt) scope C fp) target g) (hf : ∀ s H C fp, PF (X.compC s H (own ++ capt) scope C fp) ifs tc) (he : ∀ s H C fp, PE (X.compC s H (own ++ capt) scope C fp) elt te)
    (hN : X.N.Nodup := by assumption) (hiy : X.N[i]? = some y := by rfl) (hy : Loc X.env.scope y := by first | exact Or.inl rfl | exact Or.inr rfl) (hfn : X.fn y = true ∨ X.env.scope.names.lookup y = some .local := by first | exact .inl rfl | exact .inr rfl | assumption)
    (hsw : swapsWith (.ListComp elt [⟨target, iter, ifs, 0⟩] scope pos) (some (.Name y py)) spos.line X.env = pure true := by rfl)
    (hs : ∀ x, foldedSetIterable iter X.env x = pure x := by intro _; rfl) : PS X (.Assign [.Name y py] (.ListComp elt [⟨target, iter, ifs, 0⟩] scope pos) spos) (tAsg (tComp own.length ix wi g tc te) (gName i)) := by
  intro pins s σ H D I h
  rw [exec_Assign_Name_used _ _ _ _ hsw]
  refine wpAny_bind (wpAny_standAt (wpAny_bind ?_))
  show wpAny _ X.A (do let _ ← comprehension (.ListComp elt [⟨target, iter, ifs, 0⟩] scope pos) scope X.env _ (newList []) false (eval iter X.env) (some (assign (.Name y py) X.env))) _ _ s
  refine wpAny_bind (wpAny_mono (wpAny_comprehension_free (use := some (assign (.Name y py) X.env)) (Q := fun _ s' => SP X pins D .next s') rfl hs (clos_eq fun x hx hk => I.ok.has x.1 (.inl (CS.frees x hx hk))) CS.kind (fun y hy hl => by rw [CS.one y hy, hl])
    (thn (hi pins s σ H _ I h) fun v s1 h1 => thn h1 fun itv s2 h2 => ?_)) (fun _ s' hq => wpAny_pure (wpAny_pure hq)) fun _ _ e => e)
  obtain ⟨it, fp, tn, J, H2, e, I2, T, st2, f2, hW⟩ := h2
  subst e
  refine comp_runC (Q := fun x H1 => D.nx (σ.set i (some x)) H1) (RR := fun acc C => compPost (model X.prog X.w) X.A X.xe (some (assign (.Name y py) X.env)) (fun _ s' => SP X pins D .next s') acc C) I2 hc CS T st2 f2 hg hf he hW fun Dd C s' H' J' fC ⟨m, hn⟩ q => ?_
  show wpAny _ X.A (assign (.Name y py) X.env (.ref Dd)) _ _ _
  refine wpAny_assign_Name (store_ok2 J' hN hiy hy (v := .ref Dd) rfl (fun s'' I'' ⟨a, sa, ha⟩ => ?_) hfn)
  have hCa : C ≠ a := by
    rcases ha with z | z
    · rw [z]; exact fC.2.1
    · exact Ne.symm (fC.2.2.2.2.1 y a z)
  refine ⟨m, hn.sameBut sa hCa, fun h' sb => ⟨_, H', ?_, q⟩⟩
  exact I''.turned (t' := s''.toks) (fun b o hb e => (sb.2 b hb).trans e) fC.1 fC.2.1 fC.2.2.2.1 fC.2.2.2.2.1 fC.2.2.2.2.2
end
end L2

end

section
set_option maxHeartbeats 1000000
/-! SORTED, of lists of lists of whole numbers: the order of two such lists; the short sort by any order at one state. -/
namespace L2
open PySem PySem.Spec PyProof.Rows PySem.W
theorem ints_get {us : List Value} {ns : List Int} (h : IntsAre us ns) : ∀ {k : Nat}, (us[k]? = none ∧ ns[k]? = none) ∨ ∃ i t, us[k]? = some (.int i t) ∧ ns[k]? = some i := by
  induction h with
  | nil => intro k; exact .inl ⟨by simp, by simp⟩
  | cons n t _ ih =>
    intro k
    cases k with
    | zero => exact .inr ⟨n, t, rfl, rfl⟩
    | succ k => simpa using ih (k := k)
theorem drop_get {ns : List Int} {k : Nat} {i : Int} (h : ns[k]? = some i) : ns.drop k = i :: ns.drop (k + 1) := by
  obtain ⟨hk, e⟩ := List.getElem?_eq_some_iff.mp h
  rw [List.drop_eq_getElem_cons hk, e]
theorem drop_none {ns : List Int} {k : Nat} (h : ns[k]? = none) : ns.drop k = [] := List.drop_eq_nil_of_le (by simpa using h)
theorem lex_sizes {ns ms : List Int} {k : Nat} (h : ns[k]? = none ∨ ms[k]? = none) (l : k ≤ ns.length) (m : k ≤ ms.length) : HT.lexLt (ns.drop k) (ms.drop k) = decide (ns.length < ms.length) := by
  rcases h with h | h
  · rw [drop_none h]
    have e : ns.length = k := by
      have : ns.length ≤ k := by simpa using h
      omega
    cases q : ms[k]? with
    | none =>
      rw [drop_none q, HT.lexLt_nil_nil]
      have : ms.length ≤ k := by simpa using q
      rw [decide_eq_false (by omega)]
    | some j =>
      rw [drop_get q, HT.lexLt_nil_cons]
      have : k < ms.length := (List.getElem?_eq_some_iff.mp q).1
      rw [decide_eq_true (by omega)]
  · rw [drop_none h]
    have e : ms.length = k := by
      have : ms.length ≤ k := by simpa using h
      omega
    cases q : ns[k]? with
    | none =>
      rw [drop_none q, HT.lexLt_nil_nil]
      have : ns.length ≤ k := by simpa using q
      rw [decide_eq_false (by omega)]
    | some j =>
      rw [drop_get q, HT.lexLt_cons_nil, decide_eq_false (by omega)]
theorem lt_loop {prog : Program} {w : World} {A : Around} {R : Result → Shared → Prop} {s : Shared} {a b : Addr} {oa ob : Obj} {xs ys : Array Value} {n m : Nat} (ha : s.heap.get? a = some oa) (da : oa.data = .seq xs n) (hb : s.heap.get? b = some ob) (db : ob.data = .seq ys m)
    {ns ms : List Int} (ia : IntsAre xs.toList ns) (ib : IntsAre ys.toList ms) : ∀ (f k : Nat), xs.size ≤ k + f → k ≤ xs.size → k ≤ ys.size → R (.ok (.ret (.bool (HT.lexLt (ns.drop k) (ms.drop k))))) s →
      codeAny (model prog w) A (Code.builtin "list.__eq__.loop" { pos := [.ref a, .ref b, rawInt (k : Int), rawInt 0] }) R s := by
  intro f
  have la : xs.size = ns.length := by have := ia.length; simpa using this
  have lb : ys.size = ms.length := by have := ib.length; simpa using this
  have fin : ∀ k, (xs[k]? = none ∨ ys[k]? = none) → k ≤ xs.size → k ≤ ys.size → R (.ok (.ret (.bool (HT.lexLt (ns.drop k) (ms.drop k))))) s →
      codeAny (model prog w) A (Code.builtin "list.__eq__.loop" { pos := [.ref a, .ref b, rawInt (k : Int), rawInt 0] }) R s := by
    intro k hn h1 h2 q
    have hn' : ns[k]? = none ∨ ms[k]? = none := by
      rcases hn with h | h
      · exact .inl (by simp at h ⊢; omega)
      · exact .inr (by simp at h ⊢; omega)
    rw [lex_sizes hn' (by omega) (by omega), ← la, ← lb] at q
    refine codeAny_builtin MeetsSeq3.entry_eq_loop ?_
    refine wpAny_bind (listItems_at ha da ?_)
    refine wpAny_bind (listItems_at hb db ?_)
    have z : ((k : Int)).toNat = k := by omega
    rw [z]
    rcases hn with h | h
    · rw [h]
      refine wpAny_bind (listItems_at ha da ?_)
      refine wpAny_bind (listItems_at hb db ?_)
      exact wpAny_pure q
    · rw [h]
      cases xs[k]? with
      | none =>
        refine wpAny_bind (listItems_at ha da ?_)
        refine wpAny_bind (listItems_at hb db ?_)
        exact wpAny_pure q
      | some x =>
        refine wpAny_bind (listItems_at ha da ?_)
        refine wpAny_bind (listItems_at hb db ?_)
        exact wpAny_pure q
  induction f with
  | zero =>
    intro k hk h1 h2 q
    have e : k = xs.size := by omega
    exact fin k (.inl (by simp [e])) h1 h2 q
  | succ f ih =>
    intro k hk h1 h2 q
    rcases ints_get ia (k := k) with ⟨e1, e2⟩ | ⟨i, t, e1, e2⟩
    · exact fin k (.inl (by simpa using e1)) h1 h2 q
    rcases ints_get ib (k := k) with ⟨f1, f2⟩ | ⟨j, u, f1, f2⟩
    · exact fin k (.inr (by simpa using f1)) h1 h2 q
    have e1' : xs[k]? = some (.int i t) := by simpa using e1
    have f1' : ys[k]? = some (.int j u) := by simpa using f1
    have k1 : k < xs.size := (Array.getElem?_eq_some_iff.mp e1').1
    have k2 : k < ys.size := (Array.getElem?_eq_some_iff.mp f1').1
    rw [drop_get e2, drop_get f2, HT.lexLt_cons] at q
    refine codeAny_builtin MeetsSeq3.entry_eq_loop ?_
    refine wpAny_bind (listItems_at ha da ?_)
    refine wpAny_bind (listItems_at hb db ?_)
    have z : ((k : Int)).toNat = k := by omega
    rw [z, e1', f1']
    refine wpAny_bind (wpAny_eqBool_int ?_)
    by_cases c : i = j
    · rw [if_pos c] at q
      have c2 : (i == j) = true := by simp [c]
      rw [c2]
      exact wpAny_pure ⟨plainId_quiet MeetsSeq3.plain_eq_loop _, ih (k + 1) (by omega) (by omega) (by omega) q⟩
    · rw [if_neg c] at q
      have c2 : (i == j) = false := by simp [c]
      rw [c2]
      refine wpAny_bind (listItems_at ha da ?_)
      refine wpAny_bind (listItems_at hb db ?_)
      rw [e1', f1']
      refine wpAny_bind (HT.rcLt_int _ _ _ _ _ _ _ _ _ _ ?_)
      exact wpAny_pure q
theorem oneLt_lists {prog : Program} {w : World} {A : Around} {E : Value → Shared → Prop} {Q : Bool → Shared → Prop} {s : Shared} {a b : Addr} {xs ys : Array Value} (la : s.heap.IsList a xs) (lb : s.heap.IsList b ys)
    {ns ms : List Int} (ia : IntsAre xs.toList ns) (ib : IntsAre ys.toList ms) (hu : A.units < cLine) (q : Q (HT.lexLt ns ms) s) : wpAny (model prog w) A (oneLt' true (.ref a) (.ref b)) Q E s := by
  obtain ⟨oa, ha, ca, n, da⟩ := la
  obtain ⟨ob, hb, cb, m, db⟩ := lb
  rw [oneLt'_eq]
  refine wpAny_bind (wpAny_cRoomFor hu ?_)
  refine wpAny_bind (wpAny_callSpecialIfBound?_slot (T := "list") (id := "list.__lt__") ⟨oa, ha, ca⟩ PySem.F.slot_list_lt ?_)
  refine wpAny_call ?_
  refine codeAny_call_builtin PySem.F.slot_list_lt.plain PySem.F.entry_list_lt ?_
  refine PySem.F.slot_list_lt.check _ _ _ _ _ _ _ _ ⟨oa, ha, ca⟩ (PySem.F.args_list_lt_2 _ _) ?_
  refine wpAny_bind (wpAny_pure ?_)
  refine wpAny_bind (wpAny_isInstance (T := "list") ⟨ob, hb, cb⟩ (b := true) rfl ?_)
  refine wpAny_pure ⟨plainId_quiet MeetsSeq3.plain_eq_loop _, ?_⟩
  refine lt_loop ha da hb db ia ib xs.size 0 (by omega) (Nat.zero_le _) (Nat.zero_le _) ?_
  exact wpAny_truthy_bool q

/-! ### the tree of the short sort, by any order at one state -/
/-- on the way that the order goes all asked are there, and it ends well -/
def TOk (lt : Nat → Nat → Bool) (n : Nat) {α : Type} (P : α → Prop) : KasT α → Prop
  | .ret a => P a
  | .ask i j k => i < n ∧ j < n ∧ TOk lt n P (k (lt i j))
section
variable {lt : Nat → Nat → Bool} {n : Nat}
theorem TOk.bind {α β : Type} {P : β → Prop} {f : α → KasT β} : ∀ {t : KasT α}, TOk lt n (fun a => TOk lt n P (f a)) t → TOk lt n P (t.bind f)
  | .ret a, h => h
  | .ask i j k, h => ⟨h.1, h.2.1, TOk.bind (t := k (lt i j)) h.2.2⟩
theorem TOk.wp {α : Type} {P : α → Prop} {G : α → Shared → Prop} {s : Shared} {cmp : Nat → Nat → (Bool → Shared → Prop) → Shared → Prop} (hc : ∀ i j C, i < n → j < n → C (lt i j) s → cmp i j C s) : ∀ {t : KasT α}, TOk lt n P t → (∀ a, P a → G a s) → KasT.kasWp cmp t G s
  | .ret a, h, g => g a h
  | .ask i j k, h, g => hc i j _ h.1 h.2.1 (TOk.wp hc (t := k (lt i j)) h.2.2 g)
/-- an order of the numbers below n -/
def PR (n : Nat) (p : Array Nat) : Prop := p.Perm (List.range n).toArray
theorem PR.bd {p : Array Nat} (h : PR n p) (n0 : 0 < n) (k : Nat) : p.getD k 0 < n := by
  by_cases c : k < p.size
  · have m : p[k] ∈ p := Array.getElem_mem c
    have m2 := (Array.Perm.mem_iff h).mp m
    have e : p.getD k 0 = p[k] := by simp [Array.getD, c]
    rw [e]
    simpa using m2
  · have e : p.getD k 0 = 0 := by simp [Array.getD, c]
    rw [e]
    exact n0
theorem PR.rev {p : Array Nat} (h : PR n p) (i j : Nat) : PR n (kas_rev p i j) := (mirror_perm p i j _).trans h
theorem ok_asc {p : Array Nat} (h : PR n p) (n0 : 0 < n) : ∀ f x, TOk lt n (fun _ => True) (kas_asc p f x)
  | 0, x => trivial
  | f + 1, x => by
    rw [kas_asc.eq_2]
    refine ⟨h.bd n0 _, h.bd n0 _, ?_⟩
    dsimp only
    split
    · trivial
    · exact ok_asc h n0 f (x + 1)
theorem ok_place {p : Array Nat} (h : PR n p) (n0 : 0 < n) (k : Nat) : ∀ f x y, TOk lt n (fun _ => True) (kas_place p k f x y)
  | 0, x, y => trivial
  | f + 1, x, y => by
    rw [kas_place.eq_2]
    split
    · trivial
    · refine ⟨h.bd n0 _, h.bd n0 _, ?_⟩
      dsimp only
      split
      · exact ok_place h n0 k f _ _
      · exact ok_place h n0 k f _ _
theorem TOk.mono {α : Type} {P P' : α → Prop} (f : ∀ a, P a → P' a) : ∀ {t : KasT α}, TOk lt n P t → TOk lt n P' t
  | .ret a, h => f a h
  | .ask i j k, h => ⟨h.1, h.2.1, TOk.mono f (t := k (lt i j)) h.2.2⟩
theorem ok_bin (n0 : 0 < n) : ∀ f {p : Array Nat} x, PR n p → TOk lt n (PR n) (kas_bin f p x)
  | 0, p, x, h => h
  | f + 1, p, x, h => by
    rw [kas_bin.eq_2]
    exact TOk.bind ((ok_place h n0 _ _ _ _).mono fun l _ => ok_bin n0 f (x + 1) ((bubble_perm p x _).trans h))
theorem ok_desc (n0 : 0 < n) : ∀ f {p : Array Nat} x y, PR n p → TOk lt n (fun r => PR n r.1) (kas_desc f p x y)
  | 0, p, x, y, h => h
  | f + 1, p, x, y, h => by
    rw [kas_desc.eq_2]
    refine ⟨h.bd n0 _, h.bd n0 _, ?_⟩
    dsimp only
    split
    · split
      · exact ok_desc n0 f _ _ (h.rev _ _)
      · exact ok_desc n0 f _ _ h
    · refine ⟨h.bd n0 _, h.bd n0 _, ?_⟩
      dsimp only
      split
      · exact h
      · exact ok_desc n0 f _ _ h
theorem ok_tail3 (n0 : 0 < n) {p : Array Nat} (a b : Nat) (h : PR n p) : TOk lt n (fun r => PR n r.2) (kas_tail3 a b p) := by
  rw [kas_tail3.eq_1]
  exact TOk.bind ((ok_asc (h.rev _ _) n0 _ _).mono fun m _ => (h.rev _ _ : PR n _))
theorem ok_descPart (n0 : 0 < n) {p : Array Nat} (a b : Nat) (h : PR n p) : TOk lt n (fun r => PR n r.2) (kas_descPart a b p) := by
  rw [kas_descPart.eq_1]
  refine TOk.bind ((ok_desc n0 _ _ _ h).mono fun r hr => ?_)
  split
  · exact ok_tail3 n0 _ _ (PR.rev hr _ _)
  · exact ok_tail3 n0 _ _ hr
theorem ok_sort (n0 : 0 < n) : TOk lt n (PR n) (kas_sort n) := by
  have h0 : PR n (List.range n).toArray := Array.Perm.refl _
  rw [kas_sort.eq_1]
  refine TOk.bind ?_
  rw [kas_count.eq_1]
  refine TOk.bind ((ok_asc h0 n0 _ _).mono fun m _ => ?_)
  have go : ∀ (t : KasT (Nat × Array Nat)), TOk lt n (fun r => PR n r.2) t → TOk lt n (fun r => TOk lt n (PR n) (if r.1 < n then kas_bin (n - max r.1 1) r.2 (max r.1 1) else KasT.ret r.2)) t := fun t ht => ht.mono fun r hr => by
    split
    · exact ok_bin n0 _ _ hr
    · exact hr
  apply go
  split
  · exact h0
  · split
    · refine ⟨h0.bd n0 _, h0.bd n0 _, ?_⟩
      dsimp only
      split
      · exact h0
      · exact ok_descPart n0 _ _ (h0.rev _ _)
    · exact ok_descPart n0 _ _ h0
end
end L2

end

section
set_option maxHeartbeats 1000000
namespace L2
open PySem PySem.Spec PyProof.Rows PySem.W
theorem looks_list {M : Model} {h : Heap} {b : Addr} {o : Obj} (hb : h.get? b = some o) (hc : o.cls = .type "list") : Looks M h (typeOf (.ref b)) (.type "list") := fun A Q E s hk q => wpAny_typeOf (T := "list") ⟨o, hk b o hb, hc⟩ q
theorem zip_snd (vs : List Value) : Array.map (fun (x : Value × Value) => x.2) (vs.toArray.zip vs.toArray) = vs.toArray := by
  apply Array.ext
  · simp
  · intro i h1 h2
    simp
theorem list_sortL {prog : Program} {w : World} {A : Around} {E : Value → Shared → Prop} {s : Shared} {a : Addr} {vs : List Value} {n0 : Nat} {P : PySem.Fin → Shared → Prop} (lt : Value → Value → Bool) (ha : s.heap.get? a = some (seqObj "list" vs.toArray n0)) (h64 : vs.length < 64)
    (hT : ∀ v ∈ vs, ∃ b o, v = .ref b ∧ b ≠ a ∧ s.heap.get? b = some o ∧ o.cls = .type "list")
    (hc : ∀ s' : Shared, (∀ b o, b ≠ a → s.heap.get? b = some o → s'.heap.get? b = some o) → ∀ x ∈ vs, ∀ y ∈ vs, ∀ Q : Bool → Shared → Prop, Q (lt x y) s' → wpAny (model prog w) A (oneLt' true x y) Q (fun _ _ => False) s')
    (q : ∀ out : Array Value, out.toList.Perm vs → P (.done (.ret .none)) { s with heap := sortedHeap s.heap a vs out }) : wpAny (model prog w) A (Builtin.«list.sort» { pos := [.ref a] }) P E s := by
  have hz : sizeLine = 16777216 := sizeLine_eq
  rw [list_sort_plain]
  refine wpAny_bind (listItems_at ha rfl ?_)
  refine wpAny_bind (listUpdate_at ha rfl ?_ (by simp; omega) (by simp))
  obtain ⟨e1, g1⟩ : ∃ e1, (s.heap.update a (Obj.mapSeq fun _ => #[])).get? a = some (seqObj "list" #[] e1) := ⟨_, Heap.get?_update_self _ ha rfl⟩
  refine wpAny_bind (seqEpoch_at g1 rfl ?_)
  refine wpAny_bind (wpAny_newTuple ?_ (by simp; omega))
  refine wpAny_bind (wpAny_newList ?_ (by simp))
  refine wpAny_holding ?_
  have g3 := Heap.get?_push_of_some { cls := .type "list", data := .seq ([] : List Value).toArray } (Heap.get?_push_of_some { cls := .type "tuple", data := .seq vs.toArray.toList.toArray } g1)
  have keep : ∀ b o, b ≠ a → s.heap.get? b = some o → (((s.heap.update a (Obj.mapSeq fun _ => #[])).push { cls := .type "tuple", data := .seq vs.toArray.toList.toArray }).push { cls := .type "list", data := .seq ([] : List Value).toArray }).get? b = some o := fun b o nb h => Heap.get?_push_of_some _ (Heap.get?_push_of_some _ (Heap.get?_update_of_ne _ (Ne.symm nb) h))
  have ht : (e1 != e1) = false := by simp
  by_cases c : vs.length < 2
  · have c' : vs.toArray.size < 2 := by simpa using c
    rw [if_pos c']
    refine wpAny_bind (wpAny_pure ?_)
    dsimp only
    rw [if_pos c']
    refine wpAny_bind (wpAny_pure ?_)
    refine wpAny_bind (seqEpoch_at g3 rfl ?_)
    refine wpAny_bind (listUpdate_at g3 rfl ?_ (by simp) (by
      show (Array.map (fun (x : Value × Value) => x.2) (vs.toArray.zip vs.toArray)).size ≤ sizeLine + 1
      rw [zip_snd]
      omega))
    dsimp only
    rw [ht]
    refine wpAny_pure (q _ ?_)
    show (Array.map (fun (x : Value × Value) => x.2) (vs.toArray.zip vs.toArray)).toList.Perm vs
    rw [zip_snd]
  · have c' : ¬ vs.toArray.size < 2 := by simpa using c
    rw [if_neg c']
    refine wpAny_bind (kas_kind (T := .type "list") (by omega) (fun v hv => ?_) rfl rfl ?_)
    · obtain ⟨b, o, rfl, nb, hb, ho⟩ := hT v hv
      exact looks_list (keep b o nb hb) ho
    dsimp only
    rw [if_neg c']
    have ez : (pairsOf vs).size = vs.length := by simp [pairsOf]
    have est : SortSt.mk' oneType' (vs.toArray.zip vs.toArray) #[] 7 none = kas_st oneType' (pairsOf vs) (List.range vs.length).toArray := by
      have := kas_range (pairsOf vs)
      rw [ez] at this
      unfold kas_st
      rw [this]
      rfl
    rw [est]
    have hit : ∀ i, kas_item (pairsOf vs) i = (vs.getD i .none, vs.getD i .none) := kas_item_eq vs
    have hmem : ∀ i, i < vs.length → vs.getD i .none ∈ vs := fun i hi => by
      rw [List.getD_eq_getElem?_getD, List.getElem?_eq_getElem hi]
      exact List.getElem_mem hi
    refine wpAny_bind (thn (kas_runs (Q := fun _ st' s' => s' = _ ∧ failedOf st' = none ∧ (Array.map (fun (x : Value × Value) => x.2) (arrOf st')).toList.Perm vs) (G := fun p s' => s' = _ ∧ PR vs.length p) (by omega) h64 (fun p' st' s' hsz harr hf hG => ⟨hG.1, hf, ?_⟩) (TOk.wp (lt := fun i j => lt (vs.getD i .none) (vs.getD j .none)) (n := vs.length) (P := PR vs.length) (fun i j C hi hj hC => ?_) (ok_sort (by omega)) fun p hp => ⟨rfl, hp⟩)) fun r s' ⟨es, hf, hp⟩ => ?_)
    · rw [harr, Array.map_map]
      have e2 : (Array.map ((fun (x : Value × Value) => x.2) ∘ kas_item (pairsOf vs)) p').toList = p'.toList.map fun i => vs.getD i .none := by
        rw [Array.toList_map]
        apply List.map_congr_left
        intro i _
        show (kas_item (pairsOf vs) i).2 = _
        rw [hit]
      rw [e2]
      have pp : p'.toList.Perm (List.range vs.length) := by simpa using hG.2.toList
      refine (pp.map _).trans ?_
      have e3 : (List.range vs.length).map (fun i => vs.getD i .none) = vs := by
        apply List.ext_getElem
        · simp
        · intro i h1 h2
          simp at h1
          simp [List.getD_eq_getElem?_getD, h1]
      rw [e3]
    · show wpAny _ _ (keyLt' oneType' (kas_item (pairsOf vs) i).1 (kas_item (pairsOf vs) j).1) _ _ _
      rw [hit, hit, keyLt'_oneType]
      exact hc _ keep _ (hmem i hi) _ (hmem j hj) C hC
    · subst es
      obtain ⟨⟨⟩, st'⟩ := r
      refine wpAny_bind (seqEpoch_at g3 rfl ?_)
      refine wpAny_bind (listUpdate_at g3 rfl ?_ (by simp) (by
        have := hp.length_eq
        simp at this ⊢
        omega))
      dsimp only at hf ⊢
      rw [ht, hf]
      exact wpAny_pure (q _ hp)
theorem sorted_lists {prog : Program} {w : World} {A : Around} {E : Value → Shared → Prop} {s : Shared} {l : Addr} {vs : List Value} {Q : Value → Shared → Prop} (lt : Value → Value → Bool) (hl : s.heap.IsList l vs.toArray) (h64 : vs.length < 64)
    (hT : ∀ v ∈ vs, ∃ b o, v = .ref b ∧ s.heap.get? b = some o ∧ o.cls = .type "list")
    (hc : ∀ s' : Shared, (∀ b o, s.heap.get? b = some o → s'.heap.get? b = some o) → ∀ x ∈ vs, ∀ y ∈ vs, ∀ Q : Bool → Shared → Prop, Q (lt x y) s' → wpAny (model prog w) A.in1.in1 (oneLt' true x y) Q (fun _ _ => False) s')
    (q : ∀ out : Array Value, out.toList.Perm vs → Q (.ref (s.heap.objs.size + 1)) { s with heap := sortedAll s.heap vs out }) : wpAny (model prog w) A (call (.builtin "sorted") [.ref l]) Q E s := by
  have hz : sizeLine = 16777216 := sizeLine_eq
  refine call_function_entry_kw kind_sorted plain_sorted entry_sorted (args_sorted1 _) ?_
  refine wpAny_bind (wpAny_pure ?_)
  refine wpAny_bind (collect_list hl ?_ (by omega))
  refine wpAny_bind (wpAny_newList ?_ (by omega))
  have sz : ((s.heap.push (seqObj "list" #[] 0)).update s.heap.objs.size (Obj.mapSeq fun x => x ++ vs.toArray)).objs.size = s.heap.objs.size + 1 := by simp [Heap.push, Heap.update]
  have old : ∀ b o, s.heap.get? b = some o → (((s.heap.push (seqObj "list" #[] 0)).update s.heap.objs.size (Obj.mapSeq fun x => x ++ vs.toArray)).push (seqObj "list" vs.toArray 0)).get? b = some o := fun b o h => Heap.get?_push_of_some _ (Heap.get?_update_of_ne _ (Nat.ne_of_gt (Heap.lt_size h)) (Heap.get?_push_of_some _ h))
  refine wpAny_bind (wpAny_holding (wpAny_call_entry_kw (T := "list") slot_list_sort ⟨_, Heap.get?_push_size _ rfl, rfl⟩ entry_list_sort (list_sortL lt (Heap.get?_push_size _ rfl) h64 (fun v hv => ?_) (fun s' hk => hc s' fun b o h => ?_) fun out hp => ⟨_, rfl, ?_⟩) (args_list_sort _)))
  · obtain ⟨b, o, rfl, hb, ho⟩ := hT v hv
    refine ⟨b, o, rfl, ?_, old b o hb, ho⟩
    have := Heap.lt_size hb
    show b ≠ _
    rw [sz]
    exact Nat.ne_of_lt (Nat.lt_succ_of_lt this)
  · refine hk b o ?_ (old b o h)
    have := Heap.lt_size h
    show b ≠ _
    rw [sz]
    exact Nat.ne_of_lt (Nat.lt_succ_of_lt this)
  · refine wpAny_pure ⟨_, rfl, ?_⟩
    have z := q out hp
    unfold sortedAll at z
    dsimp only at sz ⊢
    rw [sz]
    exact z

section
variable {X : Cx}
theorem vals_perm {out us : List Value} (p : out.Perm us) : ∀ {xs : List V}, Vals xs us → ∃ ys, Vals ys out ∧ ys.Perm xs := by
  induction p with
  | nil => intro xs r; cases r; exact ⟨[], .nil, .nil⟩
  | cons v _ ih =>
    intro xs r
    cases r with
    | cons h r =>
      obtain ⟨ys, r', p'⟩ := ih r
      exact ⟨_, .cons h r', .cons _ p'⟩
  | swap a b l =>
    intro xs r
    cases r with
    | cons h1 r =>
      cases r with
      | cons h2 r => exact ⟨_, .cons h2 (.cons h1 r), .swap _ _ _⟩
  | trans _ _ ih1 ih2 =>
    intro xs r
    obtain ⟨ys, r1, p1⟩ := ih2 r
    obtain ⟨zs, r2, p2⟩ := ih1 r1
    exact ⟨zs, r2, p2.trans p1⟩
/-- a list of whole numbers -/
def LiV (K : PySem.W.Frag) (H : Hp) (v : V) (ns : List Int) : Prop := ∃ a, v = .ref a ∧ SqL K H a (ns.map V.int)
/-- sorted(xs), of less than 64 lists of whole numbers: the same ones in some order -/
def rSortedL (K : PySem.W.Frag) : List V → Hp → VK → Prop := fun xs H Q => ∃ (p : Addr) (vs : List V), xs = [.ref p] ∧ SqL K H p vs ∧ vs.length < 64 ∧ (∀ v ∈ vs, ∃ ns, LiV K H v ns) ∧ ∀ (l : Addr) (ws : List V), H l = none → ws.Perm vs → Q (.ref l) (upd H l (.lst ws))
theorem vals_mem {xs : List V} {us : List Value} (r : Vals xs us) : ∀ u ∈ us, ∃ x ∈ xs, RelV x u := by
  induction r with
  | nil => intro u hu; cases hu
  | cons h _ ih =>
    intro u hu
    rcases List.mem_cons.mp hu with rfl | hu
    · exact ⟨_, List.mem_cons_self .., h⟩
    · obtain ⟨x, hx, r⟩ := ih u hu
      exact ⟨x, List.mem_cons_of_mem _ hx, r⟩
noncomputable def ltOf (h : Heap) (x y : Value) : Bool := by
  classical
  exact if e : ∃ b : Bool, ∃ a c xs ys ns ms, x = .ref a ∧ y = .ref c ∧ h.IsList a xs ∧ h.IsList c ys ∧ IntsAre xs.toList ns ∧ IntsAre ys.toList ms ∧ b = HT.lexLt ns ms then e.choose else false
theorem ltOf_eq {h : Heap} {a c : Addr} {xs ys : Array Value} {ns ms : List Int} (h1 : h.IsList a xs) (h2 : h.IsList c ys) (i1 : IntsAre xs.toList ns) (i2 : IntsAre ys.toList ms) : ltOf h (.ref a) (.ref c) = HT.lexLt ns ms := by
  have e : ∃ b : Bool, ∃ a' c' xs ys ns ms, Value.ref a = .ref a' ∧ Value.ref c = .ref c' ∧ h.IsList a' xs ∧ h.IsList c' ys ∧ IntsAre xs.toList ns ∧ IntsAre ys.toList ms ∧ b = HT.lexLt ns ms := ⟨_, a, c, xs, ys, ns, ms, rfl, rfl, h1, h2, i1, i2, rfl⟩
  unfold ltOf
  rw [dif_pos e]
  obtain ⟨a', c', xs', ys', ns', ms', ea, ec, h1', h2', i1', i2', eb⟩ := e.choose_spec
  cases ea
  cases ec
  have ex : xs' = xs := by
    obtain ⟨o, g, _, n, d⟩ := h1
    obtain ⟨o', g', _, n', d'⟩ := h1'
    rw [g] at g'
    cases g'
    rw [d] at d'
    cases d'
    rfl
  have ey : ys' = ys := by
    obtain ⟨o, g, _, n, d⟩ := h2
    obtain ⟨o', g', _, n', d'⟩ := h2'
    rw [g] at g'
    cases g'
    rw [d] at d'
    cases d'
    rfl
  subst ex ey
  have e1 : ns' = ns := i1'.numsOf.symm.trans i1.numsOf
  have e2 : ms' = ms := i2'.numsOf.symm.trans i2.numsOf
  rw [eb, e1, e2]
theorem call_sortedL (hu : X.A.units + 64 < cLine) : CallR X (.builtin "sorted") (rSortedL X.K) := by
  intro pins s σ H xs us Q I r h
  obtain ⟨p, vs, rfl, hq, h64, hv, q⟩ := h
  obtain ⟨u, rfl, rx⟩ := vals1 r
  cases rx
  obtain ⟨its, r', pl, hz⟩ := I.list hq
  have hlen := r'.length
  have each : ∀ u ∈ its, ∃ a zs ns, u = .ref a ∧ s.heap.IsList a zs ∧ IntsAre zs.toList ns := fun u hu => by
    obtain ⟨x, hx, rx⟩ := vals_mem r' u hu
    obtain ⟨ns, a, rfl, ha⟩ := hv x hx
    cases rx
    obtain ⟨its2, r2, pl2, _⟩ := I.list ha
    exact ⟨a, its2.toArray, ns, rfl, pl2.isList, by simpa using vals_ints2 r2⟩
  refine sorted_lists (ltOf s.heap) pl.isList (by omega) (fun v hv => ?_) (fun s' hk x hx y hy Q' hQ => ?_) fun out hp => ?_
  · obtain ⟨a, zs, ns, rfl, ⟨o, g, c, _⟩, _⟩ := each v hv
    exact ⟨a, o, rfl, g, c⟩
  · obtain ⟨a, zs, ns, rfl, h1, i1⟩ := each x hx
    obtain ⟨b, ws, ms, rfl, h2, i2⟩ := each y hy
    rw [ltOf_eq h1 h2 i1 i2] at hQ
    obtain ⟨o1, g1, c1⟩ := h1
    obtain ⟨o2, g2, c2⟩ := h2
    refine oneLt_lists ⟨o1, hk _ _ g1, c1⟩ ⟨o2, hk _ _ g2, c2⟩ i1 i2 ?_ hQ
    show X.A.in1.in1.units < cLine
    exact Nat.lt_of_le_of_lt (Nat.le_of_eq rfl : X.A.in1.in1.units ≤ X.A.units + 2) (by omega)
  · obtain ⟨ws, rw', pw⟩ := vals_perm hp r'
    obtain ⟨e, he⟩ := sortedAll_at s.heap its out
    have ml : ws.length ≤ sizeLine := by rw [pw.length_eq]; exact hz
    exact ⟨.ref (s.heap.objs.size + 1), _, I.laid (t' := s.toks) (fun b o e => sortedAll_old e) (Nat.le_succ _) (show ObjOk X.prog X.w _ _ _ (.lst ws) from ⟨ml, out.toList, e, rw', he⟩), rfl, q _ ws (I.hok.fresh (Nat.le_succ _)) pw⟩
end
end L2

end

/-! HOW MANY WAYS: the count of a search that comes to no place twice; at most 54 with eleven roads, at most 54 more by one road more. -/
namespace Cnt
abbrev Pr := Nat × Nat
def tm (t v : Nat) (seen : List Nat) (c : Nat → Nat) (p : Pr) : Nat := if p.1 = v then (if p.2 = t then 1 else if p.2 ∈ seen then 0 else c p.2) else 0
def cnt (G : List Pr) (t : Nat) : Nat → List Nat → Nat → Nat
  | 0, _, _ => 0
  | f + 1, seen, v => (G.map (tm t v seen fun u => cnt G t f (u :: seen) u)).sum
def F : Nat → Nat
  | 0 => 1 | 1 => 1 | 2 => 2 | 3 => 3 | 4 => 4 | 5 => 6 | 6 => 9 | 7 => 12 | 8 => 18 | 9 => 27 | 10 => 36 | 11 => 54 | _ => 81
theorem F_mul : ∀ m, m ≤ 12 → ∀ d, d ≤ m → 1 ≤ d → d * F (m - d) ≤ F m := by decide
theorem F_mono : ∀ m, m ≤ 12 → ∀ d, d ≤ m → F d ≤ F m := by decide
theorem F_one : ∀ m, 1 ≤ F m := by
  intro m
  unfold F
  split <;> decide
/-- roads that begin at none of these -/
def out (G : List Pr) (rest : List Nat) : Nat := (G.filter fun p => decide (p.1 ∉ rest)).length
def deg (G : List Pr) (v : Nat) : Nat := (G.filter fun p => decide (p.1 = v)).length
theorem out_le {G : List Pr} {rest : List Nat} : out G rest ≤ G.length := List.length_filter_le _ _
theorem out_step {v : Nat} {rest : List Nat} (h : v ∉ rest) : ∀ {G : List Pr}, out G rest = out G (v :: rest) + deg G v
  | [] => rfl
  | p :: G => by
    have ih := out_step h (G := G)
    unfold out deg at ih ⊢
    rw [List.filter_cons, List.filter_cons, List.filter_cons]
    by_cases c : p.1 = v
    · have a1 : p.1 ∉ rest := by rw [c]; exact h
      have a2 : ¬ (p.1 ∉ v :: rest) := by simp [c]
      rw [if_pos (by simp [a1]), if_neg (by simp [c]), if_pos (by simp [c])]
      simp only [List.length_cons]
      omega
    · by_cases a : p.1 ∈ rest
      · rw [if_neg (by simp [a]), if_neg (by simp [a]), if_neg (by simp [c])]
        exact ih
      · rw [if_pos (by simp [a]), if_pos (by simp [a, c]), if_neg (by simp [c])]
        simp only [List.length_cons]
        omega
theorem sum_deg {t v : Nat} {seen : List Nat} {c : Nat → Nat} {B : Nat} (h1 : 1 ≤ B) : ∀ {G : List Pr}, (∀ u, u ∉ seen → c u ≤ B) → (G.map (tm t v seen c)).sum ≤ deg G v * B
  | [], _ => by simp
  | p :: G, h => by
    have ih := sum_deg h1 (G := G) (t := t) (v := v) h
    unfold deg at ih ⊢
    rw [List.map_cons, List.sum_cons, List.filter_cons]
    by_cases e : p.1 = v
    · rw [if_pos (by simp [e]), List.length_cons, Nat.succ_mul]
      have : tm t v seen c p ≤ B := by
        unfold tm
        rw [if_pos e]
        split
        · exact h1
        · split
          · omega
          · rename_i z
            exact h _ z
      omega
    · rw [if_neg (by simp [e])]
      have : tm t v seen c p = 0 := by unfold tm; rw [if_neg e]
      omega
theorem cnt_le {G : List Pr} {t : Nat} (hG : G.length ≤ 12) : ∀ (f : Nat) (rest : List Nat) (v : Nat), v ∉ rest → cnt G t f (v :: rest) v ≤ F (out G rest)
  | 0, rest, v, _ => Nat.zero_le _
  | f + 1, rest, v, hv => by
    have e := out_step hv (G := G)
    have le := out_le (G := G) (rest := rest)
    have key : cnt G t (f + 1) (v :: rest) v ≤ deg G v * F (out G (v :: rest)) := sum_deg (F_one _) fun u hu => cnt_le hG f (v :: rest) u hu
    by_cases d0 : deg G v = 0
    · rw [d0] at key
      omega
    · have := F_mul (out G rest) (by omega) (deg G v) (by omega) (by omega)
      rw [show out G rest - deg G v = out G (v :: rest) by omega] at this
      omega
theorem cnt_max {G : List Pr} {t f v : Nat} (hG : G.length ≤ 12) : cnt G t f [v] v ≤ F G.length := by
  have h := cnt_le hG (t := t) f [] v (by simp)
  have := F_mono G.length hG (out G []) out_le
  omega
/-- a road that can't be gone along any more -/
theorem cnt_dead {G : List Pr} {t : Nat} {r : Pr} : ∀ (f : Nat) (rest : List Nat) (v : Nat), v ∉ rest → r.1 ∈ rest → cnt (r :: G) t f (v :: rest) v = cnt G t f (v :: rest) v
  | 0, _, _, _, _ => rfl
  | f + 1, rest, v, hv, hr => by
    unfold cnt
    rw [List.map_cons, List.sum_cons]
    have e0 : tm t v (v :: rest) (fun u => cnt (r :: G) t f (u :: v :: rest) u) r = 0 := by
      unfold tm
      rw [if_neg (fun (z : r.1 = v) => hv (z ▸ hr))]
    rw [e0, Nat.zero_add]
    congr 1
    apply List.map_congr_left
    intro p _
    unfold tm
    split
    · split
      · rfl
      · split
        · rfl
        · rename_i z
          exact cnt_dead f (v :: rest) p.2 z (List.mem_cons_of_mem _ hr)
    · rfl
theorem sum_more {t v : Nat} {seen : List Nat} {c c' : Nat → Nat} {B : Nat} : ∀ {G : List Pr}, (∀ u, u ∉ seen → c' u ≤ c u + B) → (G.map (tm t v seen c')).sum ≤ (G.map (tm t v seen c)).sum + deg G v * B
  | [], _ => by simp
  | p :: G, h => by
    have ih := sum_more (G := G) (t := t) (v := v) h
    unfold deg at ih ⊢
    rw [List.map_cons, List.sum_cons, List.map_cons, List.sum_cons, List.filter_cons]
    by_cases e : p.1 = v
    · rw [if_pos (by simp [e]), List.length_cons, Nat.succ_mul]
      have : tm t v seen c' p ≤ tm t v seen c p + B := by
        unfold tm
        rw [if_pos e, if_pos e]
        split
        · omega
        · split
          · omega
          · rename_i z
            exact h _ z
      omega
    · rw [if_neg (by simp [e])]
      have e1 : tm t v seen c' p = 0 := by unfold tm; rw [if_neg e]
      have e2 : tm t v seen c p = 0 := by unfold tm; rw [if_neg e]
      omega
theorem cnt_more {G : List Pr} {t : Nat} {r : Pr} (hG : G.length ≤ 12) : ∀ (f : Nat) (rest : List Nat) (v : Nat), v ∉ rest → cnt (r :: G) t f (v :: rest) v ≤ cnt G t f (v :: rest) v + F (out G rest)
  | 0, _, _, _ => Nat.zero_le _
  | f + 1, rest, v, hv => by
    have e := out_step hv (G := G)
    have le := out_le (G := G) (rest := rest)
    unfold cnt
    rw [List.map_cons, List.sum_cons]
    by_cases c : r.1 = v
    · have e1 : (G.map (tm t v (v :: rest) fun u => cnt (r :: G) t f (u :: v :: rest) u)).sum = (G.map (tm t v (v :: rest) fun u => cnt G t f (u :: v :: rest) u)).sum := by
        congr 1
        apply List.map_congr_left
        intro p _
        unfold tm
        split
        · split
          · rfl
          · split
            · rfl
            · rename_i z
              exact cnt_dead f (v :: rest) p.2 z (by simp [c])
        · rfl
      have e2 : tm t v (v :: rest) (fun u => cnt (r :: G) t f (u :: v :: rest) u) r ≤ F (out G rest) := by
        unfold tm
        rw [if_pos c]
        split
        · exact F_one _
        · split
          · omega
          · rename_i z
            show cnt (r :: G) t f (r.2 :: v :: rest) r.2 ≤ _
            rw [cnt_dead (r := r) f (v :: rest) r.2 z (by simp [c])]
            have h1 := cnt_le hG (t := t) f (v :: rest) r.2 z
            have h2 := F_mono (out G rest) (by omega) (out G (v :: rest)) (by omega)
            omega
      omega
    · have e0 : tm t v (v :: rest) (fun u => cnt (r :: G) t f (u :: v :: rest) u) r = 0 := by unfold tm; rw [if_neg c]
      have key := sum_more (G := G) (t := t) (v := v) (seen := v :: rest) (c := fun u => cnt G t f (u :: v :: rest) u) (c' := fun u => cnt (r :: G) t f (u :: v :: rest) u) (B := F (out G (v :: rest))) fun u hu => cnt_more hG f (v :: rest) u hu
      have h3 : deg G v * F (out G (v :: rest)) ≤ F (out G rest) := by
        by_cases d0 : deg G v = 0
        · rw [d0]
          omega
        · have := F_mul (out G rest) (by omega) (deg G v) (by omega) (by omega)
          rw [show out G rest - deg G v = out G (v :: rest) by omega] at this
          exact this
      omega
theorem sum_le {t v : Nat} {seen : List Nat} {c c' : Nat → Nat} : ∀ {G : List Pr}, (∀ u, u ∉ seen → c u ≤ c' u) → (G.map (tm t v seen c)).sum ≤ (G.map (tm t v seen c')).sum
  | [], _ => by simp
  | p :: G, h => by
    have ih := sum_le (G := G) (t := t) (v := v) h
    rw [List.map_cons, List.sum_cons, List.map_cons, List.sum_cons]
    have : tm t v seen c p ≤ tm t v seen c' p := by
      unfold tm
      split
      · split
        · omega
        · split
          · omega
          · rename_i z
            exact h _ z
      · omega
    omega
theorem cnt_grow {G : List Pr} {t : Nat} {r : Pr} : ∀ (f : Nat) (seen : List Nat) (v : Nat), cnt G t f seen v ≤ cnt (r :: G) t f seen v
  | 0, _, _ => Nat.le_refl _
  | f + 1, seen, v => by
    unfold cnt
    rw [List.map_cons, List.sum_cons]
    have := sum_le (G := G) (t := t) (v := v) (seen := seen) (c := fun u => cnt G t f (u :: seen) u) (c' := fun u => cnt (r :: G) t f (u :: seen) u) fun u _ => cnt_grow f (u :: seen) u
    omega
theorem perm_sum {α : Type} {f : α → Nat} {G G' : List α} (p : G.Perm G') : (G.map f).sum = (G'.map f).sum := by
  induction p with
  | nil => rfl
  | cons a _ ih => simp [ih]
  | swap a b l => simp; omega
  | trans _ _ h1 h2 => rw [h1, h2]
theorem cnt_perm {G G' : List Pr} {t : Nat} (p : G.Perm G') : ∀ (f : Nat) (seen : List Nat) (v : Nat), cnt G t f seen v = cnt G' t f seen v
  | 0, _, _ => rfl
  | f + 1, seen, v => by
    unfold cnt
    have e : (G.map (tm t v seen fun u => cnt G t f (u :: seen) u)) = (G.map (tm t v seen fun u => cnt G' t f (u :: seen) u)) := by
      apply List.map_congr_left
      intro q _
      unfold tm
      dsimp only
      rw [cnt_perm p f]
    rw [e, perm_sum p]
/-- a straight road, and one over another place -/
theorem mem_le_sum {α : Type} {f : α → Nat} {G : List α} {a : α} (h : a ∈ G) : f a ≤ (G.map f).sum := by
  induction G with
  | nil => cases h
  | cons b G ih =>
    rw [List.map_cons, List.sum_cons]
    rcases List.mem_cons.mp h with rfl | h
    · omega
    · have := ih h
      omega
theorem cnt_one {G : List Pr} {t v f : Nat} {seen : List Nat} (h : (v, t) ∈ G) : 1 ≤ cnt G t (f + 1) seen v := by
  have := mem_le_sum (f := tm t v seen fun u => cnt G t f (u :: seen) u) h
  have e : tm t v seen (fun u => cnt G t f (u :: seen) u) (v, t) = 1 := by simp [tm]
  unfold cnt
  omega
theorem cnt_two {G : List Pr} {t v u f : Nat} {seen : List Nat} (h1 : (v, u) ∈ G) (h2 : (u, t) ∈ G) (hu : u ∉ seen) (ut : u ≠ t) : 1 ≤ cnt G t (f + 2) seen v := by
  have := mem_le_sum (f := tm t v seen fun u => cnt G t (f + 1) (u :: seen) u) h1
  have e : tm t v seen (fun u => cnt G t (f + 1) (u :: seen) u) (v, u) = cnt G t (f + 1) (u :: seen) u := by simp [tm, ut, hu]
  have := cnt_one (f := f) (seen := u :: seen) h2
  unfold cnt
  omega
end Cnt

section
set_option maxHeartbeats 1000000
/-! xs[::-1]: a list of its own items; steps for repeated lists. -/
namespace L2
open PySem PySem.Spec PyProof.Rows
section
variable {X : Cx}
theorem vals_pick {xs : List V} {us : List Value} (r : Vals xs us) : ∀ (ix : List Nat), Vals (ix.filterMap fun i => xs[i]?) (ix.filterMap fun i => us[i]?)
  | [] => .nil
  | i :: ix => by
    have ih := vals_pick r ix
    cases e : xs[i]? with
    | none =>
      have e2 : us[i]? = none := by
        have := r.length
        simp at e ⊢
        omega
      rw [List.filterMap_cons_none e, List.filterMap_cons_none e2]
      exact ih
    | some x =>
      obtain ⟨u, e2, ru⟩ := r.get e
      rw [List.filterMap_cons_some e, List.filterMap_cons_some e2]
      exact .cons ru ih
/-- xs[::k], k not nought: some of its items -/
def rRev (K : PySem.W.Frag) (x : V) (k : Option Int) (H : Hp) (Q : VK) : Prop := ∃ a xs, x = .ref a ∧ SqL K H a xs ∧ k ≠ some 0 ∧ ∀ p ys, H p = none → ys.length ≤ sizeLine → (∀ y ∈ ys, y ∈ xs) → (k = some (-1) → ys.length = xs.length) → Q (.ref p) (upd H p (.lst ys))
def tRev (K : PySem.W.Frag) (te : TE) (ts : TO) : TE := fun σ H Q => te σ H fun x H1 => ts σ H1 fun k H2 => k = some (-1) ∧ rRev K x k H2 Q
theorem fm_len {α β : Type} {f : α → Option β} : ∀ {l : List α}, (∀ a ∈ l, ∃ b, f a = some b) → (l.filterMap f).length = l.length
  | [], _ => rfl
  | a :: l, h => by
    obtain ⟨b, e⟩ := h a (by simp)
    rw [List.filterMap_cons_some e, List.length_cons, List.length_cons, fm_len fun x hx => h x (List.mem_cons_of_mem _ hx)]
theorem pick_rev (n : Nat) (xs : List V) (hn : n = xs.length) : ((sliceRange (sliceBounds none none (some (-1)) n).1 (sliceBounds none none (some (-1)) n).2.1 (sliceBounds none none (some (-1)) n).2.2).filterMap fun i => xs[i]?).length = n := by
  have e : sliceRange (sliceBounds none none (some (-1)) n).1 (sliceBounds none none (some (-1)) n).2.1 (sliceBounds none none (some (-1)) n).2.2 = (List.range n).map fun k => n - 1 - k := by
    have z : sliceBounds none none (some (-1)) n = ((n : Int) - 1, -1, -1) := by simp [sliceBounds]
    rw [z]
    unfold sliceRange
    dsimp only
    rw [if_neg (by decide)]
    have c : (if (n : Int) - 1 > -1 then ((n : Int) - 1 - -1 - -1 - 1) / -(-1) else 0).toNat = n := by
      by_cases h : (n : Int) - 1 > -1
      · rw [if_pos h]
        simp
      · rw [if_neg h]
        omega
    rw [c]
    apply List.map_congr_left
    intro k hk
    have := List.mem_range.mp hk
    omega
  rw [e]
  have f : ((List.range n).map fun k => n - 1 - k).filterMap (fun i => xs[i]?) = (List.range n).filterMap (fun k => xs[n - 1 - k]?) := by
    rw [List.filterMap_map]
    rfl
  rw [f]
  rw [fm_len fun k hk => ⟨xs.getD (n - 1 - k) .non, ?_⟩]
  · simp
  · have := List.mem_range.mp hk
    rw [List.getD_eq_getElem?_getD, List.getElem?_eq_getElem (by omega)]
    rfl
theorem pe_rev {e : Expr} {te : TE} {st : Expr} {ts : TO} {p2 pos : Pos} (he : PE X e te) (hs : PO X (some st) ts) (hl : ∀ (o r : Value), letTemporaryGo e o r = pure () := by intros; rfl) : PE X (.Subscript e (.Slice none none (some st) p2) pos) (tRev X.K te ts) := by
  intro pins s σ H Q I h
  refine wpAny_Subscript_Slice_step (T := "list") slot_list_getitem.lookup (thn (he pins s σ H _ I h) fun v s1 ⟨x, H1, I1, r1, q1⟩ => ?_) hl
  refine wpAny_Slice ?_
  rw [evalPart_none]
  refine wpAny_pure (wpAny_pure ?_)
  refine thn (hs pins s1 σ H1 _ I1 q1) fun vs s2 ⟨k, H2, I2, ps, ek, q2⟩ => ?_
  subst ek
  obtain ⟨a, xs, rfl, hx, k0, q⟩ := q2
  cases r1
  have I4 : Inv X pins σ H2 { s2 with heap := s2.heap.push { cls := .type "slice", data := .fields #[.none, .none, vs] } } := I2.kept (t' := s2.toks) fun b ob q => Heap.get?_push_of_some _ q
  obtain ⟨its, r, ht, hz⟩ := I4.list hx
  have hlen := r.length
  refine ⟨ht.isList.typeIs, ?_⟩
  refine wpAny_getItem_list_slice ht.isList (Heap.IsSliceOf.new ..) .none .none ps (by decide) ?_ (by rw [List.size_toArray]; omega)
  obtain ⟨ix, eix⟩ : ∃ ix, ix = sliceRange (sliceBounds none none (some (-1)) its.toArray.size).1 (sliceBounds none none (some (-1)) its.toArray.size).2.1 (sliceBounds none none (some (-1)) its.toArray.size).2.2 := ⟨_, rfl⟩
  have ep : slicePick its.toArray none none (some (-1)) = (ix.filterMap fun i => its[i]?).toArray := by
    unfold slicePick
    rw [← eix]
    simp
  rw [ep]
  have lp : (ix.filterMap fun i => xs[i]?).length = xs.length := by
    rw [eix]
    have := pick_rev its.toArray.size xs (by simp; omega)
    rw [this]
    simp
    omega
  have lz : (ix.filterMap fun i => xs[i]?).length ≤ sizeLine := by omega
  refine ⟨.ref _, _, I4.laid (t' := s2.toks) (o := .lst (ix.filterMap fun i => xs[i]?)) (fun b ob q => Heap.get?_push_of_some _ q) (Nat.le_refl _) ?_, rfl, q _ _ (I4.hok.fresh (Nat.le_refl _)) lz (fun y hy => ?_) fun _ => lp⟩
  · exact ⟨lz, _, 0, vals_pick r ix, Heap.get?_push_size _ rfl⟩
  · obtain ⟨i, _, e⟩ := List.mem_filterMap.mp hy
    exact List.mem_of_getElem? e
end
section
variable {K : PySem.W.Frag} {σ : St} {H : Hp} {Q : VK} {te : TE} {ts : TO} {a : Addr} {xs : List V}
theorem s_rev (h : te σ H fun x H1 => ts σ H1 fun k H2 => k = some (-1) ∧ rRev K x k H2 Q) : tRev K te ts σ H Q := h
theorem s_revL (h : SqL K H a xs) (q : ∀ p ys H', H p = none → Same H H' → H' p = some (.lst ys) → (∀ y ∈ ys, y ∈ xs) → ys.length = xs.length → Q (.ref p) H') : some (-1) = some (-1 : Int) ∧ rRev K (.ref a) (some (-1)) H Q := ⟨rfl, a, xs, rfl, h, by decide, fun p ys hp _ hm hl => q p ys _ hp (Same.new hp) upd_same hm (hl rfl)⟩
/-- xs * k -/
theorem s_rep {k : Nat} {x : V} (h : H a = some (.lst [x])) (hk : k ≤ 1000) (q : ∀ p H', H p = none → Same H H' → H' p = some (.lst (List.replicate k x)) → Q (.ref p) H') : rRep (.ref a) (.int (k : Int)) H Q := by
  have e : (List.replicate ((k : Int)).toNat [x]).flatten = List.replicate k x := by
    rw [show ((k : Int)).toNat = k by omega]
    clear q h hk
    induction k with
    | zero => rfl
    | succ k ih =>
      rw [List.replicate_succ, List.flatten_cons, ih, List.replicate_succ]
      rfl
  refine ⟨a, _, [x], rfl, rfl, h, by omega, by omega, ?_, fun p hp => ?_⟩
  · have : sizeLine = 16777216 := sizeLine_eq
    simp
    omega
  · rw [e]
    exact q p _ hp (Same.new hp) upd_same
end
end L2

end

section
set_option maxHeartbeats 1000000
namespace KC
open PySem L2 Fr Cnt
/-- a road, read: base and slope over one bottom -/
structure Road where
  (s e : Nat)
  (b l : Int)
  la : Bool
instance : Inhabited Road := ⟨⟨0, 0, 0, 0, false⟩⟩
def RdV (H : Hp) (v : V) (r : Road) : Prop := ∃ p v1 v2, v = .ref p ∧ H p = some (.tup [.int r.s, .int r.e, v1, v2, .bl r.la]) ∧ v1 = .int r.b ∧ v2 = .int r.l
def FrS (K : PySem.W.Frag) (H : Hp) (v : V) (x y : Int) : Prop := ∃ p, v = .ref p ∧ SqT K H p [.int x, .int y]
def FrB (K : PySem.W.Frag) (B : Int) (H : Hp) (v : V) (x : Int) : Prop := ∃ t b, FrS K H v t b ∧ Low x B t b
def rdAt (rds : List Road) (i : Nat) : Road := rds.getD i default
def OkR (n : Nat) (rds : List Road) : Prop := ∀ r ∈ rds, r.s < n ∧ r.e < n
/-- which roads may be gone along: above a number, lanes or not -/
def mayL (rds : List Road) (lane : Bool) (i : Nat) : Bool := lane || !(rdAt rds i).la
def al (rds : List Road) (lane : Bool) (above : Int) (i : Nat) : Bool := decide (above < (i : Int)) && mayL rds lane i
def prAt (rds : List Road) (i : Nat) : Pr := ((rdAt rds i).s, (rdAt rds i).e)
def gr (rds : List Road) (lane : Bool) (above : Int) (n : Nat) : List Pr := ((List.range n).filter (al rds lane above)).map (prAt rds)
def cntW (rds : List Road) (lane : Bool) (above : Int) (s t : Nat) : Nat := cnt (gr rds lane above rds.length) t 6 [s] s
/-- roads one behind another -/
def Chain (rds : List Road) (ok : Nat → Bool) : Nat → List Nat → Nat → Prop
  | v, [], u => v = u
  | v, k :: w, u => k < rds.length ∧ ok k = true ∧ (rdAt rds k).s = v ∧ Chain rds ok (rdAt rds k).e w u
structure Wi where
  (s e : Nat)
  la : Bool
def WiV (H : Hp) (v : V) (w : Wi) : Prop := ∃ p, v = .ref p ∧ H p = some (.tup [.int w.s, .int w.e, .bl w.la])
def OkW (n : Nat) (wis : List Wi) : Prop := ∀ w ∈ wis, w.s < n ∧ w.e < n ∧ w.s ≠ w.e
def IntsV (H : Hp) (v : V) (w : List Nat) : Prop := ∃ a, v = .ref a ∧ H a = some (.lst (w.map fun (i : Nat) => V.int i))
structure Row where
  num : Nat
  w : List Nat
  isw : Bool
def RowV (H : Hp) (v : V) (r : Row) : Prop := ∃ p a, v = .ref p ∧ H p = some (.tup [.int r.num, .ref a]) ∧ H a = some (.lst (r.w.map fun (i : Nat) => V.int i))
/-- a row leads from its wish's start to its end, or round -/
def OkRow (rds : List Road) (wis : List Wi) (r : Row) : Prop := ∃ w, wis[r.num]? = some w ∧ ((r.isw = true ∧ Chain rds (mayL rds w.la) w.s r.w w.e) ∨ (r.isw = false ∧ ∃ v, Chain rds (mayL rds w.la) v r.w v)) ∧ r.w.length ≤ 7
def ZsV (H : Hp) (v : V) (xs : List Int) : Prop := ∃ a, v = .ref a ∧ H a = some (.lst (xs.map V.int))
def RtV (K : PySem.W.Frag) (B : Int) (H : Hp) (v : V) (r : Road) : Prop := ∃ p v1 v2, v = .ref p ∧ H p = some (.tup [.int r.s, .int r.e, v1, v2, .bl r.la]) ∧ FrB K B H v1 r.b ∧ FrB K B H v2 r.l
def NetV (K : PySem.W.Frag) (B : Int) (H : Hp) (v : V) (n : Nat) (rvs : List V) (rds : List Road) : Prop := ∃ p l, v = .ref p ∧ SqT K H p [.int n, .ref l] ∧ SqL K H l rvs ∧ All2 (RtV K B H) rvs rds
def ShV (K : PySem.W.Frag) (B : Int) (H : Hp) (v : V) (xs : List Int) : Prop := ∃ a vs, v = .ref a ∧ SqL K H a vs ∧ All2 (FrB K B H) vs xs
/-- what goes along each road -/
def loads (size : Nat) (fls : List (List Int)) : List Int := (List.range size).map fun k => (fls.map fun f => f.getD k 0).sum
def timesOf (B : Int) (rds : List Road) (xs : List Int) : List Int := (rds.zip xs).map fun p => p.1.b * B + p.1.l * p.2
def dearOf (B : Int) (rds : List Road) (xs : List Int) : List Int := (rds.zip xs).map fun p => p.1.b * B + p.1.l * (2 * p.2)
def totOf (B : Int) (rds : List Road) (xs : List Int) : Int := ((rds.zip xs).map fun p => p.2 * (p.1.b * B + p.1.l * p.2)).sum
def toldOf (B : Int) (rds : List Road) (xs : List Int) : Int := ((rds.zip xs).map fun p => p.2 * (p.1.b * (2 * B) + p.1.l * p.2)).sum
/-- bounds -/
def OkB (rds : List Road) : Prop := ∀ r ∈ rds, 0 ≤ r.b ∧ r.b ≤ 2 ^ 62 ∧ 0 ≤ r.l ∧ r.l ≤ 2 ^ 62
def OkF (size : Nat) (fls : List (List Int)) : Prop := fls.length ≤ 3 ∧ ∀ f ∈ fls, f.length = size ∧ ∀ x ∈ f, 0 ≤ x ∧ x ≤ 2 ^ 90
def OkL (xs : List Int) : Prop := ∀ x ∈ xs, 0 ≤ x ∧ x ≤ 2 ^ 92
def spGcd : Sp := fun vs H Q _ => ∃ a b : Int, vs = [.int a, .int b] ∧ 0 ≤ a ∧ 0 ≤ b ∧ Q (.int (Int.gcd a b)) H
def spWhole (K : PySem.W.Frag) : Sp := fun vs H Q _ => ∃ x T, vs = [x] ∧ TyOf K H x (.type T) ∧ Q (.bl (isInt x)) H
def spLow (K : PySem.W.Frag) : Sp := fun vs H Q _ => ∃ t b : Int, vs = [.int t, .int b] ∧ b ≠ 0 ∧ Sm b ∧ ∀ x y v H', Same H H' → FrV H' v x y → Low t b x y → Q v H'
def spSum (K : PySem.W.Frag) : Sp := fun vs H Q _ => ∃ B C v1 v2 x y, vs = [v1, v2] ∧ 0 < B ∧ 0 < C ∧ FrB K B H v1 x ∧ FrB K C H v2 y ∧ (Sz 400 B ∧ Sz 400 C ∧ Sz 400 x ∧ Sz 400 y) ∧ ∀ v H', Same H H' → FrB K (B * C) H' v (x * C + y * B) → Q v H'
def spProd (K : PySem.W.Frag) : Sp := fun vs H Q _ => ∃ B C v1 v2 x y, vs = [v1, v2] ∧ 0 < B ∧ 0 < C ∧ FrB K B H v1 x ∧ FrB K C H v2 y ∧ (Sz 400 B ∧ Sz 400 C ∧ Sz 400 x ∧ Sz 400 y) ∧ ∀ v H', Same H H' → FrB K (B * C) H' v (x * y) → Q v H'
def spSumAll (K : PySem.W.Frag) : Sp := fun vs H Q _ => ∃ (B : Int) (l : Addr) (fs : List V) (xs : List Int), vs = [.ref l] ∧ 0 < B ∧ Sz 300 B ∧ SqL K H l fs ∧ All2 (FrB K B H) fs xs ∧ xs.length ≤ 13 ∧ (∀ x ∈ xs, -(2 ^ 350) ≤ x ∧ x ≤ 2 ^ 350) ∧ ∀ v H', Same H H' → FrB K B H' v xs.sum → Q v H'
def spLoads (K : PySem.W.Frag) : Sp := fun vs H Q _ => ∃ (lo B : Int) (nv : V) (ls : Addr) (n : Nat) (rvs svs : List V) (rds : List Road) (fls : List (List Int)), vs = [nv, .ref ls] ∧ 0 < lo ∧ lo ≤ 6 ∧ 0 < B ∧ B ≤ 6 ∧ NetV K lo H nv n rvs rds ∧ SqL K H ls svs ∧ All2 (ShV K B H) svs fls ∧ OkF rds.length fls ∧ rds.length ≤ 12 ∧
  ∀ lw ws H', H lw = none → Same H H' → H' lw = some (.lst ws) → All2 (FrB K B H') ws (loads rds.length fls) → Q (.ref lw) H'
def spTimeW (K : PySem.W.Frag) : Sp := fun vs H Q _ => ∃ (lo B : Int) (rv lv : V) (r : Road) (x : Int), vs = [rv, lv] ∧ 0 < lo ∧ lo ≤ 6 ∧ 0 < B ∧ B ≤ 12 ∧ RtV K lo H rv r ∧ FrB K B H lv x ∧ (0 ≤ r.b ∧ r.b ≤ 2 ^ 62 ∧ 0 ≤ r.l ∧ r.l ≤ 2 ^ 62) ∧ (0 ≤ x ∧ x ≤ 2 ^ 93) ∧
  ∀ v H', Same H H' → FrB K (lo * B) H' v (r.b * B + r.l * x) → Q v H'
def spList4 (K : PySem.W.Frag) (f : Int → List Road → List Int → List Int) : Sp := fun vs H Q _ => ∃ (lo B : Int) (nv : V) (ls : Addr) (n : Nat) (rvs svs : List V) (rds : List Road) (fls : List (List Int)), vs = [nv, .ref ls] ∧ 0 < lo ∧ lo ≤ 6 ∧ 0 < B ∧ B ≤ 6 ∧ NetV K lo H nv n rvs rds ∧ SqL K H ls svs ∧ All2 (ShV K B H) svs fls ∧ OkF rds.length fls ∧ rds.length ≤ 12 ∧ OkB rds ∧
  ∀ lw ws H', H lw = none → Same H H' → H' lw = some (.lst ws) → All2 (FrB K (lo * B) H') ws (f B rds (loads rds.length fls)) → Q (.ref lw) H'
def spNum4 (K : PySem.W.Frag) (f : Int → List Road → List Int → Int) (C : Int → Int → Int) : Sp := fun vs H Q _ => ∃ (lo B : Int) (nv : V) (ls : Addr) (n : Nat) (rvs svs : List V) (rds : List Road) (fls : List (List Int)), vs = [nv, .ref ls] ∧ 0 < lo ∧ lo ≤ 6 ∧ 0 < B ∧ B ≤ 6 ∧ NetV K lo H nv n rvs rds ∧ SqL K H ls svs ∧ All2 (ShV K B H) svs fls ∧ OkF rds.length fls ∧ rds.length ≤ 12 ∧ OkB rds ∧
  ∀ v H', Same H H' → FrB K (C lo B) H' v (f B rds (loads rds.length fls)) → Q v H'
def spTimes (K : PySem.W.Frag) : Sp := spList4 K timesOf
def spDear (K : PySem.W.Frag) : Sp := spList4 K dearOf
def spTot (K : PySem.W.Frag) : Sp := spNum4 K totOf fun lo B => B * (lo * B)
def spToldN (K : PySem.W.Frag) : Sp := spNum4 K toldOf fun lo B => B * (lo * (2 * B))
def spCell (K : PySem.W.Frag) : Sp := fun vs H Q _ => ∃ (a : Addr) (ns : List Int) (k : Int), vs = [.ref a, .int k] ∧ SqL K H a (ns.map V.int) ∧ 0 ≤ k ∧ k ≤ 1000 ∧ ∀ z : Int, Q (.int z) H
def spMixed (K : PySem.W.Frag) : Sp := fun vs H Q _ => ∃ (a : Addr) (ns : List Int) (k : Int), vs = [.ref a, .int k] ∧ SqL K H a (ns.map V.int) ∧ 0 ≤ k ∧ k ≤ 1000 ∧ ∀ z : Int, 0 ≤ z → z < 2147483629 → Q (.int z) H
def spLLow (K : PySem.W.Frag) : Sp := fun vs H Q _ => ∃ t b : Int, vs = [.int t, .int b] ∧ 0 ≤ t ∧ 0 < b ∧ Sm b ∧ ∀ x y v H', Same H H' → FrV H' v x y → Low t b x y → Q v H'
def spWays (K : PySem.W.Frag) : Sp := fun vs H Q _ => ∃ (l : Addr) (n s t : Nat) (lane : Bool) (above : Int) (rvs : List V) (rds : List Road), vs = [.ref l, .int s, .int t, .bl lane, .int above] ∧ SqL K H l rvs ∧ All2 (RdV H) rvs rds ∧ rds.length ≤ 12 ∧ OkR n rds ∧ n ≤ 6 ∧ s < n ∧ cntW rds lane above s t < 64 ∧
  ∀ lw ws ways H', H lw = none → Same H H' → H' lw = some (.lst ws) → All2 (IntsV H') ws ways → ways.length = cntW rds lane above s t → (∀ w ∈ ways, Chain rds (al rds lane above) s w t ∧ w.length ≤ 6) → Q (.ref lw) H'
def spRings (K : PySem.W.Frag) : Sp := fun vs H Q _ => ∃ (l : Addr) (n : Nat) (lane : Bool) (rvs : List V) (rds : List Road), vs = [.ref l, .bl lane] ∧ SqL K H l rvs ∧ All2 (RdV H) rvs rds ∧ rds.length ≤ 12 ∧ OkR n rds ∧ n ≤ 6 ∧
  ∀ lw ws rings H', Same H H' → H' lw = some (.lst ws) → All2 (IntsV H') ws rings → (∀ w ∈ rings, w.length ≤ 7 ∧ ∃ v, Chain rds (mayL rds lane) v w v) → Q (.ref lw) H'
def spMany (K : PySem.W.Frag) : Sp := fun vs H Q _ => ∃ (l lw : Addr) (n : Nat) (rvs wvs : List V) (rds : List Road) (wis : List Wi), vs = [.ref l, .ref lw] ∧ SqL K H l rvs ∧ All2 (RdV H) rvs rds ∧ rds.length ≤ 12 ∧ OkR n rds ∧ n ≤ 6 ∧ SqL K H lw wvs ∧ All2 (WiV H) wvs wis ∧ wis.length ≤ 3 ∧ OkW n wis ∧ (∀ w ∈ wis, cntW rds w.la (-1) w.s w.e < 64) ∧
  ∀ H', Same H H' → Q (.int ((wis.map fun w => (cntW rds w.la (-1) w.s w.e : Int)).sum)) H'
def spWishes (K : PySem.W.Frag) : Sp := fun vs H Q _ => ∃ (a : Addr) (ns : List Int) (n : Nat), vs = [.ref a, .int n] ∧ SqL K H a (ns.map V.int) ∧ 2 ≤ n ∧ n ≤ 6 ∧
  ∀ lw wvs wis H', H lw = none → Same H H' → H' lw = some (.lst wvs) → All2 (WiV H') wvs wis → 1 ≤ wis.length → wis.length ≤ 3 → OkW n wis → Q (.ref lw) H'
def spBegun (K : PySem.W.Frag) : Sp := fun vs H Q _ => ∃ (a lw : Addr) (ns : List Int) (n : Nat) (wvs : List V) (wis : List Wi) (st : Bool), vs = [.ref a, .int n, .ref lw, .bl st] ∧ SqL K H a (ns.map V.int) ∧ 2 ≤ n ∧ n ≤ 6 ∧ SqL K H lw wvs ∧ All2 (WiV H) wvs wis ∧ 1 ≤ wis.length ∧ wis.length ≤ 3 ∧ OkW n wis ∧
  ∀ l rvs rds H', Same H H' → H' l = some (.lst rvs) → All2 (RdV H') rvs rds → 1 ≤ rds.length → rds.length ≤ 6 → OkR n rds → (∀ w ∈ wis, 1 ≤ cntW rds w.la (-1) w.s w.e) → Q (.ref l) H'
def spRoads (K : PySem.W.Frag) : Sp := fun vs H Q _ => ∃ (a lw : Addr) (ns : List Int) (n : Nat) (wvs : List V) (wis : List Wi), vs = [.ref a, .int n, .ref lw] ∧ SqL K H a (ns.map V.int) ∧ 2 ≤ n ∧ n ≤ 6 ∧ SqL K H lw wvs ∧ All2 (WiV H) wvs wis ∧ 1 ≤ wis.length ∧ wis.length ≤ 3 ∧ OkW n wis ∧
  ∀ l rvs rds H', Same H H' → H' l = some (.lst rvs) → All2 (RdV H') rvs rds → 1 ≤ rds.length → rds.length ≤ 12 → OkR n rds → OkB rds → (∀ w ∈ wis, 1 ≤ cntW rds w.la (-1) w.s w.e ∧ cntW rds w.la (-1) w.s w.e ≤ 9) → Q (.ref l) H'
def spRows (K : PySem.W.Frag) : Sp := fun vs H Q _ => ∃ (l lw : Addr) (n : Nat) (rvs wvs : List V) (rds : List Road) (wis : List Wi), vs = [.ref l, .ref lw] ∧ SqL K H l rvs ∧ All2 (RdV H) rvs rds ∧ rds.length ≤ 12 ∧ OkR n rds ∧ n ≤ 6 ∧ SqL K H lw wvs ∧ All2 (WiV H) wvs wis ∧ 1 ≤ wis.length ∧ wis.length ≤ 3 ∧ OkW n wis ∧ (∀ w ∈ wis, 1 ≤ cntW rds w.la (-1) w.s w.e ∧ cntW rds w.la (-1) w.s w.e ≤ 9) ∧
  ∀ lo ovs rows H', Same H H' → H' lo = some (.lst ovs) → All2 (RowV H') ovs rows → 1 ≤ rows.length → rows.length ≤ 39 → (∀ r ∈ rows, OkRow rds wis r) → Q (.ref lo) H'
def spAmounts (K : PySem.W.Frag) : Sp := fun vs H Q _ => ∃ (a lo : Addr) (ns : List Int) (ovs : List V) (rows : List Row), vs = [.ref a, .ref lo] ∧ SqL K H a (ns.map V.int) ∧ ns.length ≤ 63 ∧ SqL K H lo ovs ∧ All2 (RowV H) ovs rows ∧ 1 ≤ rows.length ∧ rows.length ≤ 39 ∧
  ∀ lm (ams : List Int) H', Same H H' → H' lm = some (.lst (ams.map V.int)) → ams.length = rows.length → (∀ x ∈ ams, 0 ≤ x ∧ x ≤ 2 ^ 70) → Q (.ref lm) H'
/-- what the rows bring on a road -/
def bring (w k : Nat) (ps : List (Row × Int)) : Int := (ps.map fun p => if p.1.num = w then p.2 * (p.1.w.count k : Int) else 0).sum
def flowAt (size w : Nat) (ps : List (Row × Int)) : List Int := (List.range size).map fun k => bring w k ps
def spFlows (K : PySem.W.Frag) : Sp := fun vs H Q _ => ∃ (lo lm : Addr) (ovs : List V) (rows : List Row) (ams : List Int) (m : Nat) (size : Nat) (rds : List Road) (wis : List Wi), vs = [.ref lo, .ref lm, .int m, .int size] ∧ SqL K H lo ovs ∧ All2 (RowV H) ovs rows ∧ SqL K H lm (ams.map V.int) ∧ ams.length = rows.length ∧ (∀ r ∈ rows, OkRow rds wis r) ∧ m = wis.length ∧ size = rds.length ∧ m ≤ 3 ∧ size ≤ 12 ∧
  ∀ lf fvs H', Same H H' → H' lf = some (.lst fvs) → All2 (ZsV H') fvs ((List.range m).map fun w => flowAt size w (rows.zip ams)) → Q (.ref lf) H'
def spEqual (K : PySem.W.Frag) : Sp := fun vs H Q _ => ∃ (v : V) (t b D x : Int), vs = [v, .int t, .int b] ∧ 0 < D ∧ FrB K D H v x ∧ 0 ≤ x ∧ Sz 400 x ∧ Sz 400 D ∧ Sz 400 t ∧ Sz 400 b ∧ x * b = t * D ∧ Q (.bl true) H
def spListE (K : PySem.W.Frag) : Sp := fun vs H Q _ => ∃ (lw lt : Addr) (ws : List V) (xs ts : List Int) (b D : Int), vs = [.ref lw, .ref lt, .int b] ∧ 0 < D ∧ Sz 400 D ∧ Sz 400 b ∧ H lw = some (.lst ws) ∧ All2 (FrB K D H) ws xs ∧ SqL K H lt (ts.map V.int) ∧ All2 (fun x t => 0 ≤ x ∧ Sz 400 x ∧ Sz 400 t ∧ x * b = t * D) xs ts ∧ ∀ H', Same H H' → Q (.bl true) H'
def spAsked (K : PySem.W.Frag) : Sp := fun vs H Q _ => ∃ (wh lo B : Int) (nv : V) (ls lr lf : Addr) (n : Nat) (rvs svs qvs fvs : List V) (rds : List Road) (fls : List (List Int)), vs = [.int wh, nv, .ref ls, .ref lr, .ref lf, .int lo, .int B] ∧ 0 < lo ∧ lo ≤ 6 ∧ 0 < B ∧ B ≤ 6 ∧ NetV K lo H nv n rvs rds ∧ SqL K H ls svs ∧ All2 (ShV K B H) svs fls ∧ OkF rds.length fls ∧ rds.length ≤ 12 ∧ OkB rds ∧
  SqL K H lr qvs ∧ All2 (RdV H) qvs rds ∧ SqL K H lf fvs ∧ All2 (ZsV H) fvs fls ∧ ∀ H', Same H H' → Q (.bl true) H'
def spHeld (K : PySem.W.Frag) : Sp := fun vs H Q _ => ∃ (a : Addr) (ws : List V), vs = [.ref a] ∧ SqL K H a ws ∧ ∀ p q H', H p = none → H q = none → p ≠ q → Same H H' → H' q = some (.lst ws) → H' p = some (.lst [.ref a, .ref q]) → Q (.ref p) H'
def spLaw (K : PySem.W.Frag) : Sp := fun vs H Q _ => ∃ (a : Addr) (ns : List Int), vs = [.ref a] ∧ SqL K H a (ns.map V.int) ∧ ns.length ≤ 63 ∧ ∀ H', Q (.bl true) H'
abbrev t_common_divisor (K : PySem.W.Frag) : TS :=
  (tSeq (tWhile (tTest (tOp (rNeA K) (tVar 1) (tC (.int 0)))) (tSeq (tAsg (tOp (rI (fun _ j => 0 < j) fun i j => .int (i % j)) (tVar 0) (tVar 1)) (gName 2))
    (tSeq (tAsg (tVar 1) (gName 0))
    (tAsg (tVar 2) (gName 1)))))
    (tRet (tVar 0)))
abbrev t_lowest (K : PySem.W.Frag) : TS :=
  (tSeq (tAsg (tCall spGcd [] E0 (tCons (tCB rAbs (tCons (tVar 0) tNil)) (tCons (tCB rAbs (tCons (tVar 1) tNil)) tNil))) (gName 2))
    (tSeq (tIfS (tTest (tOp (rI0 fun i j => .bl (decide (i < j))) (tVar 1) (tC (.int 0)))) (tAsg (tUn (rU fun i => .int (-i)) (tVar 2)) (gName 2)) tNext)
    (tRet (tTup (tCons (tOp (rI CDivB fun i j => .int (i.fdiv j)) (tVar 0) (tVar 2)) (tCons (tOp (rI CDivB fun i j => .int (i.fdiv j)) (tVar 1) (tVar 2)) tNil))))))
abbrev t_sum_of (K : PySem.W.Frag) : TS :=
  (tRet (tCall (spLow K) [] E0 (tCons (tOp (rAddA K) (tOp (rI CMulX fun i j => .int (i * j)) (tOp (rIx K) (tVar 0) (tC (.int 0))) (tOp (rIx K) (tVar 1) (tC (.int 1)))) (tOp (rI CMulX fun i j => .int (i * j)) (tOp (rIx K) (tVar 1) (tC (.int 0))) (tOp (rIx K) (tVar 0) (tC (.int 1))))) (tCons (tOp (rI CMulX fun i j => .int (i * j)) (tOp (rIx K) (tVar 0) (tC (.int 1))) (tOp (rIx K) (tVar 1) (tC (.int 1)))) tNil))))
abbrev t_product_of (K : PySem.W.Frag) : TS :=
  (tRet (tCall (spLow K) [] E0 (tCons (tOp (rI CMulX fun i j => .int (i * j)) (tOp (rIx K) (tVar 0) (tC (.int 0))) (tOp (rIx K) (tVar 1) (tC (.int 0)))) (tCons (tOp (rI CMulX fun i j => .int (i * j)) (tOp (rIx K) (tVar 0) (tC (.int 1))) (tOp (rIx K) (tVar 1) (tC (.int 1)))) tNil))))
abbrev t_sum_of_all (K : PySem.W.Frag) (aN : Addr) : TS :=
  (tSeq (tAsg (tC (.ref aN)) (gName 1))
    (tSeq (tFor (iList K (tVar 0)) (gName 2) (tAsg (tCall (spSum K) [] E0 (tCons (tVar 1) (tCons (tVar 2) tNil))) (gName 1)))
    (tRet (tVar 1))))
abbrev t_load_list (K : PySem.W.Frag) : TS :=
  (tSeq (tAsg (tLst tNil) (gName 2))
    (tSeq (tFor (iRng1 (tCons (tCB (rLen K) (tCons (tOp (rIx K) (tVar 0) (tC (.int 1))) tNil)) tNil)) (gName 3) (tDrop (tBM K "list" rAppend (tVar 2) (tCons (tCall (spSumAll K) [] E0 (tCons (tComp 1 [3] (iList K (tVar 1)) (gName 0) tNoIf (tOp (rIx K) (tVar 0) (tVar 1))) tNil)) tNil))))
    (tRet (tVar 2))))
abbrev t_time_with (K : PySem.W.Frag) : TS :=
  (tRet (tCall (spSum K) [] E0 (tCons (tOp (rIx K) (tVar 0) (tC (.int 2))) (tCons (tCall (spProd K) [] E0 (tCons (tOp (rIx K) (tVar 0) (tC (.int 3))) (tCons (tVar 1) tNil))) tNil))))
abbrev t_road_times (K : PySem.W.Frag) : TS :=
  (tRet (tComp 2 [] (iZip K (tCons (tOp (rIx K) (tVar 0) (tC (.int 1))) (tCons (tCall (spLoads K) [] E0 (tCons (tVar 0) (tCons (tVar 1) tNil))) tNil))) (gTup K 2 (gCons (gName 0) (gCons (gName 1) gNil))) tNoIf (tCall (spTimeW K) [] E0 (tCons (tVar 0) (tCons (tVar 1) tNil)))))
abbrev t_dear_times (K : PySem.W.Frag) (aT : Addr) : TS :=
  (tRet (tComp 2 [] (iZip K (tCons (tOp (rIx K) (tVar 0) (tC (.int 1))) (tCons (tCall (spLoads K) [] E0 (tCons (tVar 0) (tCons (tVar 1) tNil))) tNil))) (gTup K 2 (gCons (gName 0) (gCons (gName 1) gNil))) tNoIf (tCall (spTimeW K) [] E0 (tCons (tVar 0) (tCons (tCall (spProd K) [] E0 (tCons (tC (.ref aT)) (tCons (tVar 1) tNil))) tNil)))))
abbrev t_sum_of_times (K : PySem.W.Frag) : TS :=
  (tSeq (tAsg (tCall (spLoads K) [] E0 (tCons (tVar 0) (tCons (tVar 1) tNil))) (gName 2))
    (tRet (tCall (spSumAll K) [] E0 (tCons (tComp 2 [] (iZip K (tCons (tOp (rIx K) (tVar 0) (tC (.int 1))) (tCons (tVar 2) tNil))) (gTup K 2 (gCons (gName 0) (gCons (gName 1) gNil))) tNoIf (tCall (spProd K) [] E0 (tCons (tVar 1) (tCons (tCall (spTimeW K) [] E0 (tCons (tVar 0) (tCons (tVar 1) tNil))) tNil)))) tNil))))
abbrev t_told_number (K : PySem.W.Frag) (aH : Addr) : TS :=
  (tSeq (tAsg (tCall (spLoads K) [] E0 (tCons (tVar 0) (tCons (tVar 1) tNil))) (gName 2))
    (tRet (tCall (spSumAll K) [] E0 (tCons (tComp 2 [] (iZip K (tCons (tOp (rIx K) (tVar 0) (tC (.int 1))) (tCons (tVar 2) tNil))) (gTup K 2 (gCons (gName 0) (gCons (gName 1) gNil))) tNoIf (tCall (spProd K) [] E0 (tCons (tVar 1) (tCons (tCall (spTimeW K) [] E0 (tCons (tVar 0) (tCons (tCall (spProd K) [] E0 (tCons (tC (.ref aH)) (tCons (tVar 1) tNil))) tNil))) tNil)))) tNil))))
abbrev t__law_whole (K : PySem.W.Frag) : TS :=
  (tRet (tAndV (tCB (rIsi K) (tCons (tVar 0) (tCons (tC (.ty "int")) tNil))) (tNotV (tCB (rIsi K) (tCons (tVar 0) (tCons (tC (.ty "bool")) tNil))))))
abbrev t__law_cell (K : PySem.W.Frag) : TS :=
  (tSeq (tIfS (tTest (tOp (rI0 fun i j => .bl (decide (i < j))) (tVar 1) (tCB (rLen K) (tCons (tVar 0) tNil)))) (tRet (tOp (rIx K) (tVar 0) (tVar 1))) tNext)
    (tSeq (tAsg (tOp (rAddA K) (tOp (rI CMulX fun i j => .int (i * j)) (tOp (rI CMulX fun i j => .int (i * j)) (tVar 1) (tVar 1)) (tC (.int 104729))) (tC (.int 48271))) (gName 2))
    (tSeq (tIfS (tTest (tOp (rI0 fun i j => .bl (decide (j < i))) (tCB (rLen K) (tCons (tVar 0) tNil)) (tC (.int 0)))) (tAsg (tOp (rAddA K) (tVar 2) (tOp (rI CMulX fun i j => .int (i * j)) (tOp (rI (fun _ j => 0 < j) fun i j => .int (i % j)) (tOp (rIx K) (tVar 0) (tOp (rI (fun _ j => 0 < j) fun i j => .int (i % j)) (tOp (rI CMulX fun i j => .int (i * j)) (tVar 1) (tC (.int 7))) (tCB (rLen K) (tCons (tVar 0) tNil)))) (tC (.int 2147483629))) (tC (.int 16807)))) (gName 2)) tNext)
    (tRet (tOp (rI (fun _ j => 0 < j) fun i j => .int (i % j)) (tOp (rI CMulX fun i j => .int (i * j)) (tVar 2) (tC (.int 69621))) (tC (.int 2147483647)))))))
abbrev t__law_mixed (K : PySem.W.Frag) : TS :=
  (tRet (tOp (rI (fun _ j => 0 < j) fun i j => .int (i % j)) (tOp (rI CMulX fun i j => .int (i * j)) (tOp (rI (fun _ j => 0 < j) fun i j => .int (i % j)) (tCall (spCell K) [] E0 (tCons (tVar 0) (tCons (tVar 1) tNil))) (tC (.int 1000003))) (tC (.int 69621))) (tC (.int 2147483629))))
abbrev t__law_divisor (K : PySem.W.Frag) : TS :=
  (tSeq (tWhile (tTest (tOp (rNeA K) (tVar 1) (tC (.int 0)))) (tPar 0 1 (tCons (tVar 1) (tCons (tOp (rI (fun _ j => 0 < j) fun i j => .int (i % j)) (tVar 0) (tVar 1)) tNil))))
    (tRet (tCB rAbs (tCons (tVar 0) tNil))))
abbrev t__law_lowest (K : PySem.W.Frag) : TS :=
  (tSeq (tAsg (tCall spGcd [] E0 (tCons (tVar 0) (tCons (tVar 1) tNil))) (gName 2))
    (tRet (tTup (tCons (tOp (rI CDivB fun i j => .int (i.fdiv j)) (tVar 0) (tVar 2)) (tCons (tOp (rI CDivB fun i j => .int (i.fdiv j)) (tVar 1) (tVar 2)) tNil)))))
abbrev t__law_ways (K : PySem.W.Frag) : TS :=
  (tSeq (tAsg (tLst tNil) (gName 5))
    (tSeq (tAsg (tLst (tCons (tTup (tCons (tLst tNil) (tCons (tLst (tCons (tVar 1) tNil)) tNil))) tNil)) (gName 6))
    (tSeq (tWhile (tTest (tOp (rNeA K) (tVar 6) (tLst tNil))) (tSeq (tAsg (tBM0 K "list" rPop (tVar 6)) (gTup K 2 (gCons (gName 7) (gCons (gName 8) gNil))))
    (tFor (iEnum K (tCons (tVar 0) tNil)) (gTup K 2 (gCons (gName 9) (gCons (gName 10) gNil))) (tIfS (tAnd (tTest (tOp (rI0 fun i j => .bl (decide (j < i))) (tVar 9) (tVar 4))) (tAnd (tTest (tOp (rEqA K) (tOp (rIx K) (tVar 10) (tC (.int 0))) (tOp (rIx K) (tVar 8) (tUn (rU fun i => .int (-i)) (tC (.int 1)))))) (tOr (tB (tVar 3)) (tNot (tB (tOp (rIx K) (tVar 10) (tC (.int 4)))))))) (tIfS (tTest (tOp (rEqA K) (tOp (rIx K) (tVar 10) (tC (.int 1))) (tVar 2))) (tDrop (tBM K "list" rAppend (tVar 5) (tCons (tOp (rAddA K) (tVar 7) (tLst (tCons (tVar 9) tNil))) tNil))) (tIfS (tTest (tOp (rIn K true) (tOp (rIx K) (tVar 10) (tC (.int 1))) (tVar 8))) (tDrop (tBM K "list" rAppend (tVar 6) (tCons (tTup (tCons (tOp (rAddA K) (tVar 7) (tLst (tCons (tVar 9) tNil))) (tCons (tOp (rAddA K) (tVar 8) (tLst (tCons (tOp (rIx K) (tVar 10) (tC (.int 1))) tNil))) tNil))) tNil))) tNext)) tNext))))
    (tRet (tCB (rSortedL K) (tCons (tVar 5) tNil))))))
abbrev t__law_rings (K : PySem.W.Frag) : TS :=
  (tSeq (tAsg (tLst tNil) (gName 2))
    (tSeq (tFor (iEnum K (tCons (tVar 0) tNil)) (gTup K 2 (gCons (gName 3) (gCons (gName 4) gNil))) (tIfS (tOr (tB (tVar 1)) (tNot (tB (tOp (rIx K) (tVar 4) (tC (.int 4)))))) (tAsg (tOp (rAddA K) (tVar 2) (tComp 1 [3] (iList K (tCall (spWays K) [] E0 (tCons (tVar 0) (tCons (tOp (rIx K) (tVar 4) (tC (.int 1))) (tCons (tOp (rIx K) (tVar 4) (tC (.int 0))) (tCons (tVar 1) (tCons (tVar 3) tNil))))))) (gName 0) tNoIf (tOp (rAddA K) (tLst (tCons (tVar 1) tNil)) (tVar 0)))) (gName 2)) tNext))
    (tRet (tVar 2))))
abbrev t__law_many (K : PySem.W.Frag) : TS :=
  (tRet (tCB (rSum K) (tCons (tComp 1 [0] (iList K (tVar 1)) (gName 0) tNoIf (tCB (rLen K) (tCons (tCall (spWays K) [] E0 (tCons (tVar 1) (tCons (tOp (rIx K) (tVar 0) (tC (.int 0))) (tCons (tOp (rIx K) (tVar 0) (tC (.int 1))) (tCons (tOp (rIx K) (tVar 0) (tC (.int 2))) (tCons (tUn (rU fun i => .int (-i)) (tC (.int 1))) tNil)))))) tNil))) tNil)))
abbrev t__law_wishes (K : PySem.W.Frag) : TS :=
  (tSeq (tAsg (tLst tNil) (gName 2))
    (tSeq (tFor (iRng1 (tCons (tOp (rAddA K) (tC (.int 1)) (tOp (rI (fun _ j => 0 < j) fun i j => .int (i % j)) (tOp (rI CDivB fun i j => .int (i.fdiv j)) (tCall (spCell K) [] E0 (tCons (tVar 0) (tCons (tC (.int 0)) tNil))) (tC (.int 5))) (tC (.int 3)))) tNil)) (gName 3) (tSeq (tAsg (tCall (spMixed K) [] E0 (tCons (tVar 0) (tCons (tOp (rAddA K) (tC (.int 1)) (tVar 3)) tNil))) (gName 4))
    (tSeq (tAsg (tOp (rI (fun _ j => 0 < j) fun i j => .int (i % j)) (tVar 4) (tVar 1)) (gName 5))
    (tDrop (tBM K "list" rAppend (tVar 2) (tCons (tTup (tCons (tVar 5) (tCons (tOp (rI (fun _ j => 0 < j) fun i j => .int (i % j)) (tOp (rAddA K) (tOp (rAddA K) (tVar 5) (tC (.int 1))) (tOp (rI (fun _ j => 0 < j) fun i j => .int (i % j)) (tOp (rI CDivB fun i j => .int (i.fdiv j)) (tVar 4) (tC (.int 6))) (tOp (rI0 fun i j => .int (i - j)) (tVar 1) (tC (.int 1))))) (tVar 1)) (tCons (tOp (rEqA K) (tOp (rI (fun _ j => 0 < j) fun i j => .int (i % j)) (tOp (rI CDivB fun i j => .int (i.fdiv j)) (tVar 4) (tC (.int 36))) (tC (.int 2))) (tC (.int 1))) tNil)))) tNil))))))
    (tRet (tVar 2))))
abbrev t__law_begun (K : PySem.W.Frag) : TS :=
  (tSeq (tAsg (tLst tNil) (gName 4))
    (tSeq (tFor (iEnum K (tCons (tVar 2) tNil)) (gTup K 2 (gCons (gName 5) (gCons (gName 6) gNil))) (tSeq (tAsg (tOp (rI (fun _ j => 0 < j) fun i j => .int (i % j)) (tCall (spMixed K) [] E0 (tCons (tVar 0) (tCons (tOp (rAddA K) (tC (.int 4)) (tVar 5)) tNil))) (tVar 1)) (gName 7))
    (tIfS (tTest (tOp (rEqA K) (tCall (spMany K) [] E0 (tCons (tVar 4) (tCons (tLst (tCons (tVar 6) tNil)) tNil))) (tC (.int 0)))) (tIfS (tOr (tB (tVar 3)) (tOr (tTest (tOp (rEqA K) (tVar 7) (tOp (rIx K) (tVar 6) (tC (.int 0))))) (tTest (tOp (rEqA K) (tVar 7) (tOp (rIx K) (tVar 6) (tC (.int 1))))))) (tDrop (tBM K "list" rAppend (tVar 4) (tCons (tTup (tCons (tOp (rIx K) (tVar 6) (tC (.int 0))) (tCons (tOp (rIx K) (tVar 6) (tC (.int 1))) (tCons (tC (.int 1)) (tCons (tVar 5) (tCons (tC (.bl false)) tNil)))))) tNil))) (tSeq (tDrop (tBM K "list" rAppend (tVar 4) (tCons (tTup (tCons (tOp (rIx K) (tVar 6) (tC (.int 0))) (tCons (tVar 7) (tCons (tVar 5) (tCons (tC (.int 2)) (tCons (tC (.bl false)) tNil)))))) tNil)))
    (tDrop (tBM K "list" rAppend (tVar 4) (tCons (tTup (tCons (tVar 7) (tCons (tOp (rIx K) (tVar 6) (tC (.int 1))) (tCons (tC (.int 0)) (tCons (tC (.int 1)) (tCons (tC (.bl false)) tNil)))))) tNil))))) tNext)))
    (tRet (tVar 4))))
abbrev t__law_roads (K : PySem.W.Frag) : TS :=
  (tSeq (tAsg (tCall (spBegun K) [] E0 (tCons (tVar 0) (tCons (tVar 1) (tCons (tVar 2) (tCons (tC (.bl false)) tNil))))) (gName 3))
    (tSeq (tIfS (tTest (tOp (rI0 fun i j => .bl (decide (j < i))) (tCall (spMany K) [] E0 (tCons (tVar 3) (tCons (tVar 2) tNil))) (tC (.int 8)))) (tAsg (tCall (spBegun K) [] E0 (tCons (tVar 0) (tCons (tVar 1) (tCons (tVar 2) (tCons (tC (.bl true)) tNil))))) (gName 3)) tNext)
    (tSeq (tFor (iRng1 (tCons (tC (.int 14)) tNil)) (gName 4) (tSeq (tAsg (tCall (spMixed K) [] E0 (tCons (tVar 0) (tCons (tOp (rAddA K) (tC (.int 4)) (tVar 4)) tNil))) (gName 7))
    (tSeq (tAsg (tOp (rI (fun _ j => 0 < j) fun i j => .int (i % j)) (tOp (rI CDivB fun i j => .int (i.fdiv j)) (tVar 7) (tC (.int 7))) (tVar 1)) (gName 8))
    (tSeq (tAsg (tOp (rI (fun _ j => 0 < j) fun i j => .int (i % j)) (tOp (rAddA K) (tOp (rAddA K) (tVar 8) (tC (.int 1))) (tOp (rI (fun _ j => 0 < j) fun i j => .int (i % j)) (tOp (rI CDivB fun i j => .int (i.fdiv j)) (tVar 7) (tC (.int 49))) (tOp (rI0 fun i j => .int (i - j)) (tVar 1) (tC (.int 1))))) (tVar 1)) (gName 9))
    (tSeq (tIfS (tTest (tOp (rEqA K) (tOp (rI (fun _ j => 0 < j) fun i j => .int (i % j)) (tOp (rI CDivB fun i j => .int (i.fdiv j)) (tVar 7) (tC (.int 343))) (tC (.int 3))) (tC (.int 1)))) (tAsg (tSl (rSlT K) (tOp (rIx K) (tVar 3) (tOp (rI (fun _ j => 0 < j) fun i j => .int (i % j)) (tOp (rI CDivB fun i j => .int (i.fdiv j)) (tVar 7) (tC (.int 1029))) (tCB (rLen K) (tCons (tVar 3) tNil)))) tNoPart (tPart (tC (.int 2)))) (gTup K 2 (gCons (gName 9) (gCons (gName 8) gNil)))) tNext)
    (tSeq (tAsg (tOp (rI (fun _ j => 0 < j) fun i j => .int (i % j)) (tOp (rI CDivB fun i j => .int (i.fdiv j)) (tVar 7) (tC (.int 3087))) (tOp (rAddA K) (tCB (rLen K) (tCons (tVar 3) tNil)) (tC (.int 1)))) (gName 10))
    (tSeq (tAsg (tOp (rAddA K) (tOp (rAddA K) (tSl (rSlL K) (tVar 3) tNoPart (tPart (tVar 10))) (tLst (tCons (tTup (tCons (tVar 8) (tCons (tVar 9) (tCons (tC (.int 0)) (tCons (tC (.int 0)) (tCons (tOp (rEqA K) (tOp (rI (fun _ j => 0 < j) fun i j => .int (i % j)) (tOp (rI CDivB fun i j => .int (i.fdiv j)) (tVar 7) (tC (.int 5))) (tC (.int 4))) (tC (.int 1))) tNil)))))) tNil))) (tSl (rSlL K) (tVar 3) (tPart (tVar 10)) tNoPart)) (gName 11))
    (tIfS (tAnd (tTest (tOp (rI0 fun i j => .bl (decide (i < j))) (tCB (rLen K) (tCons (tVar 11) tNil)) (tC (.int 13)))) (tTest (tOp (rI0 fun i j => .bl (decide (i < j))) (tCall (spMany K) [] E0 (tCons (tVar 11) (tCons (tVar 2) tNil))) (tC (.int 9))))) (tAsg (tVar 11) (gName 3)) tNext))))))))
    (tSeq (tAsg (tOp (rIx K) (tLst (tCons (tC (.int 6)) (tCons (tOp (rI CPow fun i j => .int (i ^ j.toNat)) (tC (.int 10)) (tC (.int 6))) (tCons (tOp (rI CPow fun i j => .int (i ^ j.toNat)) (tC (.int 10)) (tC (.int 18))) tNil)))) (tOp (rI (fun _ j => 0 < j) fun i j => .int (i % j)) (tCall (spMixed K) [] E0 (tCons (tVar 0) (tCons (tC (.int 1)) tNil))) (tC (.int 3)))) (gName 5))
    (tSeq (tAsg (tLst tNil) (gName 6))
    (tSeq (tFor (iEnum K (tCons (tVar 3) tNil)) (gTup K 2 (gCons (gName 4) (gCons (gName 12) gNil))) (tSeq (tAsg (tOp (rI CMulX fun i j => .int (i * j)) (tOp (rI (fun _ j => 0 < j) fun i j => .int (i % j)) (tOp (rI CMulX fun i j => .int (i * j)) (tOp (rI CDivB fun i j => .int (i.fdiv j)) (tCall (spCell K) [] E0 (tCons (tVar 0) (tCons (tOp (rAddA K) (tC (.int 4)) (tVar 4)) tNil))) (tC (.int 3))) (tC (.int 1236067977499789805))) (tVar 5)) (tCB rInt1 (tCons (tOp (rI0 fun i j => .bl (decide (j < i))) (tOp (rI (fun _ j => 0 < j) fun i j => .int (i % j)) (tCall (spMixed K) [] E0 (tCons (tVar 0) (tCons (tOp (rAddA K) (tC (.int 4)) (tVar 4)) tNil))) (tC (.int 3))) (tC (.int 0))) tNil))) (gName 13))
    (tSeq (tAsg (tOp (rI CMulX fun i j => .int (i * j)) (tOp (rI (fun _ j => 0 < j) fun i j => .int (i % j)) (tOp (rI CMulX fun i j => .int (i * j)) (tOp (rI CDivB fun i j => .int (i.fdiv j)) (tCall (spCell K) [] E0 (tCons (tVar 0) (tCons (tOp (rI0 fun i j => .int (i - j)) (tC (.int 18)) (tVar 4)) tNil))) (tC (.int 3))) (tC (.int 618033988749894849))) (tVar 5)) (tCB rInt1 (tCons (tOp (rI0 fun i j => .bl (decide (j < i))) (tOp (rI (fun _ j => 0 < j) fun i j => .int (i % j)) (tOp (rI CDivB fun i j => .int (i.fdiv j)) (tCall (spMixed K) [] E0 (tCons (tVar 0) (tCons (tOp (rI0 fun i j => .int (i - j)) (tC (.int 18)) (tVar 4)) tNil))) (tC (.int 9))) (tC (.int 3))) (tC (.int 0))) tNil))) (gName 14))
    (tDrop (tBM K "list" rAppend (tVar 6) (tCons (tOp (rAddA K) (tSl (rSlT K) (tVar 12) tNoPart (tPart (tC (.int 2)))) (tTup (tCons (tVar 13) (tCons (tVar 14) (tCons (tOp (rIx K) (tVar 12) (tC (.int 4))) tNil))))) tNil))))))
    (tRet (tVar 6))))))))
abbrev t__law_rows (K : PySem.W.Frag) : TS :=
  (tSeq (tAsg (tLst tNil) (gName 2))
    (tSeq (tFor (iEnum K (tCons (tVar 1) tNil)) (gTup K 2 (gCons (gName 3) (gCons (gName 4) gNil))) (tSeq (tAsg (tOp (rAddA K) (tVar 2) (tComp 1 [3] (iList K (tCall (spWays K) [] E0 (tCons (tVar 0) (tCons (tOp (rIx K) (tVar 4) (tC (.int 0))) (tCons (tOp (rIx K) (tVar 4) (tC (.int 1))) (tCons (tOp (rIx K) (tVar 4) (tC (.int 2))) (tCons (tUn (rU fun i => .int (-i)) (tC (.int 1))) tNil))))))) (gName 0) tNoIf (tTup (tCons (tVar 1) (tCons (tVar 0) tNil))))) (gName 2))
    (tAsg (tOp (rAddA K) (tVar 2) (tComp 1 [3] (iList K (tSl (rSlL K) (tCall (spRings K) [] E0 (tCons (tVar 0) (tCons (tOp (rIx K) (tVar 4) (tC (.int 2))) tNil))) tNoPart (tPart (tC (.int 4))))) (gName 0) tNoIf (tTup (tCons (tVar 1) (tCons (tVar 0) tNil))))) (gName 2))))
    (tRet (tVar 2))))
abbrev t__law_amounts (K : PySem.W.Frag) : TS :=
  (tSeq (tAsg (tOp (rIx K) (tLst (tCons (tC (.int 10)) (tCons (tOp (rI CPow fun i j => .int (i ^ j.toNat)) (tC (.int 10)) (tC (.int 6))) (tCons (tOp (rI CPow fun i j => .int (i ^ j.toNat)) (tC (.int 10)) (tC (.int 18))) tNil)))) (tOp (rI (fun _ j => 0 < j) fun i j => .int (i % j)) (tCall (spMixed K) [] E0 (tCons (tVar 0) (tCons (tC (.int 2)) tNil))) (tC (.int 3)))) (gName 2))
    (tSeq (tAsg (tComp 1 [2, 0] (iRng1 (tCons (tCB (rLen K) (tCons (tVar 1) tNil)) tNil)) (gName 0) tNoIf (tOp (rI CMulX fun i j => .int (i * j)) (tOp (rI (fun _ j => 0 < j) fun i j => .int (i % j)) (tOp (rI CDivB fun i j => .int (i.fdiv j)) (tCall (spMixed K) [] E0 (tCons (tVar 2) (tCons (tOp (rAddA K) (tC (.int 30)) (tVar 0)) tNil))) (tC (.int 3))) (tVar 1)) (tOp (rI (fun _ j => 0 < j) fun i j => .int (i % j)) (tOp (rI (fun _ j => 0 < j) fun i j => .int (i % j)) (tCall (spMixed K) [] E0 (tCons (tVar 2) (tCons (tOp (rAddA K) (tC (.int 30)) (tVar 0)) tNil))) (tC (.int 3))) (tC (.int 2))))) (gName 3))
    (tSeq (tFor (iRng2 (tCons (tC (.int 20)) (tCons (tCB rMin2 (tCons (tCB (rLen K) (tCons (tVar 0) tNil)) (tCons (tC (.int 120)) tNil))) tNil))) (gName 4) (tAugS (tVar 3) (tOp (rI (fun _ j => 0 < j) fun i j => .int (i % j)) (tVar 4) (tCB (rLen K) (tCons (tVar 1) tNil))) (tOp (rI (fun _ j => 0 < j) fun i j => .int (i % j)) (tOp (rIx K) (tVar 0) (tVar 4)) (tVar 2)) (rIxL K) (ipI fun i j => i + j) rSetL))
    (tSeq (tFor (iEnum K (tCons (tVar 1) tNil)) (gTup K 2 (gCons (gName 5) (gCons (gName 6) gNil))) (tIfS (tOr (tTest (tOp (rEqA K) (tVar 5) (tC (.int 0)))) (tTest (tOp (rNeA K) (tOp (rIx K) (tOp (rIx K) (tVar 1) (tOp (rI0 fun i j => .int (i - j)) (tVar 5) (tC (.int 1)))) (tC (.int 0))) (tOp (rIx K) (tVar 6) (tC (.int 0)))))) (tAugS (tVar 3) (tVar 5) (tC (.int 1)) (rIxL K) (ipI fun i j => i + j) rSetL) tNext))
    (tRet (tVar 3))))))
abbrev t__law_flows (K : PySem.W.Frag) : TS :=
  (tSeq (tAsg (tComp 1 [3] (iRng1 (tCons (tVar 2) tNil)) (gName 0) tNoIf (tOp rRep (tLst (tCons (tC (.int 0)) tNil)) (tVar 1))) (gName 4))
    (tSeq (tFor (iZip K (tCons (tVar 0) (tCons (tVar 1) tNil))) (gTup K 2 (gCons (gName 5) (gCons (gName 6) gNil))) (tFor (iList K (tOp (rIx K) (tVar 5) (tC (.int 1)))) (gName 7) (tAugS (tOp (rIx K) (tVar 4) (tOp (rIx K) (tVar 5) (tC (.int 0)))) (tVar 7) (tVar 6) (rIxL K) (ipI fun i j => i + j) rSetL)))
    (tRet (tVar 4))))
abbrev t__law_equal (K : PySem.W.Frag) : TS :=
  (tSeq (tIfS (tOr (tNot (tB (tCB (rIsiS K) (tCons (tVar 0) (tCons (tC (.ty "tuple")) tNil))))) (tOr (tTest (tOp (rNeA K) (tCB (rLen K) (tCons (tVar 0) tNil)) (tC (.int 2)))) (tOr (tNot (tB (tCall (spWhole K) [] E0 (tCons (tOp (rIx K) (tVar 0) (tC (.int 0))) tNil)))) (tNot (tB (tCall (spWhole K) [] E0 (tCons (tOp (rIx K) (tVar 0) (tC (.int 1))) tNil))))))) (tRet (tC (.bl false))) tNext)
    (tSeq (tIfS (tOr (tTest (tOp (rI0 fun i j => .bl (decide (i < j))) (tOp (rIx K) (tVar 0) (tC (.int 1))) (tC (.int 1)))) (tTest (tOp (rNeA K) (tCall spGcd [] E0 (tCons (tOp (rIx K) (tVar 0) (tC (.int 0))) (tCons (tOp (rIx K) (tVar 0) (tC (.int 1))) tNil))) (tC (.int 1))))) (tRet (tC (.bl false))) tNext)
    (tRet (tOp (rEqA K) (tOp (rI CMulX fun i j => .int (i * j)) (tOp (rIx K) (tVar 0) (tC (.int 0))) (tVar 2)) (tOp (rI CMulX fun i j => .int (i * j)) (tVar 1) (tOp (rIx K) (tVar 0) (tC (.int 1))))))))
abbrev t__law_list (K : PySem.W.Frag) : TS :=
  (tSeq (tIfS (tOr (tNot (tB (tCB (rIsi K) (tCons (tVar 0) (tCons (tC (.ty "list")) tNil))))) (tTest (tOp (rNeA K) (tCB (rLen K) (tCons (tVar 0) tNil)) (tCB (rLen K) (tCons (tVar 1) tNil))))) (tRet (tC (.bl false))) tNext)
    (tSeq (tFor (iZip K (tCons (tVar 0) (tCons (tVar 1) tNil))) (gTup K 2 (gCons (gName 3) (gCons (gName 4) gNil))) (tIfS (tNot (tB (tCall (spEqual K) [] E0 (tCons (tVar 3) (tCons (tVar 4) (tCons (tVar 2) tNil)))))) (tRet (tC (.bl false))) tNext))
    (tRet (tC (.bl true)))))
abbrev t__law_asked (K : PySem.W.Frag) : TS :=
  (tSeq (tAsg (tComp 1 [4] (iRng1 (tCons (tCB (rLen K) (tCons (tVar 3) tNil)) tNil)) (gName 0) tNoIf (tCB (rSum K) (tCons (tComp 1 [0] (iList K (tVar 1)) (gName 0) tNoIf (tOp (rIx K) (tVar 0) (tVar 1))) tNil))) (gName 7))
    (tSeq (tIfS (tTest (tOp (rEqA K) (tVar 0) (tC (.int 0)))) (tRet (tCall (spListE K) [] E0 (tCons (tCall (spLoads K) [] E0 (tCons (tVar 1) (tCons (tVar 2) tNil))) (tCons (tVar 7) (tCons (tVar 6) tNil))))) tNext)
    (tSeq (tAsg (tComp 2 [6] (iZip K (tCons (tVar 3) (tCons (tVar 7) tNil))) (gTup K 2 (gCons (gName 0) (gCons (gName 1) gNil))) tNoIf (tOp (rAddA K) (tOp (rI CMulX fun i j => .int (i * j)) (tOp (rIx K) (tVar 0) (tC (.int 2))) (tVar 2)) (tOp (rI CMulX fun i j => .int (i * j)) (tOp (rIx K) (tVar 0) (tC (.int 3))) (tVar 1)))) (gName 8))
    (tSeq (tIfS (tTest (tOp (rEqA K) (tVar 0) (tC (.int 1)))) (tRet (tCall (spListE K) [] E0 (tCons (tCall (spTimes K) [] E0 (tCons (tVar 1) (tCons (tVar 2) tNil))) (tCons (tVar 8) (tCons (tOp (rI CMulX fun i j => .int (i * j)) (tVar 5) (tVar 6)) tNil))))) tNext)
    (tSeq (tIfS (tTest (tOp (rEqA K) (tVar 0) (tC (.int 2)))) (tSeq (tAsg (tComp 3 [] (iZip3 K (tCons (tVar 8) (tCons (tVar 3) (tCons (tVar 7) tNil)))) (gTup K 3 (gCons (gName 0) (gCons (gName 1) (gCons (gName 2) gNil)))) tNoIf (tOp (rAddA K) (tVar 0) (tOp (rI CMulX fun i j => .int (i * j)) (tOp (rIx K) (tVar 1) (tC (.int 3))) (tVar 2)))) (gName 11))
    (tRet (tCall (spListE K) [] E0 (tCons (tCall (spDear K) [] E0 (tCons (tVar 1) (tCons (tVar 2) tNil))) (tCons (tVar 11) (tCons (tOp (rI CMulX fun i j => .int (i * j)) (tVar 5) (tVar 6)) tNil)))))) tNext)
    (tSeq (tAsg (tCB (rSum K) (tCons (tComp 2 [] (iZip K (tCons (tVar 8) (tCons (tVar 7) tNil))) (gTup K 2 (gCons (gName 0) (gCons (gName 1) gNil))) tNoIf (tOp (rI CMulX fun i j => .int (i * j)) (tVar 0) (tVar 1))) tNil)) (gName 9))
    (tSeq (tIfS (tTest (tOp (rEqA K) (tVar 0) (tC (.int 3)))) (tRet (tCall (spEqual K) [] E0 (tCons (tCall (spTot K) [] E0 (tCons (tVar 1) (tCons (tVar 2) tNil))) (tCons (tVar 9) (tCons (tOp (rI CMulX fun i j => .int (i * j)) (tOp (rI CMulX fun i j => .int (i * j)) (tVar 5) (tVar 6)) (tVar 6)) tNil))))) tNext)
    (tSeq (tAsg (tCB (rSum K) (tCons (tComp 2 [6] (iZip K (tCons (tVar 3) (tCons (tVar 7) tNil))) (gTup K 2 (gCons (gName 0) (gCons (gName 1) gNil))) tNoIf (tOp (rI CMulX fun i j => .int (i * j)) (tOp (rI CMulX fun i j => .int (i * j)) (tOp (rIx K) (tVar 0) (tC (.int 2))) (tVar 2)) (tVar 1))) tNil)) (gName 10))
    (tRet (tCall (spEqual K) [] E0 (tCons (tCall (spToldN K) [] E0 (tCons (tVar 1) (tCons (tVar 2) tNil))) (tCons (tOp (rAddA K) (tVar 9) (tVar 10)) (tCons (tOp (rI CMulX fun i j => .int (i * j)) (tOp (rI CMulX fun i j => .int (i * j)) (tOp (rI CMulX fun i j => .int (i * j)) (tC (.int 2)) (tVar 5)) (tVar 6)) (tVar 6)) tNil)))))))))))))
abbrev t__law_held (K : PySem.W.Frag) : TS :=
  (tRet (tLst (tCons (tVar 0) (tCons (tCB (rListOf K) (tCons (tVar 0) tNil)) tNil))))
abbrev t_law (K : PySem.W.Frag) : TS :=
  (tSeq (tAsg (tOp (rAddA K) (tC (.int 2)) (tOp (rI (fun _ j => 0 < j) fun i j => .int (i % j)) (tCall (spCell K) [] E0 (tCons (tVar 0) (tCons (tC (.int 0)) tNil))) (tC (.int 5)))) (gName 1))
    (tSeq (tAsg (tCall (spWishes K) [] E0 (tCons (tVar 0) (tCons (tVar 1) tNil))) (gName 2))
    (tSeq (tAsg (tCall (spRoads K) [] E0 (tCons (tVar 0) (tCons (tVar 1) (tCons (tVar 2) tNil)))) (gName 3))
    (tSeq (tAsg (tCall (spRows K) [] E0 (tCons (tVar 3) (tCons (tVar 2) tNil))) (gName 4))
    (tSeq (tAsg (tCall (spFlows K) [] E0 (tCons (tVar 4) (tCons (tCall (spAmounts K) [] E0 (tCons (tVar 0) (tCons (tVar 4) tNil))) (tCons (tCB (rLen K) (tCons (tVar 2) tNil)) (tCons (tCB (rLen K) (tCons (tVar 3) tNil)) tNil))))) (gName 5))
    (tSeq (tAsg (tOp (rIx K) (tLst (tCons (tC (.int 1)) (tCons (tC (.int 2)) (tCons (tC (.int 3)) (tCons (tC (.int 6)) tNil))))) (tOp (rI (fun _ j => 0 < j) fun i j => .int (i % j)) (tCall (spMixed K) [] E0 (tCons (tVar 0) (tCons (tC (.int 3)) tNil))) (tC (.int 4)))) (gName 6))
    (tSeq (tAsg (tOp (rAddA K) (tC (.int 1)) (tOp (rI (fun _ j => 0 < j) fun i j => .int (i % j)) (tOp (rI CDivB fun i j => .int (i.fdiv j)) (tCall (spMixed K) [] E0 (tCons (tVar 0) (tCons (tC (.int 3)) tNil))) (tC (.int 4))) (tC (.int 3)))) (gName 7))
    (tSeq (tAsg (tComp 1 [6] (iList K (tVar 3)) (gName 0) tNoIf (tOp (rAddA K) (tSl (rSlT K) (tVar 0) tNoPart (tPart (tC (.int 2)))) (tTup (tCons (tCall (spLLow K) [] E0 (tCons (tOp (rIx K) (tVar 0) (tC (.int 2))) (tCons (tVar 1) tNil))) (tCons (tCall (spLLow K) [] E0 (tCons (tOp (rIx K) (tVar 0) (tC (.int 3))) (tCons (tVar 1) tNil))) (tCons (tOp (rIx K) (tVar 0) (tC (.int 4))) tNil)))))) (gName 8))
    (tSeq (tAsg (tTup (tCons (tVar 1) (tCons (tCB (rListOf K) (tCons (tVar 8) tNil)) tNil))) (gName 9))
    (tSeq (tAsg (tComp 1 [7] (iList K (tVar 5)) (gName 0) tNoIf (tComp 1 [1] (iList K (tVar 0)) (gName 0) tNoIf (tCall (spLLow K) [] E0 (tCons (tVar 0) (tCons (tVar 1) tNil))))) (gName 10))
    (tSeq (tAsg (tComp 1 [] (iList K (tVar 10)) (gName 0) tNoIf (tCB (rListOf K) (tCons (tVar 0) tNil))) (gName 11))
    (tSeq (tAsg (tComp 1 [0] (iRng1 (tCons (tC (.int 5)) tNil)) (gName 0) tNoIf (tOp (rI (fun _ j => 0 < j) fun i j => .int (i % j)) (tOp (rAddA K) (tOp (rI CDivB fun i j => .int (i.fdiv j)) (tCall (spMixed K) [] E0 (tCons (tVar 1) (tCons (tC (.int 2)) tNil))) (tC (.int 3))) (tOp (rI CMulX fun i j => .int (i * j)) (tC (.int 2)) (tVar 0))) (tC (.int 5)))) (gName 12))
    (tSeq (tFor (iList K (tVar 12)) (gName 13) (tIfS (tNot (tB (tCall (spAsked K) [] E0 (tCons (tVar 13) (tCons (tVar 9) (tCons (tVar 10) (tCons (tVar 3) (tCons (tVar 5) (tCons (tVar 6) (tCons (tVar 7) tNil)))))))))) (tRet (tC (.bl false))) tNext))
    (tSeq (tIfS (tOr (tTest (tOp (rNeA K) (tVar 10) (tVar 11))) (tTest (tOp (rNeA K) (tVar 9) (tTup (tCons (tVar 1) (tCons (tVar 8) tNil)))))) (tRet (tC (.bl false))) tNext)
    (tSeq (tAsg (tLst (tCons (tCall (spHeld K) [] E0 (tCons (tCall (spLoads K) [] E0 (tCons (tVar 9) (tCons (tVar 10) tNil))) tNil)) (tCons (tCall (spHeld K) [] E0 (tCons (tCall (spTimes K) [] E0 (tCons (tVar 9) (tCons (tVar 10) tNil))) tNil)) (tCons (tCall (spHeld K) [] E0 (tCons (tCall (spDear K) [] E0 (tCons (tVar 9) (tCons (tVar 10) tNil))) tNil)) tNil)))) (gName 14))
    (tSeq (tAsg (tOp (rIx K) (tVar 4) (tOp (rI (fun _ j => 0 < j) fun i j => .int (i % j)) (tCall (spMixed K) [] E0 (tCons (tVar 0) (tCons (tC (.int 19)) tNil))) (tCB (rLen K) (tCons (tVar 4) tNil)))) (gName 15))
    (tSeq (tAsg (tComp 1 [] (iList K (tVar 5)) (gName 0) tNoIf (tCB (rListOf K) (tCons (tVar 0) tNil))) (gName 16))
    (tSeq (tFor (iList K (tOp (rIx K) (tVar 15) (tC (.int 1)))) (gName 17) (tSeq (tAugS (tOp (rIx K) (tVar 16) (tOp (rIx K) (tVar 15) (tC (.int 0)))) (tVar 17) (tC (.int 1)) (rIxL K) (ipI fun i j => i + j) rSetL)
    (tAsg (tCall (spLLow K) [] E0 (tCons (tOp (rIx K) (tOp (rIx K) (tVar 16) (tOp (rIx K) (tVar 15) (tC (.int 0)))) (tVar 17)) (tCons (tVar 7) tNil))) (gSub (tOp (rIx K) (tVar 10) (tOp (rIx K) (tVar 15) (tC (.int 0)))) (tVar 17) rSetL))))
    (tSeq (tFor (iList K (tRev K (tVar 12) (tPart (tUn (rU fun i => .int (-i)) (tC (.int 1)))))) (gName 13) (tIfS (tNot (tB (tCall (spAsked K) [] E0 (tCons (tVar 13) (tCons (tVar 9) (tCons (tVar 10) (tCons (tVar 3) (tCons (tVar 16) (tCons (tVar 6) (tCons (tVar 7) tNil)))))))))) (tRet (tC (.bl false))) tNext))
    (tSeq (tFor (iList K (tVar 12)) (gName 13) (tIfS (tNot (tB (tCall (spAsked K) [] E0 (tCons (tVar 13) (tCons (tVar 9) (tCons (tVar 11) (tCons (tVar 3) (tCons (tVar 5) (tCons (tVar 6) (tCons (tVar 7) tNil)))))))))) (tRet (tC (.bl false))) tNext))
    (tRet (tOp (rEqA K) (tCB (rLen K) (tCons (tComp 1 [] (iList K (tVar 14)) (gName 0) (tTest (tOp (rNeA K) (tOp (rIx K) (tVar 0) (tC (.int 0))) (tOp (rIx K) (tVar 0) (tC (.int 1))))) (tVar 0)) tNil)) (tC (.int 0))))))))))))))))))))))))
end KC

end

section
set_option maxHeartbeats 1000000
namespace KC
open PySem L2 Fr Cnt
local macro_rules | `(tactic| walk_at "rd1") => `(tactic| first | ((with_reducible refine' s_set2 ?hs ?_); (case hs => ((simp only [List.set_cons_succ, List.set_cons_zero]) <;> exact rfl))) | ((with_reducible refine' s_set ?hs ?_); (case hs => ((simp only [List.set_cons_succ, List.set_cons_zero]) <;> exact rfl))) | (with_reducible refine s_seq ?_) | (with_reducible refine s_asg ?_) | (with_reducible refine s_if ?_) | (with_reducible refine s_asgG ?_) | (with_reducible refine s_gsub ?_) | (with_reducible refine s_sl ?_) | (with_reducible refine s_noPart ?_) | (with_reducible refine s_part ?_) | (with_reducible refine s_exI ?_) | (with_reducible refine s_ret ?_) | (with_reducible refine s_op ?_) | (with_reducible refine s_c ?_) | (with_reducible refine s_cons ?_) | (with_reducible refine s_nil ?_) | (with_reducible refine s_call ?_) | (with_reducible refine s_cb ?_) | (with_reducible refine s_test ?_) | (with_reducible refine s_b ?_) | (with_reducible refine s_and ?_) | (with_reducible refine s_or ?_) | (with_reducible refine s_not ?_) | (with_reducible refine s_andV ?_) | (with_reducible refine s_orV ?_) | (with_reducible refine s_notV ?_) | (with_reducible refine s_ifx ?_) | (with_reducible refine s_chain ?_) | (with_reducible refine s_un ?_) | (with_reducible refine s_tup ?_) | (with_reducible refine s_lst ?_) | (with_reducible refine s_drop ?_) | (with_reducible refine s_retN ?_) | (with_reducible refine s_next ?_) | (with_reducible refine s_break ?_) | (with_reducible refine s_cont ?_) | (with_reducible refine s_par ?_) | ((with_reducible refine' s_var ?hv ?_); (case hv => exact rfl)) | (with_reducible refine s_bl ?_) | (with_reducible refine s_rI0 ?_) | (with_reducible refine s_eqI ?_) | (with_reducible refine s_neI ?_) | (with_reducible refine s_eqB ?_) | (with_reducible refine s_rU ?_) | (with_reducible refine s_eqAI ?_) | (with_reducible refine s_neAI ?_) | (with_reducible refine s_eqAB ?_) | (with_reducible refine s_addI ?_) | ((with_reducible refine' s_ixST ?hq ?he ?_); (case hq => assumption); (case he => exact rfl)) | ((with_reducible refine' s_ixSL ?hq ?he ?_); (case hq => assumption); (case he => exact rfl)) | ((with_reducible refine' s_abs1 ?_)) | ((with_reducible refine' s_lenL ?hq ?_); (case hq => assumption)) | ((with_reducible refine' s_lenT ?hq ?_); (case hq => assumption)) | (with_reducible refine s_isN ?_) | (with_reducible refine s_for ?_) | (with_reducible refine s_iList ?_) | (with_reducible refine s_iTup ?_) | (with_reducible refine s_iR1 ?_) | (with_reducible refine s_iR2 ?_) | (with_reducible refine s_iEnum ?_) | (with_reducible refine s_iZip ?_) | ((with_reducible refine' s_jList ?hq ?_); (case hq => assumption)) | ((with_reducible refine' s_jTup ?hq ?_); (case hq => assumption)) | ((with_reducible refine' s_jEnum ?hq ?_); (case hq => assumption)) | ((with_reducible refine' s_jZip ?hq ?hr ?_); (case hq => assumption); (case hr => assumption)) | ((with_reducible refine' s_aug ?hv ?_); (case hv => exact rfl)) | (with_reducible refine s_augS ?_) | (with_reducible refine s_ipI ?_) | (with_reducible refine s_int1 ?_) | (with_reducible refine s_bm ?_) | (with_reducible refine s_bm0 ?_) | ((with_reducible refine' s_tyL ?hq ?_); (case hq => assumption)) | (with_reducible refine s_notN ?_) | (with_reducible refine s_min2 ?_) | (with_reducible refine s_max2 ?_) | (with_reducible refine s_nx ?_) | (with_reducible refine s_rt ?_) | (with_reducible refine s_bk ?_) | (with_reducible refine s_ct ?_) | (with_reducible refine iteT ?_) | (with_reducible refine iteNt ?_) | (with_reducible refine iteNf ?_) | ((with_reducible refine iteN ?hz ?_); (case hz => exact rfl)) | ((with_reducible refine iteY ?hz ?_); (case hz => exact rfl)) | (with_reducible refine iteF ?_) | ((with_reducible refine' s_ixT ?hq ?he ?_); (case hq => assumption); (case he => exact rfl)) | ((with_reducible refine' s_ixL ?hq ?he ?_); (case hq => assumption); (case he => exact rfl)) | ((with_reducible refine s_rI ?hc ?_); (case hc => first | assumption | exact mulOk (by assumption) (by assumption) | exact (show (0 : Int) < _ by decide) | omega)))
local macro_rules | `(tactic| walk_at "rd") => `(tactic| repeat walk_at "rd1")
variable {K : PySem.W.Frag} {c : Cs} {H : Hp} {vs : List V} {Q : VK} {E : XK}
abbrev EN (Q : VK) : Ends := { nx := fun _ H' => Q .non H', rt := Q }
theorem gcd_emod (a : Int) {b : Int} (hb : 0 < b) (ha : 0 ≤ a) : Int.gcd b (a % b) = Int.gcd a b := by
  have := gcd_step ha (Int.le_of_lt hb)
  rwa [Int.fmod_eq_emod_of_nonneg a (Int.le_of_lt hb)] at this
theorem ne_mono {j : Nat} {σ : St} {H : Hp} {Q Q' : Bool → Hp → Prop} (hQ : ∀ b H1, Q b H1 → Q' b H1) (h : tTest (tOp (rNeA K) (tVar j) (tC (.int 0))) σ H Q) : tTest (tOp (rNeA K) (tVar j) (tC (.int 0))) σ H Q' := by
  obtain ⟨v, e, h⟩ := h
  refine ⟨v, e, ?_⟩
  rcases h with ⟨h1, k, e2, q⟩ | ⟨d, e', h1, h2, h3, h4, k, e2, q⟩ | ⟨h1, k, e2, q⟩
  · exact .inl ⟨h1, k, e2, hQ _ _ q⟩
  · exact .inr (.inl ⟨d, e', h1, h2, h3, h4, k, e2, hQ _ _ q⟩)
  · exact .inr (.inr ⟨h1, k, e2, hQ _ _ q⟩)
theorem rd_common_divisor (h : spGcd vs H Q E) : t_common_divisor K (EN Q) (start ["one", "other", "left"] vs) H := by
  obtain ⟨a, b, rfl, ha, hb, q⟩ := h
  show t_common_divisor K (EN Q) [some (.int a), some (.int b), none] H
  refine s_seq ?_
  refine while_by (fun σ H' => H' = H ∧ ∃ a' b' l, σ = [some (.int a'), some (.int b'), l] ∧ 0 ≤ a' ∧ 0 ≤ b' ∧ Int.gcd a' b' = Int.gcd a b)
    (fun σ _ => match σ with | [_, some (.int b'), _] => b'.toNat | _ => 0) ⟨rfl, a, b, none, rfl, ha, hb, rfl⟩ ?_ (fun σ H Q Q' hQ h => ne_mono hQ h)
  rintro σ H' ⟨rfl, a', b', l, rfl, ha', hb', e⟩
  walk_at "rd"
  by_cases z : b' = 0
  · subst z
    refine iteN (by simp) ?_
    walk_at "rd"
    rw [← e, gcd_end ha'] at q
    exact q
  · refine iteY (by simp [z]) ?_
    have b0 : 0 < b' := by omega
    walk_at "rd"
    refine ⟨⟨rfl, b', a' % b', _, rfl, hb', Int.emod_nonneg _ z, by rw [gcd_emod a' b0 ha', e]⟩, ?_⟩
    have h1 := Int.emod_lt_of_pos a' b0
    have h2 := Int.emod_nonneg a' z
    show (a' % b').toNat < b'.toNat
    omega
theorem rd_lowest (h : spLow K vs H Q E) : t_lowest K (EN Q) (start ["top", "bottom", "divisor"] vs) H := by
  obtain ⟨t, b, rfl, b0, sb, q⟩ := h
  show t_lowest K (EN Q) [some (.int t), some (.int b), none] H
  walk_at "rd"
  refine ⟨_, _, rfl, by split <;> omega, by split <;> omega, ?_⟩
  rw [gcd_abs]
  walk_at "rd"
  by_cases z : b < 0
  · refine iteY (decide_eq_true z) ?_
    obtain ⟨d0, dl, L, x1, y1⟩ := low2 (d := -(Int.gcd t b : Int)) b0 (by rw [if_pos z])
    have cd : ∀ i, CDivB i (-(Int.gcd t b : Int)) := fun i => ⟨d0, Nat.lt_of_le_of_lt dl sb⟩
    have cd1 := cd t
    have cd2 := cd b
    walk_at "rd"
    exact s_al ln2 fun p H' s e => q _ _ _ _ s (.of e) L
  · refine iteN (decide_eq_false z) ?_
    obtain ⟨d0, dl, L, x1, y1⟩ := low2 (d := (Int.gcd t b : Int)) b0 (by rw [if_neg z])
    have cd : ∀ i, CDivB i (Int.gcd t b : Int) := fun i => ⟨d0, Nat.lt_of_le_of_lt dl sb⟩
    have cd1 := cd t
    have cd2 := cd b
    walk_at "rd"
    exact s_al ln2 fun p H' s e => q _ _ _ _ s (.of e) L
theorem FrS.of {H : Hp} {v : V} {x y : Int} (h : FrV H v x y) : FrS K H v x y := by
  obtain ⟨p, rfl, h⟩ := h
  exact ⟨p, rfl, SqT.of h⟩
theorem FrS.mono {H H' : Hp} {v : V} {x y : Int} (t : Tups H H') (h : FrS K H v x y) : FrS K H' v x y := by
  obtain ⟨p, rfl, h⟩ := h
  exact ⟨p, rfl, t.sq h⟩
theorem FrB.mono {B : Int} {H H' : Hp} {v : V} {x : Int} (t : Tups H H') (h : FrB K B H v x) : FrB K B H' v x := by
  obtain ⟨x', y', f, L⟩ := h
  exact ⟨x', y', f.mono t, L⟩
theorem RdV.mono {H H' : Hp} {v : V} {r : Road} (t : Tups H H') (h : RdV H v r) : RdV H' v r := by
  obtain ⟨p, v1, v2, rfl, e, f1, f2⟩ := h
  exact ⟨p, v1, v2, rfl, t.1 _ _ e, f1, f2⟩
theorem RtV.mono {B : Int} {H H' : Hp} {v : V} {r : Road} (t : Tups H H') (h : RtV K B H v r) : RtV K B H' v r := by
  obtain ⟨p, v1, v2, rfl, e, f1, f2⟩ := h
  exact ⟨p, v1, v2, rfl, t.1 _ _ e, f1.mono t, f2.mono t⟩
theorem NetV.same {B : Int} {H H' : Hp} {v : V} {n : Nat} {rvs : List V} {rds : List Road} (t : Same H H') (h : NetV K B H v n rvs rds) : NetV K B H' v n rvs rds := by
  obtain ⟨p, l, rfl, e, f, a⟩ := h
  exact ⟨p, l, rfl, t.tup e, t.seq f, a.imp fun _ _ q => q.mono t.tups⟩
theorem ShV.same {B : Int} {H H' : Hp} {v : V} {xs : List Int} (t : Same H H') (h : ShV K B H v xs) : ShV K B H' v xs := by
  obtain ⟨a, vs, rfl, e, f⟩ := h
  exact ⟨a, vs, rfl, t.seq e, f.imp fun _ _ q => q.mono t.tups⟩
theorem rd__law_whole (h : spWhole K vs H Q E) : t__law_whole K (EN Q) (start ["_law_found"] vs) H := by
  obtain ⟨x, t, rfl, ty, q⟩ := h
  show t__law_whole K (EN Q) [some x] H
  obtain ⟨b1, b2, e1, e2, eb⟩ := ty_whole ty
  walk_at "rd"
  refine ⟨_, _, _, _, b1, rfl, .of ty, .ty _, e1, ?_⟩
  walk_at "rd"
  rw [eb] at q
  cases b1 with
  | false => exact iteF q
  | true =>
    refine iteT ?_
    walk_at "rd"
    refine ⟨_, _, _, _, b2, rfl, .of ty, .ty _, e2, ?_⟩
    walk_at "rd"
    exact q
theorem FrB.cross {B B' : Int} {H : Hp} {v : V} {x x' : Int} (h : FrB K B H v x) (b : 0 < B) (e : x * B' = x' * B) : FrB K B' H v x' := by
  obtain ⟨t, u, f, L⟩ := h
  exact ⟨t, u, f, L.cross (by omega) e⟩
theorem FrB.bd {B : Int} {H : Hp} {v : V} {x : Int} (h : FrB K B H v x) (b0 : 0 < B) (sB : Sz 400 B) (sx : Sz 400 x) : ∃ p t b, v = .ref p ∧ SqT K H p [.int t, .int b] ∧ Low x B t b ∧ 0 < b ∧ Sz 400 t ∧ Sz 400 b := by
  obtain ⟨t, b, ⟨p, rfl, S⟩, L⟩ := h
  obtain ⟨l1, l2, l3⟩ := L.small b0
  exact ⟨p, t, b, rfl, S, L, l1, sx.le l3, sB.le (by omega)⟩
theorem addX {t1 b1 t2 b2 x1 x2 B C : Int} (e1 : t1 * B = x1 * b1) (e2 : t2 * C = x2 * b2) : (t1 * b2 + t2 * b1) * (B * C) = (x1 * C + x2 * B) * (b1 * b2) := by
  have h1 : t1 * b2 * (B * C) = (t1 * B) * (b2 * C) := by ac_rfl
  have h2 : t2 * b1 * (B * C) = (t2 * C) * (b1 * B) := by ac_rfl
  have h3 : x1 * C * (b1 * b2) = (x1 * b1) * (b2 * C) := by ac_rfl
  have h4 : x2 * B * (b1 * b2) = (x2 * b2) * (b1 * B) := by ac_rfl
  rw [Int.add_mul, Int.add_mul, h1, h2, h3, h4, e1, e2]
theorem mulX {t1 b1 t2 b2 x1 x2 B C : Int} (e1 : t1 * B = x1 * b1) (e2 : t2 * C = x2 * b2) : (t1 * t2) * (B * C) = (x1 * x2) * (b1 * b2) := by
  have h1 : t1 * t2 * (B * C) = (t1 * B) * (t2 * C) := by ac_rfl
  have h2 : x1 * x2 * (b1 * b2) = (x1 * b1) * (x2 * b2) := by ac_rfl
  rw [h1, h2, e1, e2]
theorem rd_sum_of (h : spSum K vs H Q E) : t_sum_of K (EN Q) (start ["one", "other"] vs) H := by
  obtain ⟨B, C, v1, v2, x, y, rfl, b0, c0, f1, f2, ⟨sB, sC, sx, sy⟩, q⟩ := h
  obtain ⟨p1, t1, c1, rfl, S1, L1, o1, a, b⟩ := f1.bd b0 sB sx
  obtain ⟨p2, t2, c2, rfl, S2, L2, o2, c, d⟩ := f2.bd c0 sC sy
  show t_sum_of K (EN Q) [some (.ref p1), some (.ref p2)] H
  have z1 := a.mul d
  have z2 := c.mul b
  have z3 := b.mul d
  have m1 : CMulX t1 c2 := .inr ⟨a.sm, d.sm⟩
  have m2 : CMulX t2 c1 := .inr ⟨c.sm, b.sm⟩
  have m3 : CMulX c1 c2 := .inr ⟨b.sm, d.sm⟩
  walk_at "rd"
  have yy : 0 < c1 * c2 := Int.mul_pos o1 o2
  exact ⟨_, _, rfl, by omega, z3.sm, fun x y v H' s f L => q v H' s ⟨_, _, .of f, L.cross (by omega) (addX L1.eq L2.eq)⟩⟩
theorem rd_product_of (h : spProd K vs H Q E) : t_product_of K (EN Q) (start ["one", "other"] vs) H := by
  obtain ⟨B, C, v1, v2, x, y, rfl, b0, c0, f1, f2, ⟨sB, sC, sx, sy⟩, q⟩ := h
  obtain ⟨p1, t1, c1, rfl, S1, L1, o1, a, b⟩ := f1.bd b0 sB sx
  obtain ⟨p2, t2, c2, rfl, S2, L2, o2, c, d⟩ := f2.bd c0 sC sy
  show t_product_of K (EN Q) [some (.ref p1), some (.ref p2)] H
  have z3 := b.mul d
  have m1 : CMulX t1 t2 := .inr ⟨a.sm, c.sm⟩
  have m3 : CMulX c1 c2 := .inr ⟨b.sm, d.sm⟩
  walk_at "rd"
  have yy : 0 < c1 * c2 := Int.mul_pos o1 o2
  exact ⟨_, _, rfl, by omega, z3.sm, fun x y v H' s f L => q v H' s ⟨_, _, .of f, L.cross (by omega) (mulX L1.eq L2.eq)⟩⟩
theorem const2 {aN : Addr} {x y : Int} (hN : ∀ H, Rp K H (.ref aN) (.tuple [.int x, .int y])) (H : Hp) : FrS K H (.ref aN) x y := by
  refine ⟨aN, rfl, ?_⟩
  cases hN H with
  | tup h hs =>
    cases hs with
    | cons r1 hs =>
      cases r1
      cases hs with
      | cons r2 hs =>
        cases r2
        cases hs
        exact h
theorem nought {aN : Addr} (hN : ∀ H, Rp K H (.ref aN) (.tuple [.int 0, .int 1])) (B : Int) (H : Hp) : FrB K B H (.ref aN) 0 := ⟨0, 1, const2 hN H, by decide, by decide, by simp⟩
theorem sum_bd {M : Int} : ∀ {xs : List Int}, (∀ x ∈ xs, -M ≤ x ∧ x ≤ M) → -(M * xs.length) ≤ xs.sum ∧ xs.sum ≤ M * xs.length
  | [], _ => by simp
  | x :: xs, h => by
    have ih := sum_bd (xs := xs) fun y hy => h y (List.mem_cons_of_mem _ hy)
    have hx := h x (by simp)
    rw [List.sum_cons, List.length_cons]
    push_cast
    rw [Int.mul_add, Int.mul_one]
    omega
theorem rd_sum_of_all {aN : Addr} (hN : ∀ H, Rp K H (.ref aN) (.tuple [.int 0, .int 1])) (h : spSumAll K vs H Q E) : t_sum_of_all K aN (EN Q) (start ["amounts", "whole", "amount"] vs) H := by
  obtain ⟨B, l, fs, xs, rfl, b0, sB, S, af, l13, bd, q⟩ := h
  show t_sum_of_all K aN (EN Q) [some (.ref l), none, none] H
  walk_at "rd"
  have len := af.len
  refine for_list (xs := fs) (fun i σ H' => (∃ w v2, σ = [some (.ref l), some w, v2] ∧ FrB K B H' w (xs.take i).sum) ∧ Same H H') ⟨⟨_, _, rfl, nought hN B H⟩, Same.refl _⟩ ?_ ?_ ?_
  · rintro i σ H1 _ ⟨_, s1⟩
    exact s1.seq S
  · rintro i x σ H1 hx ⟨⟨w, v2, rfl, fw⟩, s1⟩
    obtain ⟨y, ey, fy⟩ := af.get hx
    have il : i < xs.length := (List.getElem?_eq_some_iff.mp ey).1
    refine s_gn (σ' := [some (.ref l), some w, some x]) rfl ?_
    dsimp only
    have h1 := bd y (List.mem_of_getElem? ey)
    have h2 := sum_bd (M := 2 ^ 350) (xs := xs.take i) fun z hz => bd z (List.mem_of_mem_take hz)
    have h3 : ((xs.take i).length : Int) ≤ 13 := by rw [List.length_take]; omega
    have y4 : Sz 400 y := by
      show y.natAbs < 2 ^ 400
      omega
    have s4 : Sz 400 (xs.take i).sum := by
      show (xs.take i).sum.natAbs < 2 ^ 400
      omega
    walk_at "rd"
    refine ⟨B, B, _, _, _, y, rfl, b0, b0, fw, fy.mono s1.tups, ⟨sB.mono (by decide), sB.mono (by decide), s4, y4⟩, fun v H2 s2 fv => ?_⟩
    walk_at "rd"
    refine ⟨⟨v, _, rfl, ?_⟩, Same.trans s1 s2⟩
    rw [List.take_add_one, ey, List.sum_append]
    have e : ((xs.take i).sum * B + y * B) * B = ((xs.take i).sum + [y].sum) * (B * B) := by
      rw [← Int.add_mul, Int.mul_assoc]
      simp
    exact fv.cross (Int.mul_pos b0 b0) e
  · rintro σ H1 ⟨⟨w, v2, rfl, fw⟩, s1⟩
    walk_at "rd"
    rw [len, List.take_length] at fw
    exact q w H1 s1 fw
theorem cm {i j : Int} (h : -(2 ^ 64) < j ∧ j < 2 ^ 64) : CMulX i j := .inl (.inr h)
theorem cml {i j : Int} (h : -(2 ^ 64) < i ∧ i < 2 ^ 64) : CMulX i j := .inl (.inl h)
theorem cd {i j : Int} (h : j ≠ 0) (l : j.natAbs < 2 ^ 64) : CDivB i j := ⟨h, Nat.lt_trans l (Nat.pow_lt_pow_right (by decide) (by decide))⟩
theorem rd__law_cell (h : spCell K vs H Q E) : t__law_cell K (EN Q) (start ["_law_script", "_law_k", "_law_number"] vs) H := by
  obtain ⟨a, ns, k, rfl, S, k0, k1, q⟩ := h
  show t__law_cell K (EN Q) [some (.ref a), some (.int k), none] H
  walk_at "rd"
  by_cases hk : k < ((ns.map V.int).length : Int)
  · refine iteY (decide_eq_true hk) ?_
    walk_at "rd"
    rw [List.length_map] at hk
    obtain ⟨j, rfl⟩ := Int.eq_ofNat_of_zero_le k0
    have hj : j < ns.length := by omega
    exact s_ixSL S (atI_nat (v := .int ns[j]) (by simp [hj])) (q _)
  · refine iteN (decide_eq_false hk) ?_
    have c1 : CMulX k k := cml ⟨by omega, by omega⟩
    have c2 : CMulX (k * k) 104729 := cm (by decide)
    walk_at "rd"
    by_cases hl : (0 : Int) < ((ns.map V.int).length : Int)
    · refine iteY (decide_eq_true hl) ?_
      have c3 : CMulX k 7 := cm (by decide)
      walk_at "rd"
      obtain ⟨j, ej, jl⟩ : ∃ j : Nat, k * 7 % ((ns.map V.int).length : Int) = (j : Int) ∧ j < ns.length := by
        have a0 := Int.emod_nonneg (k * 7) (show ((ns.map V.int).length : Int) ≠ 0 by omega)
        have a1 := Int.emod_lt_of_pos (k * 7) hl
        obtain ⟨j, ej⟩ := Int.eq_ofNat_of_zero_le a0
        rw [List.length_map] at a1 ej
        exact ⟨j, by rw [List.length_map]; exact ej, by omega⟩
      rw [ej]
      refine s_ixSL S (atI_nat (v := .int ns[j]) (by simp [jl])) ?_
      have c4 : CMulX (ns[j] % 2147483629) 16807 := cm (by decide)
      walk_at "rd"
      have c5 : CMulX (k * k * 104729 + 48271 + ns[j] % 2147483629 * 16807) 69621 := cm (by decide)
      walk_at "rd"
      exact q _
    · refine iteN (decide_eq_false hl) ?_
      have c5 : CMulX (k * k * 104729 + 48271) 69621 := cm (by decide)
      walk_at "rd"
      exact q _
theorem rd__law_mixed (h : spMixed K vs H Q E) : t__law_mixed K (EN Q) (start ["_law_script", "_law_k"] vs) H := by
  obtain ⟨a, ns, k, rfl, S, k0, k1, q⟩ := h
  show t__law_mixed K (EN Q) [some (.ref a), some (.int k)] H
  walk_at "rd"
  refine ⟨_, _, _, rfl, S, k0, k1, fun z => ?_⟩
  have c1 : CMulX (z % 1000003) 69621 := cm (by decide)
  walk_at "rd"
  exact q _ (Int.emod_nonneg _ (by decide)) (Int.emod_lt_of_pos _ (by decide))
theorem rd__law_divisor (h : spGcd vs H Q E) : t__law_divisor K (EN Q) (start ["_law_one", "_law_other"] vs) H := by
  obtain ⟨a, b, rfl, ha, hb, q⟩ := h
  show t__law_divisor K (EN Q) [some (.int a), some (.int b)] H
  refine s_seq ?_
  refine while_by (fun σ H' => H' = H ∧ ∃ a' b', σ = [some (.int a'), some (.int b')] ∧ 0 ≤ a' ∧ 0 ≤ b' ∧ Int.gcd a' b' = Int.gcd a b)
    (fun σ _ => match σ with | [_, some (.int b')] => b'.toNat | _ => 0) ⟨rfl, _, _, rfl, ha, hb, rfl⟩ ?_ (fun σ H Q Q' hQ h => ne_mono hQ h)
  rintro σ H' ⟨rfl, a', b', rfl, ha', hb', e⟩
  walk_at "rd"
  by_cases z : b' = 0
  · subst z
    refine iteN (by simp) ?_
    walk_at "rd"
    rw [if_neg (by omega)]
    rw [← e, gcd_end ha'] at q
    exact q
  · refine iteY (by simp [z]) ?_
    have b0 : 0 < b' := by omega
    walk_at "rd"
    refine ⟨_, _, rfl, ?_⟩
    walk_at "rd"
    refine ⟨⟨rfl, b', a' % b', rfl, hb', Int.emod_nonneg _ z, by rw [gcd_emod a' b0 ha', e]⟩, ?_⟩
    have h1 := Int.emod_lt_of_pos a' b0
    have h2 := Int.emod_nonneg a' z
    show (a' % b').toNat < b'.toNat
    omega
theorem rd__law_lowest (h : spLLow K vs H Q E) : t__law_lowest K (EN Q) (start ["_law_top", "_law_bottom", "_law_by"] vs) H := by
  obtain ⟨t, b, rfl, t0, b0, sb, q⟩ := h
  show t__law_lowest K (EN Q) [some (.int t), some (.int b), none] H
  walk_at "rd"
  refine ⟨_, _, rfl, t0, by omega, ?_⟩
  obtain ⟨d0, dl, L, x1, y1⟩ := low2 (t := t) (b := b) (d := (Int.gcd t b : Int)) (by omega) (by rw [if_neg (by omega)])
  have cd : ∀ i, CDivB i (Int.gcd t b : Int) := fun i => ⟨d0, Nat.lt_of_le_of_lt dl sb⟩
  have cd1 := cd t
  have cd2 := cd b
  walk_at "rd"
  exact s_al ln2 fun p H' s e => q _ _ _ _ s (.of e) L
theorem low_sign {B x t b : Int} (b0 : 0 < B) (L : Low x B t b) : 0 ≤ t ↔ 0 ≤ x := by
  have e := L.eq
  have p := L.pos
  constructor
  · intro h
    refine Int.not_lt.mp fun z => ?_
    have h1 : x * b < 0 := Int.mul_neg_of_neg_of_pos z p
    have h2 : 0 ≤ t * B := Int.mul_nonneg h (Int.le_of_lt b0)
    omega
  · intro h
    refine Int.not_lt.mp fun z => ?_
    have h1 : t * B < 0 := Int.mul_neg_of_neg_of_pos z b0
    have h2 : 0 ≤ x * b := Int.mul_nonneg h (Int.le_of_lt p)
    omega
theorem rd__law_equal (h : spEqual K vs H Q E) : t__law_equal K (EN Q) (start ["_law_found", "_law_top", "_law_bottom"] vs) H := by
  obtain ⟨v, t, b, D, x, rfl, d0, f, x0, sx, sD, st, sb, e, q⟩ := h
  obtain ⟨p, u, w, rfl, S, L, w0, su, sw⟩ := f.bd d0 sD sx
  show t__law_equal K (EN Q) [some (.ref p), some (.int t), some (.int b)] H
  have u0 : 0 ≤ u := (low_sign d0 L).mpr x0
  have e2 : u * b = t * w := by
    have h1 := L.eq
    refine Int.eq_of_mul_eq_mul_right (a := D) (by omega) ?_
    have h2 : u * b * D = (u * D) * b := by ac_rfl
    have h3 : t * w * D = (t * D) * w := by ac_rfl
    rw [h2, h3, h1, ← e]
    ac_rfl
  have z1 := su.mul sb
  have z2 := st.mul sw
  have m1 : CMulX u b := .inr ⟨su.sm, sb.sm⟩
  have m2 : CMulX t w := .inr ⟨st.sm, sw.sm⟩
  walk_at "rd"
  refine .inr ⟨p, _, rfl, S, ⟨_, rfl, ?_⟩⟩
  walk_at "rd"
  refine ⟨_, _, rfl, TyOf.int u, ?_⟩
  walk_at "rd"
  refine ⟨_, _, rfl, TyOf.int w, ?_⟩
  walk_at "rd"
  refine iteN (decide_eq_false (by omega)) ?_
  walk_at "rd"
  refine ⟨_, _, rfl, u0, by omega, ?_⟩
  walk_at "rd"
  rw [L.cop]
  walk_at "rd"
  rw [e2, decide_eq_true rfl]
  exact q
end KC

end

section
set_option maxHeartbeats 1000000
namespace KC
open PySem L2 Fr Cnt
local macro_rules | `(tactic| walk_at "rd1") => `(tactic| first | ((with_reducible refine' s_set2 ?hs ?_); (case hs => ((simp only [List.set_cons_succ, List.set_cons_zero]) <;> exact rfl))) | ((with_reducible refine' s_set ?hs ?_); (case hs => ((simp only [List.set_cons_succ, List.set_cons_zero]) <;> exact rfl))) | (with_reducible refine s_seq ?_) | (with_reducible refine s_asg ?_) | (with_reducible refine s_if ?_) | (with_reducible refine s_asgG ?_) | (with_reducible refine s_gsub ?_) | (with_reducible refine s_sl ?_) | (with_reducible refine s_noPart ?_) | (with_reducible refine s_part ?_) | (with_reducible refine s_exI ?_) | (with_reducible refine s_ret ?_) | (with_reducible refine s_op ?_) | (with_reducible refine s_c ?_) | (with_reducible refine s_cons ?_) | (with_reducible refine s_nil ?_) | (with_reducible refine s_call ?_) | (with_reducible refine s_cb ?_) | (with_reducible refine s_test ?_) | (with_reducible refine s_b ?_) | (with_reducible refine s_and ?_) | (with_reducible refine s_or ?_) | (with_reducible refine s_not ?_) | (with_reducible refine s_andV ?_) | (with_reducible refine s_orV ?_) | (with_reducible refine s_notV ?_) | (with_reducible refine s_ifx ?_) | (with_reducible refine s_chain ?_) | (with_reducible refine s_un ?_) | (with_reducible refine s_tup ?_) | (with_reducible refine s_lst ?_) | (with_reducible refine s_drop ?_) | (with_reducible refine s_retN ?_) | (with_reducible refine s_next ?_) | (with_reducible refine s_break ?_) | (with_reducible refine s_cont ?_) | (with_reducible refine s_par ?_) | ((with_reducible refine' s_var ?hv ?_); (case hv => exact rfl)) | (with_reducible refine s_bl ?_) | (with_reducible refine s_rI0 ?_) | (with_reducible refine s_eqI ?_) | (with_reducible refine s_neI ?_) | (with_reducible refine s_eqB ?_) | (with_reducible refine s_rU ?_) | (with_reducible refine s_eqAI ?_) | (with_reducible refine s_neAI ?_) | (with_reducible refine s_eqAB ?_) | (with_reducible refine s_addI ?_) | ((with_reducible refine' s_ixST ?hq ?he ?_); (case hq => assumption); (case he => exact rfl)) | ((with_reducible refine' s_ixSL ?hq ?he ?_); (case hq => assumption); (case he => exact rfl)) | ((with_reducible refine' s_abs1 ?_)) | ((with_reducible refine' s_lenL ?hq ?_); (case hq => assumption)) | ((with_reducible refine' s_lenT ?hq ?_); (case hq => assumption)) | (with_reducible refine s_isN ?_) | (with_reducible refine s_for ?_) | (with_reducible refine s_iList ?_) | (with_reducible refine s_iTup ?_) | (with_reducible refine s_iR1 ?_) | (with_reducible refine s_iR2 ?_) | (with_reducible refine s_iEnum ?_) | (with_reducible refine s_iZip ?_) | ((with_reducible refine' s_jList ?hq ?_); (case hq => assumption)) | ((with_reducible refine' s_jTup ?hq ?_); (case hq => assumption)) | ((with_reducible refine' s_jEnum ?hq ?_); (case hq => assumption)) | ((with_reducible refine' s_jZip ?hq ?hr ?_); (case hq => assumption); (case hr => assumption)) | ((with_reducible refine' s_aug ?hv ?_); (case hv => exact rfl)) | (with_reducible refine s_augS ?_) | (with_reducible refine s_ipI ?_) | (with_reducible refine s_int1 ?_) | (with_reducible refine s_bm ?_) | (with_reducible refine s_bm0 ?_) | ((with_reducible refine' s_tyL ?hq ?_); (case hq => assumption)) | (with_reducible refine s_notN ?_) | (with_reducible refine s_min2 ?_) | (with_reducible refine s_max2 ?_) | (with_reducible refine s_nx ?_) | (with_reducible refine s_rt ?_) | (with_reducible refine s_bk ?_) | (with_reducible refine s_ct ?_) | (with_reducible refine iteT ?_) | (with_reducible refine iteNt ?_) | (with_reducible refine iteNf ?_) | ((with_reducible refine iteN ?hz ?_); (case hz => exact rfl)) | ((with_reducible refine iteY ?hz ?_); (case hz => exact rfl)) | (with_reducible refine iteF ?_) | ((with_reducible refine' s_ixT ?hq ?he ?_); (case hq => assumption); (case he => exact rfl)) | ((with_reducible refine' s_ixL ?hq ?he ?_); (case hq => assumption); (case he => exact rfl)) | ((with_reducible refine s_rI ?hc ?_); (case hc => first | assumption | exact mulOk (by assumption) (by assumption) | exact (show (0 : Int) < _ by decide) | omega)))
local macro_rules | `(tactic| walk_at "rd") => `(tactic| repeat walk_at "rd1")
variable {K : PySem.W.Frag} {c : Cs} {H : Hp} {vs : List V} {Q : VK} {E : XK}
theorem fr_mono {B : Int} {H H' : Hp} {vs : List V} {ts : List Int} (t : Tups H H') (h : All2 (FrB K B H) vs ts) : All2 (FrB K B H') vs ts := h.imp fun _ _ z => z.mono t
theorem rds_mono {H H' : Hp} {vs : List V} {rds : List Road} (t : Tups H H') (h : All2 (RdV H) vs rds) : All2 (RdV H') vs rds := h.imp fun _ _ z => z.mono t
theorem zip_get {α β : Type} {as : List α} {bs : List β} {i : Nat} {a : α} {b : β} (h1 : as[i]? = some a) (h2 : bs[i]? = some b) : (as.zip bs)[i]? = some (a, b) := by
  rw [List.getElem?_zip_eq_some]
  exact ⟨h1, h2⟩
theorem rdAt_of {rds : List Road} {i : Nat} {r : Road} (h : rds[i]? = some r) : rdAt rds i = r := by
  unfold rdAt
  rw [List.getD_eq_getElem?_getD, h]
  rfl
theorem nil_or {α : Type} (l : List α) : l = [] ∨ ∃ a b, l = a ++ [b] := by
  rcases List.eq_nil_or_concat l with e | ⟨a, b, e⟩
  · exact .inl e
  · exact .inr ⟨a, b, by simpa using e⟩
theorem all2_concat {α β : Type} {R : α → β → Prop} : ∀ {bs : List β} {as : List α} {b : β}, All2 R as (bs ++ [b]) → ∃ as' a, as = as' ++ [a] ∧ All2 R as' bs ∧ R a b
  | [], _, _, .cons r .nil => ⟨[], _, rfl, .nil, r⟩
  | _ :: bs, _, _, .cons r t => by
    obtain ⟨as', a, e, h, r'⟩ := all2_concat t
    exact ⟨_ :: as', a, by rw [e]; rfl, .cons r h, r'⟩
theorem all2_perm {α β : Type} {R : α → β → Prop} {as as' : List α} (p : as'.Perm as) : ∀ {bs : List β}, All2 R as bs → ∃ bs', All2 R as' bs' ∧ bs'.Perm bs := by
  induction p with
  | nil => intro bs r; cases r; exact ⟨[], .nil, .nil⟩
  | cons v _ ih =>
    intro bs r
    cases r with
    | cons h r =>
      obtain ⟨ys, r', p'⟩ := ih r
      exact ⟨_, .cons h r', .cons _ p'⟩
  | swap a b l =>
    intro bs r
    cases r with
    | cons h1 r =>
      cases r with
      | cons h2 r => exact ⟨_, .cons h2 (.cons h1 r), .swap _ _ _⟩
  | trans _ _ ih1 ih2 =>
    intro bs r
    obtain ⟨ys, r1, p1⟩ := ih2 r
    obtain ⟨zs, r2, p2⟩ := ih1 r1
    exact ⟨zs, r2, p2.trans p1⟩
theorem Chain.snoc {rds : List Road} {ok : Nat → Bool} {k : Nat} (hk : k < rds.length) (ho : ok k = true) : ∀ {w : List Nat} {v u : Nat}, Chain rds ok v w u → (rdAt rds k).s = u → Chain rds ok v (w ++ [k]) (rdAt rds k).e
  | [], v, u, h, e => ⟨hk, ho, e.trans h.symm, rfl⟩
  | j :: w, v, u, h, e => ⟨h.1, h.2.1, h.2.2.1, Chain.snoc hk ho h.2.2.2 e⟩
theorem Chain.imp {rds : List Road} {ok ok' : Nat → Bool} (f : ∀ k, ok k = true → ok' k = true) : ∀ {w : List Nat} {v u : Nat}, Chain rds ok v w u → Chain rds ok' v w u
  | [], _, _, h => h
  | j :: w, _, _, h => ⟨h.1, f j h.2.1, h.2.2.1, Chain.imp f h.2.2.2⟩
/-- one begun: its roads, its places but the last, the last -/
structure It where
  (w pi : List Nat)
  u : Nat
def seen (it : It) : List Nat := it.u :: it.pi.reverse
def cI (G : List Pr) (t : Nat) (it : It) : Nat := cnt G t (6 - it.pi.length) (seen it) it.u
def wt (its : List It) : Nat := (its.map fun it => 15 ^ (6 - it.pi.length)).sum
theorem wt_app {ps qs : List It} : wt (ps ++ qs) = wt ps + wt qs := by
  unfold wt
  rw [List.map_append, List.sum_append]
theorem wt_one {p : It} : wt [p] = 15 ^ (6 - p.pi.length) := by simp [wt]
theorem len_wt : ∀ {ps : List It}, ps.length ≤ wt ps
  | [] => by simp
  | p :: ps => by
    have ih := len_wt (ps := ps)
    have e : wt (p :: ps) = 15 ^ (6 - p.pi.length) + wt ps := by simp [wt]
    have : 0 < 15 ^ (6 - p.pi.length) := Nat.pow_pos (by decide)
    rw [e, List.length_cons]
    omega
def ItV (lf lb : Addr) (H : Hp) (v : V) (it : It) : Prop := ∃ p a b, v = .ref p ∧ H p = some (.tup [.ref a, .ref b]) ∧ H a = some (.lst (it.w.map fun (i : Nat) => V.int i)) ∧ H b = some (.lst ((it.pi ++ [it.u]).map fun (i : Nat) => V.int i)) ∧ (a ≠ lf ∧ a ≠ lb) ∧ b ≠ lf ∧ b ≠ lb
def IntsN (lf lb : Addr) (H : Hp) (v : V) (w : List Nat) : Prop := ∃ a, v = .ref a ∧ (a ≠ lf ∧ a ≠ lb) ∧ H a = some (.lst (w.map fun (i : Nat) => V.int i))
theorem ItV.same {lf lb : Addr} {H H' : Hp} {v : V} {it : It} (s : Same H H') (h : ItV lf lb H v it) : ItV lf lb H' v it := by
  obtain ⟨p, a, b, rfl, e1, e2, e3, n⟩ := h
  exact ⟨p, a, b, rfl, s _ _ e1, s _ _ e2, s _ _ e3, n⟩
theorem IntsN.same {lf lb : Addr} {H H' : Hp} {v : V} {w : List Nat} (s : Same H H') (h : IntsN lf lb H v w) : IntsN lf lb H' v w := by
  obtain ⟨a, rfl, n, e⟩ := h
  exact ⟨a, rfl, n, s _ _ e⟩
theorem ItV.upd {lf lb : Addr} {H : Hp} {v : V} {it : It} {l : Addr} {xs ys : List V} (hl : l = lf ∨ l = lb) (e : H l = some (.lst xs)) (h : ItV lf lb H v it) : ItV lf lb (L2.upd H l (.lst ys)) v it := by
  obtain ⟨p, a, b, rfl, e1, e2, e3, ⟨n1, n2⟩, n3, n4⟩ := h
  have na : a ≠ l := by rcases hl with rfl | rfl <;> assumption
  have nb : b ≠ l := by rcases hl with rfl | rfl <;> assumption
  exact ⟨p, a, b, rfl, (Tups.lst e).1 _ _ e1, by rw [upd_ne na]; exact e2, by rw [upd_ne nb]; exact e3, ⟨n1, n2⟩, n3, n4⟩
theorem IntsN.upd {lf lb : Addr} {H : Hp} {v : V} {w : List Nat} {l : Addr} {o : HO} (hl : l = lf ∨ l = lb) (h : IntsN lf lb H v w) : IntsN lf lb (L2.upd H l o) v w := by
  obtain ⟨a, rfl, ⟨n1, n2⟩, e⟩ := h
  have na : a ≠ l := by rcases hl with rfl | rfl <;> assumption
  exact ⟨a, rfl, ⟨n1, n2⟩, by rw [upd_ne na]; exact e⟩
def ItOk (n : Nat) (rds : List Road) (lane : Bool) (above : Int) (s : Nat) (it : It) : Prop := (it.pi ++ [it.u]).Nodup ∧ (∀ x ∈ it.pi ++ [it.u], x < n) ∧ Chain rds (al rds lane above) s it.w it.u ∧ it.w.length = it.pi.length
/-- what is found, what is begun -/
def DInv (lf lb : Addr) (n : Nat) (rds : List Road) (lane : Bool) (above : Int) (s t : Nat) (H : Hp) (m c : Nat) : Prop := ∃ fvs fds bvs its, H lf = some (.lst fvs) ∧ All2 (IntsN lf lb H) fvs fds ∧ H lb = some (.lst bvs) ∧ All2 (ItV lf lb H) bvs its ∧ (∀ it ∈ its, ItOk n rds lane above s it) ∧
  (∀ w ∈ fds, Chain rds (al rds lane above) s w t ∧ w.length ≤ 6) ∧ fds.length + (its.map (cI (gr rds lane above rds.length) t)).sum = c ∧ wt its ≤ m
theorem it_rp {lf lb : Addr} {H : Hp} {vs : List V} {its : List It} (h : All2 (ItV lf lb H) vs its) : Rps K H vs (its.map fun it => PyData.tuple [.list (it.w.map fun (i : Nat) => PyData.int i), .list ((it.pi ++ [it.u]).map fun (i : Nat) => PyData.int i)]) := by
  have inz : ∀ (p : List Nat), All2 (Rp K H) (p.map fun (i : Nat) => V.int i) (p.map fun (i : Nat) => PyData.int i) := fun p => by
    induction p with
    | nil => exact .nil
    | cons i p ih => exact .cons (.int _) ih
  have : All2 (Rp K H) vs (its.map fun it => PyData.tuple [.list (it.w.map fun (i : Nat) => PyData.int i), .list ((it.pi ++ [it.u]).map fun (i : Nat) => PyData.int i)]) := by
    induction h with
    | nil => exact .nil
    | cons r _ ih =>
      obtain ⟨p, a, b, rfl, e1, e2, e3, _⟩ := r
      exact .cons (.tup (SqT.of e1) (.cons (.lst (SqL.of e2) (rps_of (inz _))) (.cons (.lst (SqL.of e3) (rps_of (inz _))) .nil))) ih
  exact rps_of this
theorem it_pd {its : List It} : PD 3 (.list (its.map fun it => PyData.tuple [.list (it.w.map fun (i : Nat) => PyData.int i), .list ((it.pi ++ [it.u]).map fun (i : Nat) => PyData.int i)])) := by
  have inz : ∀ (p : List Nat), PD 1 (.list (p.map fun (i : Nat) => PyData.int i)) := fun p => PD.list fun d hd => by
    obtain ⟨i, _, rfl⟩ := List.mem_map.mp hd
    exact PD.int _
  refine PD.list fun d hd => ?_
  obtain ⟨it, _, rfl⟩ := List.mem_map.mp hd
  refine PD.tuple fun d hd => ?_
  simp only [List.mem_cons, List.not_mem_nil, or_false] at hd
  rcases hd with rfl | rfl
  · exact inz _
  · exact inz _
/-- the terms of the roads ahead -/
def tms (rds : List Road) (lane : Bool) (above : Int) (t u : Nat) (sn : List Nat) (cc : Nat → Nat) (i : Nat) : Nat := ((gr rds lane above i).map (tm t u sn cc)).sum
theorem tms_succ {rds : List Road} {lane : Bool} {above : Int} {t u : Nat} {sn : List Nat} {cc : Nat → Nat} {i : Nat} : tms rds lane above t u sn cc (i + 1) = tms rds lane above t u sn cc i + if al rds lane above i = true then tm t u sn cc (prAt rds i) else 0 := by
  unfold tms gr
  rw [List.range_succ, List.filter_append, List.map_append, List.map_append, List.sum_append]
  congr 1
  rw [List.filter_cons]
  cases al rds lane above i <;> simp
theorem tms_mono {rds : List Road} {lane : Bool} {above : Int} {t u : Nat} {sn : List Nat} {cc : Nat → Nat} {i j : Nat} (h : i < j) : tms rds lane above t u sn cc (i + 1) ≤ tms rds lane above t u sn cc j := by
  induction h with
  | refl => exact Nat.le_refl _
  | @step m _ ih =>
    have := tms_succ (rds := rds) (lane := lane) (above := above) (t := t) (u := u) (sn := sn) (cc := cc) (i := m)
    show _ ≤ tms rds lane above t u sn cc (m + 1)
    omega
theorem rd__law_ways (h : spWays K vs H Q E) : t__law_ways K (EN Q) (start ["_law_roads_here", "_law_start", "_law_end", "_law_lane", "_law_above", "_law_found", "_law_begun_here", "_law_way", "_law_seen", "_law_k", "_law_road"] vs) H := by
  obtain ⟨l, n, s, t, lane, above, rvs, rds, rfl, Sl, alr, l12, okr, n6, sn, c64, q⟩ := h
  show t__law_ways K (EN Q) [some (.ref l), some (.int s), some (.int t), some (.bl lane), some (.int above), none, none, none, none, none, none] H
  walk_at "rd"
  refine s_alN ln0 fun lf H1 nf s1 e1 => ?_
  walk_at "rd"
  refine s_alN ln0 fun a0 H2 na s2 e2 => ?_
  walk_at "rd"
  refine s_alN ln1 fun b0 H3 nb0 s3 e3 => ?_
  walk_at "rd"
  refine s_alN ln2 fun p0 H4 np0 s4 e4 => ?_
  walk_at "rd"
  refine s_alN ln1 fun lb H5 nb s5 e5 => ?_
  have s15 := Same.trans s2 (Same.trans s3 (Same.trans s4 s5))
  have s05 := Same.trans s1 s15
  have n0 : H lb = none := s1.free (s2.free (s3.free (s4.free nb)))
  have ne : ∀ {x : Addr} {o : HO}, H4 x = some o → x ≠ lb := fun {x o} hx z => by
    subst z
    rw [hx] at nb
    cases nb
  have nelf : ∀ {x : Addr}, H1 x = none → x ≠ lf := fun {x} hx z => by
    subst z
    rw [e1] at hx
    cases hx
  have nfb : lf ≠ lb := ne (s4 _ _ (s3 _ _ (s2 _ _ e1)))
  have init : DInv lf lb n rds lane above s t H5 (15 ^ 6) (cntW rds lane above s t) := by
    refine ⟨[], [], [.ref p0], [⟨[], [], s⟩], s15 _ _ e1, .nil, e5, .one ⟨p0, a0, b0, rfl, s5 _ _ e4, s5 _ _ (s4 _ _ (s3 _ _ e2)), s5 _ _ (s4 _ _ e3), ⟨nelf na, ne (s4 _ _ (s3 _ _ e2))⟩, nelf (s2.free nb0), ne (s4 _ _ e3)⟩, fun it hit => ?_, fun w hw => (by cases hw), ?_, ?_⟩
    · rw [List.mem_singleton.mp hit]
      exact ⟨by simp, fun x hx => by rw [List.mem_singleton.mp hx]; exact sn, rfl, rfl⟩
    · simp [cI, seen, cntW]
    · rw [wt_one]
      exact Nat.le_refl _
  refine s_nx ?_
  dsimp only [List.set]
  refine s_seq ?_
  refine ⟨fun m σ H' => (∃ v7 v8 v9 v10, σ = [some (.ref l), some (.int s), some (.int t), some (.bl lane), some (.int above), some (.ref lf), some (.ref lb), v7, v8, v9, v10]) ∧ Same H H' ∧ m ≤ 15 ^ 6 ∧ DInv lf lb n rds lane above s t H' m (cntW rds lane above s t), ⟨15 ^ 6, ⟨_, _, _, _, rfl⟩, s05, Nat.le_refl _, init⟩, ?_⟩
  clear init e5 e4 e3 e2 e1 ne nelf s15 s05
  rintro m σ H6 ⟨⟨v7, v8, v9, v10, rfl⟩, s6, m6, fvs, fds, bvs, its, ef, af, eb, ab, oki, okf, ec, em⟩
  walk_at "rd"
  refine s_al ln0 fun pe H7 s7 e7 => ?_
  have s07 := Same.trans s6 s7
  refine s_neNil (n := 3) (.lst (SqL.of (s7 _ _ eb)) (it_rp (ab.imp fun _ _ z => z.same s7))) (.lst (SqL.of e7) .nil) it_pd ?_
  walk_at "rd"
  have n0f : H lf = none := nf
  rcases nil_or its with rfl | ⟨rest, it, rfl⟩
  · refine iteN (by simp) ?_
    have lf1 := af.len
    have ec' : fds.length = cntW rds lane above s t := by simpa using ec
    walk_at "rd"
    refine ⟨lf, fvs, rfl, SqL.of (s7 _ _ ef), by omega, fun v hv => ?_, fun lw ws nlw pw => ?_⟩
    · obtain ⟨w, _, a, rfl, _, ea⟩ := af.memL hv
      refine ⟨w.map fun (i : Nat) => (i : Int), a, rfl, ?_⟩
      rw [List.map_map]
      exact SqL.of (s7 _ _ ea)
    · obtain ⟨ways, aw, pw2⟩ := all2_perm pw af
      have sN : Same H7 (upd H7 lw (.lst ws)) := Same.new nlw
      refine q lw ws ways _ (s07.free nlw) (Same.trans s07 sN) upd_same (aw.imp fun v w z => ?_) (by rw [pw2.length_eq, ec']) fun w hw => okf w (pw2.mem_iff.mp hw)
      obtain ⟨a, rfl, _, ea⟩ := z
      exact ⟨a, rfl, sN _ _ (s7 _ _ ea)⟩
  · refine iteY (by simp) ?_
    obtain ⟨bvs', v, rfl, ab', hv⟩ := all2_concat (ab.imp fun _ _ z => z.same s7)
    obtain ⟨nd, ltn, ch, wl⟩ := oki it (by simp)
    have okr' : ∀ it ∈ rest, ItOk n rds lane above s it := fun x hx => oki x (List.mem_append_left _ hx)
    have lp : (it.pi ++ [it.u]).length ≤ 6 := Nat.le_trans (Bf.nodup_le n _ nd ltn) n6
    have lp' : it.pi.length ≤ 5 := by simpa using lp
    obtain ⟨w0, hw0⟩ : ∃ w0, w0 = 15 ^ (5 - it.pi.length) := ⟨_, rfl⟩
    have w15 : 15 ^ (6 - it.pi.length) = 15 * w0 := by
      rw [hw0, show 6 - it.pi.length = (5 - it.pi.length) + 1 by omega, Nat.pow_succ, Nat.mul_comm]
    rw [wt_app, wt_one, w15] at em
    rw [List.map_append, List.sum_append] at ec
    have wp : 0 < w0 := by rw [hw0]; exact Nat.pow_pos (by decide)
    -- the count of the one taken
    obtain ⟨cc, hcc⟩ : ∃ cc : Nat → Nat, cc = fun x => cnt (gr rds lane above rds.length) t (5 - it.pi.length) (x :: seen it) x := ⟨_, rfl⟩
    have cit : cI (gr rds lane above rds.length) t it = tms rds lane above t it.u (seen it) cc rds.length := by
      unfold cI
      rw [show 6 - it.pi.length = (5 - it.pi.length) + 1 by omega, hcc]
      rfl
    have ec2 : fds.length + (rest.map (cI (gr rds lane above rds.length) t)).sum + tms rds lane above t it.u (seen it) cc rds.length = cntW rds lane above s t := by
      rw [← cit]
      simp at ec
      omega
    refine ⟨fun σ' H' => ∃ m', m' < m ∧ (∃ v7 v8 v9 v10, σ' = [some (.ref l), some (.int s), some (.int t), some (.bl lane), some (.int above), some (.ref lf), some (.ref lb), v7, v8, v9, v10]) ∧ Same H H' ∧ m' ≤ 15 ^ 6 ∧ DInv lf lb n rds lane above s t H' m' (cntW rds lane above s t), fun _ _ z => z, ?_⟩
    have Sb7 := SqL.of (K := K) (s7 _ _ eb)
    walk_at "rd"
    refine s_pop (s7 _ _ eb) ?_
    obtain ⟨p, aw, bs, rfl, ep, ea, ebs, ⟨naf, nab⟩, nbf, nbb⟩ := ItV.upd (ys := bvs') (.inr rfl) (s7 _ _ eb) hv
    have s08 : Same H (L2.upd H7 lb (.lst bvs')) := s07.updN n0
    have ef8 : L2.upd H7 lb (.lst bvs') lf = some (.lst fvs) := by
      rw [upd_ne nfb]
      exact s7 _ _ ef
    have eb8 : L2.upd H7 lb (.lst bvs') lb = some (.lst bvs') := upd_same
    have af8 : All2 (IntsN lf lb (L2.upd H7 lb (.lst bvs'))) fvs fds := af.imp fun _ _ z => (z.same s7).upd (.inr rfl)
    have ab8 : All2 (ItV lf lb (L2.upd H7 lb (.lst bvs'))) bvs' rest := ab'.imp fun _ _ z => z.upd (.inr rfl) (s7 _ _ eb)
    generalize L2.upd H7 lb (.lst bvs') = H8 at s08 ef8 eb8 af8 ab8 ep ea ebs ⊢
    refine s_gt2 (SqT.of ep) rfl ?_
    dsimp only [List.set]
    have Sl8 := s08.seq Sl
    have lrv := alr.len
    walk_at "rd"
    refine for_enum (xs := rvs) (fun i σ H' => (∃ v9 v10, σ = [some (.ref l), some (.int s), some (.int t), some (.bl lane), some (.int above), some (.ref lf), some (.ref lb), some (.ref aw), some (.ref bs), v9, v10]) ∧ Same H H' ∧ H' aw = some (.lst (it.w.map fun (i : Nat) => V.int i)) ∧ H' bs = some (.lst ((it.pi ++ [it.u]).map fun (i : Nat) => V.int i)) ∧ DInv lf lb n rds lane above s t H' (wt rest + i * w0) (fds.length + (rest.map (cI (gr rds lane above rds.length) t)).sum + tms rds lane above t it.u (seen it) cc i))
      ⟨⟨_, _, rfl⟩, s08, ea, ebs, fvs, fds, bvs', rest, ef8, af8, eb8, ab8, okr', okf, by simp [tms, gr], by omega⟩ ?_ ?_ ?_
    · rintro i σ H9 _ ⟨_, s9, _⟩
      exact s9.seq Sl
    · rintro i x tt σ H9 HA hx ⟨⟨v9, v10, rfl⟩, s9, ea9, eb9, fvs9, fds9, bvs9, its9, ef9, af9, ebb9, ab9, oki9, okf9, ec9, em9⟩ sA et
      obtain ⟨r, er, p5, w1, w2, rfl, hp5, _, _⟩ := alr.get hx
      have il : i < rds.length := (List.getElem?_eq_some_iff.mp er).1
      obtain ⟨rs1, re1⟩ := okr r (List.mem_of_getElem? er)
      have s0A := Same.trans s9 sA
      have S5 := SqT.of (K := K) (s0A _ _ hp5)
      have eaA := sA _ _ ea9
      have ebA := sA _ _ eb9
      have efA := sA _ _ ef9
      have ebbA := sA _ _ ebb9
      have afA := af9.imp fun _ _ z => z.same sA
      have abA := ab9.imp fun _ _ z => z.same sA
      have Sbs := SqL.of (K := K) ebA
      have Saw := SqL.of (K := K) eaA
      have Slf := SqL.of (K := K) efA
      have Slb := SqL.of (K := K) ebbA
      have la : atI ((it.pi ++ [it.u]).map fun (i : Nat) => V.int i) (-1) = some (.int it.u) := by
        rw [List.map_append]
        exact atI_last _ _
      have epr : prAt rds i = (r.s, r.e) := by unfold prAt; rw [rdAt_of er]
      have eal : al rds lane above i = (decide (above < (i : Int)) && (lane || !r.la)) := by unfold al mayL; rw [rdAt_of er]
      have ts := tms_succ (rds := rds) (lane := lane) (above := above) (t := t) (u := it.u) (sn := seen it) (cc := cc) (i := i)
      rw [epr] at ts
      have iw : i * w0 ≤ 12 * w0 := Nat.mul_le_mul_right _ (by omega)
      refine s_gt2 (SqT.of et) rfl ?_
      dsimp only [List.set]
      have skip : (al rds lane above i = true → tm t it.u (seen it) cc (r.s, r.e) = 0) → (∃ v9' v10', [some (V.ref l), some (.int s), some (.int t), some (.bl lane), some (.int above), some (.ref lf), some (.ref lb), some (.ref aw), some (.ref bs), some (.int (i : Int)), some (.ref p5)] = [some (.ref l), some (.int s), some (.int t), some (.bl lane), some (.int above), some (.ref lf), some (.ref lb), some (.ref aw), some (.ref bs), v9', v10']) ∧ Same H HA ∧ HA aw = some (.lst (it.w.map fun (i : Nat) => V.int i)) ∧ HA bs = some (.lst ((it.pi ++ [it.u]).map fun (i : Nat) => V.int i)) ∧ DInv lf lb n rds lane above s t HA (wt rest + (i + 1) * w0) (fds.length + (rest.map (cI (gr rds lane above rds.length) t)).sum + tms rds lane above t it.u (seen it) cc (i + 1)) := fun z => by
        refine ⟨⟨_, _, rfl⟩, s0A, eaA, ebA, fvs9, fds9, bvs9, its9, efA, afA, ebbA, abA, oki9, okf9, ?_, by rw [Nat.succ_mul]; omega⟩
        rw [ts]
        by_cases ca : al rds lane above i = true
        · rw [if_pos ca, z ca]
          omega
        · rw [if_neg ca]
          omega
      have body : al rds lane above i = true → r.s = it.u → (tIfS (tTest (tOp (rEqA K) (tOp (rIx K) (tVar 10) (tC (.int 1))) (tVar 2))) (tDrop (tBM K "list" rAppend (tVar 5) (tCons (tOp (rAddA K) (tVar 7) (tLst (tCons (tVar 9) tNil))) tNil))) (tIfS (tTest (tOp (rIn K true) (tOp (rIx K) (tVar 10) (tC (.int 1))) (tVar 8))) (tDrop (tBM K "list" rAppend (tVar 6) (tCons (tTup (tCons (tOp (rAddA K) (tVar 7) (tLst (tCons (tVar 9) tNil))) (tCons (tOp (rAddA K) (tVar 8) (tLst (tCons (tOp (rIx K) (tVar 10) (tC (.int 1))) tNil))) tNil))) tNil))) tNext)) { nx := fun σ H' => (∃ v9 v10, σ = [some (.ref l), some (.int s), some (.int t), some (.bl lane), some (.int above), some (.ref lf), some (.ref lb), some (.ref aw), some (.ref bs), v9, v10]) ∧ Same H H' ∧ H' aw = some (.lst (it.w.map fun (i : Nat) => V.int i)) ∧ H' bs = some (.lst ((it.pi ++ [it.u]).map fun (i : Nat) => V.int i)) ∧ DInv lf lb n rds lane above s t H' (wt rest + (i + 1) * w0) (fds.length + (rest.map (cI (gr rds lane above rds.length) t)).sum + tms rds lane above t it.u (seen it) cc (i + 1)), rt := Q } [some (V.ref l), some (.int s), some (.int t), some (.bl lane), some (.int above), some (.ref lf), some (.ref lb), some (.ref aw), some (.ref bs), some (.int (i : Int)), some (.ref p5)] HA := by
        intro ca cu
        rw [if_pos ca] at ts
        have ln7 : (it.w.map fun (i : Nat) => V.int i).length + [V.int (i : Int)].length ≤ sizeLine := by
          rw [List.length_map]
          exact Nat.le_trans (show it.w.length + 1 ≤ 7 by omega) (by decide)
        have chn : Chain rds (al rds lane above) s (it.w ++ [i]) r.e := by
          have := Chain.snoc il ca ch (by rw [rdAt_of er]; exact cu)
          rwa [rdAt_of er] at this
        walk_at "rd"
        by_cases ct : r.e = t
        · have tv : tm t it.u (seen it) cc (r.s, r.e) = 1 := by simp [tm, cu, ct]
          refine iteY (by simp [ct]) ?_
          walk_at "rd"
          refine s_al ln1 fun p7 HB sB eB => ?_
          refine s_catL (sB.seq Saw) (SqL.of eB) ln7 fun p8 HC nC sC eC => ?_
          have sAC := Same.trans sB sC
          have lf9 : fvs9.length < sizeLine := by
            rw [af9.len]
            have h1 : tms rds lane above t it.u (seen it) cc (i + 1) ≤ tms rds lane above t it.u (seen it) cc rds.length := tms_mono il
            exact Nat.lt_of_le_of_lt (show fds9.length ≤ 64 by omega) (by decide)
          refine s_nil ?_
          refine s_app (sAC _ _ efA) lf9 ?_
          have eC' : HC p8 = some (.lst ((it.w ++ [i]).map fun (i : Nat) => V.int i)) := by rw [eC, List.map_append]; rfl
          have n8f : p8 ≠ lf := fun z => by
            subst z
            rw [sB _ _ efA] at nC
            cases nC
          have n8b : p8 ≠ lb := fun z => by
            subst z
            rw [sB _ _ ebbA] at nC
            cases nC
          refine ⟨⟨_, _, rfl⟩, (Same.trans s0A sAC).updN n0f, by rw [upd_ne naf]; exact sAC _ _ eaA, by rw [upd_ne nbf]; exact sAC _ _ ebA, fvs9 ++ [.ref p8], fds9 ++ [it.w ++ [i]], bvs9, its9, upd_same, (afA.imp fun _ _ z => (z.same sAC).upd (.inl rfl)).push (IntsN.upd (.inl rfl) ⟨p8, rfl, ⟨n8f, n8b⟩, eC'⟩), by rw [upd_ne (Ne.symm nfb)]; exact sAC _ _ ebbA, abA.imp fun _ _ z => (z.same sAC).upd (.inl rfl) (sAC _ _ efA), oki9, fun w hw => ?_, ?_, by rw [Nat.succ_mul]; omega⟩
          · rcases List.mem_append.mp hw with hw | hw
            · exact okf9 w hw
            · rw [List.mem_singleton.mp hw]
              refine ⟨ct ▸ chn, ?_⟩
              rw [List.length_append]
              simp only [List.length_singleton]
              omega
          · rw [ts, tv, List.length_append]
            simp only [List.length_singleton]
            omega
        · refine iteN (decide_eq_false (by omega)) ?_
          walk_at "rd"
          refine s_inL Sbs rfl flat_ints ?_
          rw [inV_ints]
          walk_at "rd"
          have msn : r.e ∈ seen it ↔ r.e ∈ it.pi ++ [it.u] := by
            unfold seen
            rw [List.mem_cons, List.mem_reverse, List.mem_append, List.mem_singleton]
            exact Or.comm
          by_cases cs : r.e ∈ it.pi ++ [it.u]
          · refine iteN (by simp only [if_true]; rw [decide_eq_true cs]; rfl) ?_
            walk_at "rd"
            exact skip fun _ => by simp [tm, cu, ct, msn.mpr cs]
          · have tv : tm t it.u (seen it) cc (r.s, r.e) = cc r.e := by
              have this : ¬ r.e ∈ seen it := fun z => cs (msn.mp z)
              unfold tm
              rw [if_pos cu, if_neg ct, if_neg this]
            refine iteY (by simp only [if_true]; rw [decide_eq_false cs]; rfl) ?_
            walk_at "rd"
            refine s_al ln1 fun p7 HB sB eB => ?_
            refine s_catL (sB.seq Saw) (SqL.of eB) ln7 fun p8 HC nC sC eC => ?_
            have sAC := Same.trans sB sC
            have S5C := sAC.tup S5
            walk_at "rd"
            refine s_al ln1 fun p9 HD sD eD => ?_
            have sAD := Same.trans sAC sD
            refine s_catL (sAD.seq Sbs) (SqL.of eD) (by rw [List.length_map]; exact Nat.le_trans (show (it.pi ++ [it.u]).length + 1 ≤ 7 by omega) (by decide)) fun p10 HE nE sE eE => ?_
            have sAE := Same.trans sAD sE
            walk_at "rd"
            refine s_al ln2 fun p11 HF sF eF => ?_
            have sAF := Same.trans sAE sF
            have lb9 : bvs9.length < sizeLine := by
              have h1 := ab9.len
              have h2 := len_wt (ps := its9)
              have h4 : sizeLine = 16777216 := sizeLine_eq
              have h5 : (15 : Nat) ^ 6 = 11390625 := rfl
              omega
            refine s_nil ?_
            refine s_app (sAF _ _ ebbA) lb9 ?_
            have sCF := Same.trans sD (Same.trans sE sF)
            have e8 : HF p8 = some (.lst ((it.w ++ [i]).map fun (i : Nat) => V.int i)) := by rw [sCF _ _ eC, List.map_append]; rfl
            have e10 : HF p10 = some (.lst ((it.pi ++ [it.u] ++ [r.e]).map fun (i : Nat) => V.int i)) := by rw [sF _ _ eE, List.map_append (l₂ := [r.e])]; rfl
            have fre : ∀ {x : Addr} {Hx : Hp}, Same HA Hx → Hx x = none → x ≠ lf ∧ x ≠ lb := fun {x Hx} sx hx => by
              constructor
              · intro z
                subst z
                rw [sx _ _ efA] at hx
                cases hx
              · intro z
                subst z
                rw [sx _ _ ebbA] at hx
                cases hx
            have n8 := fre sB nC
            have n10 := fre sAD nE
            have okn : ItOk n rds lane above s ⟨it.w ++ [i], it.pi ++ [it.u], r.e⟩ := by
              refine ⟨?_, fun x hx => ?_, chn, by simp [wl]⟩
              · rw [List.nodup_append]
                refine ⟨nd, by simp, fun a ha b hb => ?_⟩
                have hb' : b = r.e := List.mem_singleton.mp hb
                intro z
                exact cs (by rw [← hb', ← z]; exact ha)
              · rcases List.mem_append.mp hx with hx | hx
                · exact ltn x hx
                · rw [List.mem_singleton.mp hx]
                  exact re1
            have lpn : (it.pi ++ [it.u] ++ [r.e]).length ≤ 6 := Nat.le_trans (Bf.nodup_le n _ okn.1 okn.2.1) n6
            have cn : cI (gr rds lane above rds.length) t ⟨it.w ++ [i], it.pi ++ [it.u], r.e⟩ = cc r.e := by
              unfold cI seen
              rw [hcc]
              have z1 : 6 - (it.pi ++ [it.u]).length = 5 - it.pi.length := by
                rw [List.length_append]
                simp only [List.length_singleton]
                omega
              have z2 : (it.pi ++ [it.u]).reverse = it.u :: it.pi.reverse := by simp
              show cnt _ t (6 - (it.pi ++ [it.u]).length) (r.e :: (it.pi ++ [it.u]).reverse) r.e = _
              rw [z1, z2]
              rfl
            have wn : wt [(⟨it.w ++ [i], it.pi ++ [it.u], r.e⟩ : It)] = w0 := by
              rw [wt_one, hw0]
              congr 1
              show 6 - (it.pi ++ [it.u]).length = _
              rw [List.length_append]
              simp only [List.length_singleton]
              omega
            refine ⟨⟨_, _, rfl⟩, (Same.trans s0A sAF).updN n0, by rw [upd_ne nab]; exact sAF _ _ eaA, by rw [upd_ne nbb]; exact sAF _ _ ebA, fvs9, fds9, bvs9 ++ [.ref p11], its9 ++ [⟨it.w ++ [i], it.pi ++ [it.u], r.e⟩], by rw [upd_ne nfb]; exact sAF _ _ efA, afA.imp fun _ _ z => (z.same sAF).upd (.inr rfl), upd_same, (abA.imp fun _ _ z => (z.same sAF).upd (.inr rfl) (sAF _ _ ebbA)).push (ItV.upd (.inr rfl) (sAF _ _ ebbA) ⟨p11, p8, p10, rfl, eF, e8, e10, n8, n10⟩), fun x hx => ?_, okf9, ?_, ?_⟩
            · rcases List.mem_append.mp hx with hx | hx
              · exact oki9 x hx
              · rw [List.mem_singleton.mp hx]
                exact okn
            · rw [ts, tv, List.map_append, List.sum_append]
              simp only [List.map_cons, List.map_nil, List.sum_cons, List.sum_nil]
              rw [cn]
              omega
            · rw [wt_app, wn, Nat.succ_mul]
              omega
      walk_at "rd"
      by_cases c0 : above < (i : Int)
      · refine iteY (decide_eq_true c0) ?_
        walk_at "rd"
        refine s_ixSL Sbs la ?_
        walk_at "rd"
        by_cases c1 : (r.s : Int) = (it.u : Int)
        · rw [decide_eq_true c1]
          refine iteT ?_
          walk_at "rd"
          have cu : r.s = it.u := by omega
          cases lane with
          | true =>
            refine iteT ?_
            refine iteT ?_
            exact body (by rw [eal, decide_eq_true c0]; rfl) cu
          | false =>
            refine iteF ?_
            walk_at "rd"
            cases hla : r.la with
            | true =>
              refine iteF ?_
              refine s_next ?_
              exact skip fun z => by rw [eal, hla] at z; simp at z
            | false =>
              refine iteT ?_
              exact body (by rw [eal, decide_eq_true c0, hla]; rfl) cu
        · rw [decide_eq_false c1]
          refine iteF ?_
          refine iteF ?_
          refine s_next ?_
          exact skip fun _ => by
            have : ¬ r.s = it.u := by omega
            simp [tm, this]
      · refine iteN (decide_eq_false c0) ?_
        refine iteF ?_
        refine s_next ?_
        exact skip fun z => by rw [eal, decide_eq_false c0] at z; cases z
    · rintro σ H9 ⟨⟨v9, v10, rfl⟩, s9, ea9, eb9, D9⟩
      have iw : rvs.length * w0 ≤ 12 * w0 := Nat.mul_le_mul_right _ (by omega)
      rw [lrv] at D9 iw
      rw [ec2] at D9
      exact ⟨wt rest + rds.length * w0, by omega, ⟨_, _, _, _, rfl⟩, s9, by omega, D9⟩
end KC

end

section
set_option maxHeartbeats 1000000
namespace KC
open PySem L2 Fr Cnt
local macro_rules | `(tactic| walk_at "rd1") => `(tactic| first | ((with_reducible refine' s_set2 ?hs ?_); (case hs => ((simp only [List.set_cons_succ, List.set_cons_zero]) <;> exact rfl))) | ((with_reducible refine' s_set ?hs ?_); (case hs => ((simp only [List.set_cons_succ, List.set_cons_zero]) <;> exact rfl))) | (with_reducible refine s_seq ?_) | (with_reducible refine s_asg ?_) | (with_reducible refine s_if ?_) | (with_reducible refine s_asgG ?_) | (with_reducible refine s_gsub ?_) | (with_reducible refine s_sl ?_) | (with_reducible refine s_noPart ?_) | (with_reducible refine s_part ?_) | (with_reducible refine s_exI ?_) | (with_reducible refine s_ret ?_) | (with_reducible refine s_op ?_) | (with_reducible refine s_c ?_) | (with_reducible refine s_cons ?_) | (with_reducible refine s_nil ?_) | (with_reducible refine s_call ?_) | (with_reducible refine s_cb ?_) | (with_reducible refine s_test ?_) | (with_reducible refine s_b ?_) | (with_reducible refine s_and ?_) | (with_reducible refine s_or ?_) | (with_reducible refine s_not ?_) | (with_reducible refine s_andV ?_) | (with_reducible refine s_orV ?_) | (with_reducible refine s_notV ?_) | (with_reducible refine s_ifx ?_) | (with_reducible refine s_chain ?_) | (with_reducible refine s_un ?_) | (with_reducible refine s_tup ?_) | (with_reducible refine s_lst ?_) | (with_reducible refine s_drop ?_) | (with_reducible refine s_retN ?_) | (with_reducible refine s_next ?_) | (with_reducible refine s_break ?_) | (with_reducible refine s_cont ?_) | (with_reducible refine s_par ?_) | ((with_reducible refine' s_var ?hv ?_); (case hv => exact rfl)) | (with_reducible refine s_bl ?_) | (with_reducible refine s_rI0 ?_) | (with_reducible refine s_eqI ?_) | (with_reducible refine s_neI ?_) | (with_reducible refine s_eqB ?_) | (with_reducible refine s_rU ?_) | (with_reducible refine s_eqAI ?_) | (with_reducible refine s_neAI ?_) | (with_reducible refine s_eqAB ?_) | (with_reducible refine s_addI ?_) | ((with_reducible refine' s_ixST ?hq ?he ?_); (case hq => assumption); (case he => exact rfl)) | ((with_reducible refine' s_ixSL ?hq ?he ?_); (case hq => assumption); (case he => exact rfl)) | ((with_reducible refine' s_abs1 ?_)) | ((with_reducible refine' s_lenL ?hq ?_); (case hq => assumption)) | ((with_reducible refine' s_lenT ?hq ?_); (case hq => assumption)) | (with_reducible refine s_isN ?_) | (with_reducible refine s_for ?_) | (with_reducible refine s_iList ?_) | (with_reducible refine s_iTup ?_) | (with_reducible refine s_iR1 ?_) | (with_reducible refine s_iR2 ?_) | (with_reducible refine s_iEnum ?_) | (with_reducible refine s_iZip ?_) | ((with_reducible refine' s_jList ?hq ?_); (case hq => assumption)) | ((with_reducible refine' s_jTup ?hq ?_); (case hq => assumption)) | ((with_reducible refine' s_jEnum ?hq ?_); (case hq => assumption)) | ((with_reducible refine' s_jZip ?hq ?hr ?_); (case hq => assumption); (case hr => assumption)) | ((with_reducible refine' s_aug ?hv ?_); (case hv => exact rfl)) | (with_reducible refine s_augS ?_) | (with_reducible refine s_ipI ?_) | (with_reducible refine s_int1 ?_) | (with_reducible refine s_bm ?_) | (with_reducible refine s_bm0 ?_) | ((with_reducible refine' s_tyL ?hq ?_); (case hq => assumption)) | (with_reducible refine s_notN ?_) | (with_reducible refine s_min2 ?_) | (with_reducible refine s_max2 ?_) | (with_reducible refine s_nx ?_) | (with_reducible refine s_rt ?_) | (with_reducible refine s_bk ?_) | (with_reducible refine s_ct ?_) | (with_reducible refine iteT ?_) | (with_reducible refine iteNt ?_) | (with_reducible refine iteNf ?_) | ((with_reducible refine iteN ?hz ?_); (case hz => exact rfl)) | ((with_reducible refine iteY ?hz ?_); (case hz => exact rfl)) | (with_reducible refine iteF ?_) | ((with_reducible refine' s_ixT ?hq ?he ?_); (case hq => assumption); (case he => exact rfl)) | ((with_reducible refine' s_ixL ?hq ?he ?_); (case hq => assumption); (case he => exact rfl)) | ((with_reducible refine s_rI ?hc ?_); (case hc => first | assumption | exact mulOk (by assumption) (by assumption) | exact (show (0 : Int) < _ by decide) | omega)))
local macro_rules | `(tactic| walk_at "rd") => `(tactic| repeat walk_at "rd1")
variable {K : PySem.W.Frag} {c : Cs} {H : Hp} {vs : List V} {Q : VK} {E : XK}
theorem IntsV.same {H H' : Hp} {v : V} {w : List Nat} (s : Same H H') (h : IntsV H v w) : IntsV H' v w := by
  obtain ⟨a, rfl, e⟩ := h
  exact ⟨a, rfl, s _ _ e⟩
theorem WiV.mono {H H' : Hp} {v : V} {w : Wi} (t : Tups H H') (h : WiV H v w) : WiV H' v w := by
  obtain ⟨p, rfl, e⟩ := h
  exact ⟨p, rfl, t.1 _ _ e⟩
theorem gr_len {rds : List Road} {lane : Bool} {above : Int} {n : Nat} : (gr rds lane above n).length ≤ n := by
  unfold gr
  rw [List.length_map]
  refine Nat.le_trans (List.length_filter_le _ _) ?_
  simp
theorem gr_len1 {rds : List Road} {lane : Bool} {k n : Nat} : (gr rds lane (k : Int) n).length ≤ n - 1 := by
  unfold gr
  rw [List.length_map]
  cases n with
  | zero => simp
  | succ n =>
    rw [List.range_succ_eq_map, List.filter_cons, if_neg (by
      unfold al
      rw [decide_eq_false (by omega)]
      simp)]
    refine Nat.le_trans (List.length_filter_le _ _) ?_
    simp
theorem cntW_le {rds : List Road} {lane : Bool} {above : Int} {s t m : Nat} (h : (gr rds lane above rds.length).length ≤ m) (m12 : m ≤ 12) : cntW rds lane above s t ≤ F m := by
  have h1 := cnt_max (G := gr rds lane above rds.length) (t := t) (f := 6) (v := s) (by omega)
  have h2 := F_mono m m12 _ h
  exact Nat.le_trans h1 h2
theorem all2_memL {α β : Type} {R S : α → β → Prop} {as : List α} {bs : List β} (f : ∀ a b, a ∈ as → R a b → S a b) (h : All2 R as bs) : All2 S as bs := by
  induction h with
  | nil => exact .nil
  | cons r _ ih => exact .cons (f _ _ (List.mem_cons_self ..) r) (ih fun a b ha => f a b (List.mem_cons_of_mem _ ha))
theorem rd__law_rings (h : spRings K vs H Q E) : t__law_rings K (EN Q) (start ["_law_roads_here", "_law_lane", "_law_found", "_law_k", "_law_road"] vs) H := by
  obtain ⟨l, n, lane, rvs, rds, rfl, Sl, alr, l12, okr, n6, q⟩ := h
  show t__law_rings K (EN Q) [some (.ref l), some (.bl lane), none, none, none] H
  walk_at "rd"
  refine s_al ln0 fun l0 H1 s1 e1 => ?_
  have Sl1 := s1.seq Sl
  have lrv := alr.len
  walk_at "rd"
  refine for_enum (xs := rvs) (fun i σ H' => (∃ lf v3 v4, σ = [some (.ref l), some (.bl lane), some (.ref lf), v3, v4] ∧ ∃ fvs rings, H' lf = some (.lst fvs) ∧ All2 (IntsV H') fvs rings ∧ fvs.length ≤ 64 * i ∧ ∀ w ∈ rings, w.length ≤ 7 ∧ ∃ v, Chain rds (mayL rds lane) v w v) ∧ Same H H')
    ⟨⟨l0, _, _, rfl, [], [], e1, .nil, by simp, fun w hw => by cases hw⟩, s1⟩ ?_ ?_ ?_
  · rintro i σ H2 _ ⟨_, s2⟩
    exact s2.seq Sl
  · rintro i x t σ H2 H3 hx ⟨⟨lf, v3, v4, rfl, fvs, rings, ef, af, lf64, okf⟩, s2⟩ s3 et
    obtain ⟨r, er, p5, w1, w2, rfl, hp5, fr1, fr2⟩ := alr.get hx
    have il : i < rds.length := (List.getElem?_eq_some_iff.mp er).1
    obtain ⟨rs1, re1⟩ := okr r (List.mem_of_getElem? er)
    have s03 := Same.trans s2 s3
    have S5 := SqT.of (K := K) (s03 _ _ hp5)
    have Slf := SqL.of (K := K) (s3 _ _ ef)
    have af3 := af.imp fun _ _ z => z.same s3
    have eml : mayL rds lane i = (lane || !r.la) := by unfold mayL; rw [rdAt_of er]
    refine s_gt2 (SqT.of et) rfl ?_
    dsimp only [List.set]
    have skip : (∃ lf' v3 v4, [some (V.ref l), some (.bl lane), some (.ref lf), some (.int (i : Int)), some (.ref p5)] = [some (.ref l), some (.bl lane), some (.ref lf'), v3, v4] ∧ ∃ fvs rings, H3 lf' = some (.lst fvs) ∧ All2 (IntsV H3) fvs rings ∧ fvs.length ≤ 64 * (i + 1) ∧ ∀ w ∈ rings, w.length ≤ 7 ∧ ∃ v, Chain rds (mayL rds lane) v w v) ∧ Same H H3 := ⟨⟨lf, _, _, rfl, fvs, rings, s3 _ _ ef, af3, by omega, okf⟩, s03⟩
    have body : mayL rds lane i = true → (tAsg (tOp (rAddA K) (tVar 2) (tComp 1 [3] (iList K (tCall (spWays K) [] E0 (tCons (tVar 0) (tCons (tOp (rIx K) (tVar 4) (tC (.int 1))) (tCons (tOp (rIx K) (tVar 4) (tC (.int 0))) (tCons (tVar 1) (tCons (tVar 3) tNil))))))) (gName 0) tNoIf (tOp (rAddA K) (tLst (tCons (tVar 1) tNil)) (tVar 0)))) (gName 2)) { nx := fun σ H' => (∃ lf v3 v4, σ = [some (.ref l), some (.bl lane), some (.ref lf), v3, v4] ∧ ∃ fvs rings, H' lf = some (.lst fvs) ∧ All2 (IntsV H') fvs rings ∧ fvs.length ≤ 64 * (i + 1) ∧ ∀ w ∈ rings, w.length ≤ 7 ∧ ∃ v, Chain rds (mayL rds lane) v w v) ∧ Same H H', rt := Q } [some (V.ref l), some (.bl lane), some (.ref lf), some (.int (i : Int)), some (.ref p5)] H3 := by
      intro hm
      refine s_asg ?_
      refine s_op ?_
      refine s_var rfl ?_
      refine s_comp (σ' := [none, some (.int (i : Int))]) rfl ?_
      walk_at "rd"
      have c54 : cntW rds lane (i : Int) r.e r.s ≤ 54 := cntW_le (m := 11) (Nat.le_trans gr_len1 (by omega)) (by decide)
      refine ⟨l, n, r.e, r.s, lane, (i : Int), rvs, rds, rfl, s03.seq Sl, rds_mono s03.tups alr, l12, okr, n6, re1, by omega, fun lw ws ways H4 nw s4 ew aw lw' okw => ?_⟩
      have Sw := SqL.of (K := K) ew
      walk_at "rd"
      intro acc na
      have lws := aw.len
      refine compL (xs := ws) (fun j σ H' => (∃ v, σ = [v, some (.int (i : Int))]) ∧ Same H4 H' ∧ ∃ gs, H' acc = some (.lst gs) ∧ All2 (IntsV H') gs ((ways.take j).map fun w => i :: w) ∧ ∀ g ∈ gs, ∃ a, g = .ref a ∧ a ≠ acc) ⟨⟨_, rfl⟩, Same.new na, [], upd_same, .nil, fun g hg => by cases hg⟩ ?_ ?_ ?_
      · rintro j σ H5 _ ⟨_, s5, _⟩
        exact s5.seq Sw
      · rintro j x σ H5 hx ⟨⟨v, rfl⟩, s5, gs, eg, ag, ng⟩
        obtain ⟨w, ewj, a, rfl, ea⟩ := aw.get hx
        have jl : j < ways.length := (List.getElem?_eq_some_iff.mp ewj).1
        refine s_gn (σ' := [some (.ref a), some (.int (i : Int))]) rfl ?_
        refine blkN ?_
        walk_at "rd"
        refine s_al ln1 fun p7 H6 s6 e6 => ?_
        have w6 := (okw w (List.mem_of_getElem? ewj)).2
        walk_at "rd"
        refine s_catL (SqL.of e6) (SqL.of (s6 _ _ (s5 _ _ ea))) (by rw [List.length_map]; exact Nat.le_trans (show 1 + w.length ≤ 7 by omega) (by decide)) fun p8 H7 n8 s7 e7 => ?_
        have s57 := Same.trans s6 s7
        have eg7 := s57 _ _ eg
        have n8a : p8 ≠ acc := fun z => by
          subst z
          rw [s6 _ _ eg] at n8
          cases n8
        have lgs : gs.length ≤ 54 := by
          rw [ag.len, List.length_map, List.length_take]
          omega
        refine ⟨gs, eg7, Nat.lt_of_le_of_lt lgs (by decide), ⟨_, rfl⟩, (Same.trans s5 s57).updN na, gs ++ [.ref p8], upd_same, ?_, fun g hg => ?_⟩
        · rw [List.take_add_one, ewj, List.map_append]
          have keep : ∀ g w, g ∈ gs → IntsV H5 g w → IntsV (upd H7 acc (.lst (gs ++ [.ref p8]))) g w := fun g w hg z => by
            obtain ⟨a', ea', na'⟩ := ng g hg
            obtain ⟨a2, rfl, e2⟩ := z
            cases ea'
            exact ⟨_, rfl, by rw [upd_ne na']; exact s57 _ _ e2⟩
          refine All2.push (all2_memL keep ag) ⟨p8, rfl, ?_⟩
          rw [upd_ne n8a, e7]
          rfl
        · rcases List.mem_append.mp hg with hg | hg
          · exact ng g hg
          · rw [List.mem_singleton.mp hg]
            exact ⟨p8, rfl, n8a⟩
      · rintro σ H5 ⟨_, s5, gs, eg, ag, _⟩
        rw [lws, List.take_length] at ag
        have s35 := Same.trans s4 s5
        have lgs : gs.length ≤ 54 := by
          rw [ag.len, List.length_map]
          omega
        refine s_catL (s35.seq Slf) (SqL.of eg) (Nat.le_trans (show fvs.length + gs.length ≤ 1000 by omega) (by decide)) fun p9 H6 _ s6 e6 => ?_
        refine ⟨⟨p9, _, _, rfl, fvs ++ gs, rings ++ ways.map fun w => i :: w, e6, (af3.imp fun _ _ z => (z.same s35).same s6).append (ag.imp fun _ _ z => z.same s6), by rw [List.length_append]; omega, fun w hw => ?_⟩, Same.trans s03 (Same.trans s35 s6)⟩
        rcases List.mem_append.mp hw with hw | hw
        · exact okf w hw
        · obtain ⟨w', hw', rfl⟩ := List.mem_map.mp hw
          obtain ⟨ch, l6⟩ := okw w' hw'
          refine ⟨by simp; omega, r.s, il, hm, by rw [rdAt_of er], ?_⟩
          rw [rdAt_of er]
          exact ch.imp fun k hk => by
            unfold al at hk
            rw [Bool.and_eq_true] at hk
            exact hk.2
    walk_at "rd"
    cases lane with
    | true =>
      refine iteT ?_
      refine iteT ?_
      exact body (by rw [eml]; rfl)
    | false =>
      refine iteF ?_
      walk_at "rd"
      cases hla : r.la with
      | true =>
        refine iteF ?_
        refine s_next ?_
        exact skip
      | false =>
        refine iteT ?_
        exact body (by rw [eml, hla]; rfl)
  · rintro σ H2 ⟨⟨lf, v3, v4, rfl, fvs, rings, ef, af, _, okf⟩, s2⟩
    walk_at "rd"
    exact q lf fvs rings H2 s2 ef af okf
theorem rd__law_many (h : spMany K vs H Q E) : t__law_many K (EN Q) (start ["_law_roads_here", "_law_wishes_here"] vs) H := by
  obtain ⟨l, lw, n, rvs, wvs, rds, wis, rfl, Sl, alr, l12, okr, n6, Sw, aw, w3, okw, c64, q⟩ := h
  show t__law_many K (EN Q) [some (.ref l), some (.ref lw)] H
  refine s_ret ?_
  refine s_cb ?_
  refine s_cons ?_
  refine s_comp (σ' := [none, some (.ref l)]) rfl ?_
  walk_at "rd"
  intro acc na
  have lws := aw.len
  refine compL (xs := wvs) (fun i σ H' => (∃ v, σ = [v, some (.ref l)]) ∧ Same H H' ∧ H' acc = some (.lst (((wis.take i).map fun w => (cntW rds w.la (-1) w.s w.e : Int)).map V.int))) ⟨⟨_, rfl⟩, Same.new na, upd_same⟩ ?_ ?_ ?_
  · rintro i σ H1 _ ⟨_, s1, _⟩
    exact s1.seq Sw
  · rintro i x σ H1 hx ⟨⟨v, rfl⟩, s1, ea⟩
    obtain ⟨w, ew, p, rfl, hp⟩ := aw.get hx
    obtain ⟨ws1, we1, _⟩ := okw w (List.mem_of_getElem? ew)
    refine s_gn (σ' := [some (.ref p), some (.ref l)]) rfl ?_
    refine blkN ?_
    have Sp := SqT.of (K := K) (s1 _ _ hp)
    walk_at "rd"
    refine ⟨l, n, w.s, w.e, w.la, -1, rvs, rds, rfl, s1.seq Sl, rds_mono s1.tups alr, l12, okr, n6, ws1, c64 w (List.mem_of_getElem? ew), fun lw' ws ways H2 nw s2 e2 aw2 lw2 _ => ?_⟩
    have S2 := SqL.of (K := K) e2
    walk_at "rd"
    have s12 := Same.trans s1 s2
    refine ⟨_, s2 _ _ ea, ?_, ⟨_, rfl⟩, s12.updN na, ?_⟩
    · rw [List.length_map, List.length_map, List.length_take]
      exact Nat.lt_of_le_of_lt (show _ ≤ 3 by omega) (by decide)
    · rw [upd_same, List.take_add_one, ew, List.map_append, List.map_append, aw2.len, lw2]
      rfl
  · rintro σ H1 ⟨_, s1, ea⟩
    rw [lws, List.take_length] at ea
    exact ⟨acc, _, rfl, SqL.of ea, q H1 s1⟩
theorem place {m : Int} {n : Nat} (h : 0 < n) : ∃ j : Nat, m % (n : Int) = (j : Int) ∧ j < n := by
  have a0 := Int.emod_nonneg m (show (n : Int) ≠ 0 by omega)
  have a1 := Int.emod_lt_of_pos m (show (0 : Int) < (n : Int) by omega)
  obtain ⟨j, ej⟩ := Int.eq_ofNat_of_zero_le a0
  exact ⟨j, ej, by omega⟩
/-- another place -/
theorem place2 {m : Int} {n s : Nat} (h : 2 ≤ n) (hs : s < n) : ∃ j : Nat, ((s : Int) + 1 + m % ((n : Int) - 1)) % (n : Int) = (j : Int) ∧ j < n ∧ s ≠ j := by
  obtain ⟨j, ej, jl⟩ := place (m := (s : Int) + 1 + m % ((n : Int) - 1)) (n := n) (by omega)
  refine ⟨j, ej, jl, fun z => ?_⟩
  have b3 := Int.emod_nonneg m (show (n : Int) - 1 ≠ 0 by omega)
  have b4 := Int.emod_lt_of_pos m (show (0 : Int) < (n : Int) - 1 by omega)
  generalize m % ((n : Int) - 1) = w at *
  by_cases hw : (s : Int) + 1 + w < n
  · rw [Int.emod_eq_of_lt (by omega) hw] at ej
    omega
  · have e2 : ((s : Int) + 1 + w) % (n : Int) = (s : Int) + 1 + w - n := by
      rw [← Int.sub_emod_right]
      exact Int.emod_eq_of_lt (by omega) (by omega)
    omega
theorem rd__law_wishes (h : spWishes K vs H Q E) : t__law_wishes K (EN Q) (start ["_law_script", "_law_many_here", "_law_wishes_here", "_law_k", "_law_cell_here", "_law_start"] vs) H := by
  obtain ⟨a, ns, n, rfl, S, n2, n6, q⟩ := h
  show t__law_wishes K (EN Q) [some (.ref a), some (.int n), none, none, none, none] H
  walk_at "rd"
  refine s_alN ln0 fun lw H1 nw s1 e1 => ?_
  have S1 := s1.seq S
  walk_at "rd"
  refine ⟨_, _, _, rfl, S1, by decide, by decide, fun z => ?_⟩
  have d5 : CDivB z 5 := cd (by decide) (by decide)
  walk_at "rd"
  have z0 := Int.emod_nonneg (z.fdiv 5) (show (3 : Int) ≠ 0 by decide)
  have z1 := Int.emod_lt_of_pos (z.fdiv 5) (show (0 : Int) < 3 by decide)
  refine s_jR1 (by omega) ?_
  obtain ⟨m, em, m1, m3⟩ : ∃ m, (1 + z.fdiv 5 % 3).toNat = m ∧ 1 ≤ m ∧ m ≤ 3 := ⟨_, rfl, by omega, by omega⟩
  rw [em]
  refine for_range (fun i σ H' => (∃ v3 v4 v5, σ = [some (.ref a), some (.int n), some (.ref lw), v3, v4, v5]) ∧ Same H H' ∧ ∃ wvs wis, H' lw = some (.lst wvs) ∧ All2 (WiV H') wvs wis ∧ wis.length = i ∧ OkW n wis)
    ⟨⟨_, _, _, rfl⟩, s1, [], [], e1, .nil, rfl, fun w hw => by cases hw⟩ ?_ ?_
  · rintro i σ H2 hi ⟨⟨v3, v4, v5, rfl⟩, s2, wvs, wis, ew, aw, lwi, okw⟩
    have S2 := s2.seq S
    refine s_gn (σ' := [some (.ref a), some (.int n), some (.ref lw), some (.int (0 + i)), v4, v5]) rfl ?_
    dsimp only
    walk_at "rd"
    refine ⟨_, _, _, rfl, S2, by omega, by omega, fun y y0 y1 => ?_⟩
    have p1 : (0 : Int) < (n : Int) := by omega
    have p2 : (0 : Int) < (n : Int) - 1 := by omega
    have d6 : CDivB y 6 := cd (by decide) (by decide)
    have d36 : CDivB y 36 := cd (by decide) (by decide)
    have Sw := SqL.of (K := K) ew
    walk_at "rd"
    obtain ⟨s, es, sn⟩ := place (m := y) (n := n) (by omega)
    rw [es]
    obtain ⟨e, ee, en, ne⟩ := place2 (m := y.fdiv 6) n2 sn
    rw [ee]
    refine s_al ln3 fun p H3 s3 e3 => ?_
    have lwl := aw.len
    walk_at "rd"
    refine s_app (s3 _ _ ew) (Nat.lt_of_le_of_lt (show wvs.length ≤ 3 by omega) (by decide)) ?_
    have t4 : Tups H3 (upd H3 lw (.lst (wvs ++ [.ref p]))) := Tups.lst (s3 _ _ ew)
    walk_at "rd"
    refine ⟨⟨_, _, _, rfl⟩, (Same.trans s2 s3).updN nw, wvs ++ [.ref p], wis ++ [⟨s, e, decide (y.fdiv 36 % 2 = 1)⟩], upd_same, (aw.imp fun _ _ z => (z.mono s3.tups).mono t4).push ⟨p, rfl, t4.1 _ _ e3⟩, by simp [lwi], fun w hw => ?_⟩
    rcases List.mem_append.mp hw with hw | hw
    · exact okw w hw
    · rw [List.mem_singleton.mp hw]
      exact ⟨sn, en, ne⟩
  · rintro σ H2 ⟨⟨v3, v4, v5, rfl⟩, s2, wvs, wis, ew, aw, lwi, okw⟩
    walk_at "rd"
    exact q lw wvs wis H2 nw s2 ew aw (by omega) (by omega) okw
end KC

end

section
set_option maxHeartbeats 4000000
namespace KC
open PySem L2 Fr Cnt
local macro_rules | `(tactic| walk_at "rd1") => `(tactic| first | ((with_reducible refine' s_set2 ?hs ?_); (case hs => ((simp only [List.set_cons_succ, List.set_cons_zero]) <;> exact rfl))) | ((with_reducible refine' s_set ?hs ?_); (case hs => ((simp only [List.set_cons_succ, List.set_cons_zero]) <;> exact rfl))) | (with_reducible refine s_seq ?_) | (with_reducible refine s_asg ?_) | (with_reducible refine s_if ?_) | (with_reducible refine s_asgG ?_) | (with_reducible refine s_gsub ?_) | (with_reducible refine s_sl ?_) | (with_reducible refine s_noPart ?_) | (with_reducible refine s_part ?_) | (with_reducible refine s_exI ?_) | (with_reducible refine s_ret ?_) | (with_reducible refine s_op ?_) | (with_reducible refine s_c ?_) | (with_reducible refine s_cons ?_) | (with_reducible refine s_nil ?_) | (with_reducible refine s_call ?_) | (with_reducible refine s_cb ?_) | (with_reducible refine s_test ?_) | (with_reducible refine s_b ?_) | (with_reducible refine s_and ?_) | (with_reducible refine s_or ?_) | (with_reducible refine s_not ?_) | (with_reducible refine s_andV ?_) | (with_reducible refine s_orV ?_) | (with_reducible refine s_notV ?_) | (with_reducible refine s_ifx ?_) | (with_reducible refine s_chain ?_) | (with_reducible refine s_un ?_) | (with_reducible refine s_tup ?_) | (with_reducible refine s_lst ?_) | (with_reducible refine s_drop ?_) | (with_reducible refine s_retN ?_) | (with_reducible refine s_next ?_) | (with_reducible refine s_break ?_) | (with_reducible refine s_cont ?_) | (with_reducible refine s_par ?_) | ((with_reducible refine' s_var ?hv ?_); (case hv => exact rfl)) | (with_reducible refine s_bl ?_) | (with_reducible refine s_rI0 ?_) | (with_reducible refine s_eqI ?_) | (with_reducible refine s_neI ?_) | (with_reducible refine s_eqB ?_) | (with_reducible refine s_rU ?_) | (with_reducible refine s_eqAI ?_) | (with_reducible refine s_neAI ?_) | (with_reducible refine s_eqAB ?_) | (with_reducible refine s_addI ?_) | ((with_reducible refine' s_ixST ?hq ?he ?_); (case hq => assumption); (case he => exact rfl)) | ((with_reducible refine' s_ixSL ?hq ?he ?_); (case hq => assumption); (case he => exact rfl)) | ((with_reducible refine' s_abs1 ?_)) | ((with_reducible refine' s_lenL ?hq ?_); (case hq => assumption)) | ((with_reducible refine' s_lenT ?hq ?_); (case hq => assumption)) | (with_reducible refine s_isN ?_) | (with_reducible refine s_for ?_) | (with_reducible refine s_iList ?_) | (with_reducible refine s_iTup ?_) | (with_reducible refine s_iR1 ?_) | (with_reducible refine s_iR2 ?_) | (with_reducible refine s_iEnum ?_) | (with_reducible refine s_iZip ?_) | ((with_reducible refine' s_jList ?hq ?_); (case hq => assumption)) | ((with_reducible refine' s_jTup ?hq ?_); (case hq => assumption)) | ((with_reducible refine' s_jEnum ?hq ?_); (case hq => assumption)) | ((with_reducible refine' s_jZip ?hq ?hr ?_); (case hq => assumption); (case hr => assumption)) | ((with_reducible refine' s_aug ?hv ?_); (case hv => exact rfl)) | (with_reducible refine s_augS ?_) | (with_reducible refine s_ipI ?_) | (with_reducible refine s_int1 ?_) | (with_reducible refine s_bm ?_) | (with_reducible refine s_bm0 ?_) | ((with_reducible refine' s_tyL ?hq ?_); (case hq => assumption)) | (with_reducible refine s_notN ?_) | (with_reducible refine s_min2 ?_) | (with_reducible refine s_max2 ?_) | (with_reducible refine s_nx ?_) | (with_reducible refine s_rt ?_) | (with_reducible refine s_bk ?_) | (with_reducible refine s_ct ?_) | (with_reducible refine iteT ?_) | (with_reducible refine iteNt ?_) | (with_reducible refine iteNf ?_) | ((with_reducible refine iteN ?hz ?_); (case hz => exact rfl)) | ((with_reducible refine iteY ?hz ?_); (case hz => exact rfl)) | (with_reducible refine iteF ?_) | ((with_reducible refine' s_ixT ?hq ?he ?_); (case hq => assumption); (case he => exact rfl)) | ((with_reducible refine' s_ixL ?hq ?he ?_); (case hq => assumption); (case he => exact rfl)) | ((with_reducible refine s_rI ?hc ?_); (case hc => first | assumption | exact mulOk (by assumption) (by assumption) | exact (show (0 : Int) < _ by decide) | omega)))
local macro_rules | `(tactic| walk_at "rd") => `(tactic| repeat walk_at "rd1")
variable {K : PySem.W.Frag} {c : Cs} {H : Hp} {vs : List V} {Q : VK} {E : XK}
theorem rds_eq (rds : List Road) : (List.range rds.length).map (rdAt rds) = rds := by
  apply List.ext_getElem
  · simp
  · intro i h1 h2
    rw [List.getElem_map, List.getElem_range]
    exact rdAt_of (List.getElem?_eq_getElem h2)
def grW (rds : List Road) (lane : Bool) : List Pr := (rds.filter fun r => lane || !r.la).map fun r => (r.s, r.e)
theorem gr_W {rds : List Road} {lane : Bool} : gr rds lane (-1) rds.length = grW rds lane := by
  have h : grW rds lane = grW ((List.range rds.length).map (rdAt rds)) lane := by rw [rds_eq]
  rw [h]
  unfold gr grW
  rw [List.filter_map, List.map_map]
  have e : (List.range rds.length).filter (al rds lane (-1)) = (List.range rds.length).filter ((fun r : Road => lane || !r.la) ∘ rdAt rds) := by
    apply List.filter_congr
    intro i _
    unfold al mayL
    rw [decide_eq_true (by omega), Bool.true_and]
    rfl
  rw [e]
  rfl
theorem grW_app {a b : List Road} {lane : Bool} : grW (a ++ b) lane = grW a lane ++ grW b lane := by
  unfold grW
  rw [List.filter_append, List.map_append]
theorem grW_len {a : List Road} {lane : Bool} : (grW a lane).length ≤ a.length := by
  unfold grW
  rw [List.length_map]
  exact List.length_filter_le _ _
/-- one road more -/
theorem cnt_mid {a b : List Road} {r : Road} {lane : Bool} {s t : Nat} (h : (a ++ b).length ≤ 11) : cntW (a ++ b) lane (-1) s t ≤ cntW (a ++ [r] ++ b) lane (-1) s t ∧ cntW (a ++ [r] ++ b) lane (-1) s t ≤ cntW (a ++ b) lane (-1) s t + 54 := by
  unfold cntW
  rw [gr_W, gr_W, grW_app, grW_app, grW_app]
  have lg : (grW a lane ++ grW b lane).length ≤ 11 := by
    rw [← grW_app]
    exact Nat.le_trans grW_len h
  by_cases c : (lane || !r.la) = true
  · have e : grW [r] lane = [(r.s, r.e)] := by
      unfold grW
      rw [List.filter_cons, if_pos c]
      rfl
    rw [e]
    have p : (grW a lane ++ [(r.s, r.e)] ++ grW b lane).Perm ((r.s, r.e) :: (grW a lane ++ grW b lane)) := by
      rw [List.append_assoc]
      exact List.perm_middle
    rw [cnt_perm p]
    have h1 := cnt_more (G := grW a lane ++ grW b lane) (t := t) (r := (r.s, r.e)) (by omega) 6 [] s (by simp)
    have h2 := F_mono 11 (by decide) (out (grW a lane ++ grW b lane) []) (Nat.le_trans out_le lg)
    have h3 : F 11 = 54 := rfl
    exact ⟨cnt_grow _ _ _, by omega⟩
  · have e : grW [r] lane = [] := by
      unfold grW
      rw [List.filter_cons, if_neg c]
      rfl
    rw [e, List.append_nil]
    exact ⟨Nat.le_refl _, by omega⟩
theorem cnt_end {a : List Road} {r : Road} {lane : Bool} {s t : Nat} (h : a.length ≤ 11) : cntW a lane (-1) s t ≤ cntW (a ++ [r]) lane (-1) s t := by
  have := (cnt_mid (a := a) (b := []) (r := r) (lane := lane) (s := s) (t := t) (by simpa using h)).1
  simpa using this
theorem cnt_nil {lane : Bool} {s t : Nat} : cntW [] lane (-1) s t = 0 := rfl
theorem mem_le_sumZ {α : Type} {f : α → Int} (h0 : ∀ a, 0 ≤ f a) {l : List α} {a : α} (h : a ∈ l) : f a ≤ (l.map f).sum := by
  have nn : ∀ l : List α, 0 ≤ (l.map f).sum := fun l => by
    induction l with
    | nil => simp
    | cons b l ih =>
      rw [List.map_cons, List.sum_cons]
      have := h0 b
      omega
  induction l with
  | nil => cases h
  | cons b l ih =>
    rw [List.map_cons, List.sum_cons]
    rcases List.mem_cons.mp h with rfl | h
    · have := nn l
      omega
    · have := ih h
      have := h0 b
      omega
theorem rd__law_begun (h : spBegun K vs H Q E) : t__law_begun K (EN Q) (start ["_law_script", "_law_many_here", "_law_wishes_here", "_law_straight", "_law_roads_here", "_law_k", "_law_wish", "_law_over"] vs) H := by
  obtain ⟨a, lw, ns, n, wvs, wis, st, rfl, S, n2, n6, Sw, aw, w1, w3, okw, q⟩ := h
  show t__law_begun K (EN Q) [some (.ref a), some (.int n), some (.ref lw), some (.bl st), none, none, none, none] H
  walk_at "rd"
  refine s_alN ln0 fun l H1 nl s1 e1 => ?_
  have Sw1 := s1.seq Sw
  have lws := aw.len
  walk_at "rd"
  refine for_enum (xs := wvs) (fun i σ H' => (∃ v5 v6 v7, σ = [some (.ref a), some (.int n), some (.ref lw), some (.bl st), some (.ref l), v5, v6, v7]) ∧ Same H H' ∧ ∃ rvs rds, H' l = some (.lst rvs) ∧ All2 (RdV H') rvs rds ∧ rds.length ≤ 2 * i ∧ OkR n rds ∧ ∀ w ∈ wis.take i, 1 ≤ cntW rds w.la (-1) w.s w.e)
    ⟨⟨_, _, _, rfl⟩, s1, [], [], e1, .nil, by simp, (fun r hr => by cases hr), fun w hw => by simp at hw⟩ ?_ ?_ ?_
  · rintro i σ H2 _ ⟨_, s2, _⟩
    exact s2.seq Sw
  · rintro i x tt σ H2 H3 hx ⟨⟨v5, v6, v7, rfl⟩, s2, rvs, rds, el, alr, l2i, okr, okc⟩ s3 et
    obtain ⟨w, ew, p, rfl, hp⟩ := aw.get hx
    have il : i < wis.length := (List.getElem?_eq_some_iff.mp ew).1
    obtain ⟨ws1, we1, wne⟩ := okw w (List.mem_of_getElem? ew)
    have s03 := Same.trans s2 s3
    have S3 := s03.seq S
    have Sp := SqT.of (K := K) (s03 _ _ hp)
    have el3 := s3 _ _ el
    have alr3 := rds_mono s3.tups alr
    have p1 : (0 : Int) < (n : Int) := by omega
    have lrv := alr.len
    have tk : wis.take (i + 1) = wis.take i ++ [w] := by rw [List.take_add_one, ew]; rfl
    refine s_gt2 (SqT.of et) rfl ?_
    dsimp only [List.set]
    walk_at "rd"
    refine ⟨_, _, _, rfl, S3, by omega, by omega, fun z z0 z1 => ?_⟩
    walk_at "rd"
    obtain ⟨o, eo, ol⟩ := place (m := z) (n := n) (by omega)
    rw [eo]
    walk_at "rd"
    refine s_al ln1 fun lw1 H4 s4 e4 => ?_
    have s04 := Same.trans s03 s4
    have el4 := s4 _ _ el3
    have alr4 := rds_mono s4.tups alr3
    have c9 : ∀ la s t, cntW rds la (-1) s t ≤ 9 := fun la s t => cntW_le (m := 6) (Nat.le_trans gr_len (by omega)) (by decide)
    walk_at "rd"
    refine ⟨l, lw1, n, rvs, [.ref p], rds, [w], rfl, SqL.of el4, alr4, by omega, okr, n6, SqL.of e4, .one ⟨p, rfl, s04 _ _ hp⟩, by simp, (fun w' hw' => by rw [List.mem_singleton.mp hw']; exact ⟨ws1, we1, wne⟩), (fun w' hw' => by have := c9 w'.la w'.s w'.e; omega), fun H5 s5 => ?_⟩
    have s05 := Same.trans s04 s5
    have el5 := s5 _ _ el4
    have alr5 := rds_mono s5.tups alr4
    have Sp5 := SqT.of (K := K) (s05 _ _ hp)
    have Sl5 := SqL.of (K := K) el5
    have e0 : ([w].map fun w => (cntW rds w.la (-1) w.s w.e : Int)).sum = (cntW rds w.la (-1) w.s w.e : Int) := by simp
    rw [e0]
    walk_at "rd"
    by_cases c0 : cntW rds w.la (-1) w.s w.e = 0
    · refine iteY (by rw [c0]; rfl) ?_
      have lnr : rvs.length < sizeLine := Nat.lt_of_le_of_lt (show rvs.length ≤ 6 by omega) (by decide)
      -- a straight road
      have straight : (tDrop (tBM K "list" rAppend (tVar 4) (tCons (tTup (tCons (tOp (rIx K) (tVar 6) (tC (.int 0))) (tCons (tOp (rIx K) (tVar 6) (tC (.int 1))) (tCons (tC (.int 1)) (tCons (tVar 5) (tCons (tC (.bl false)) tNil)))))) tNil))) { nx := fun σ H' => (∃ v5 v6 v7, σ = [some (.ref a), some (.int n), some (.ref lw), some (.bl st), some (.ref l), v5, v6, v7]) ∧ Same H H' ∧ ∃ rvs rds, H' l = some (.lst rvs) ∧ All2 (RdV H') rvs rds ∧ rds.length ≤ 2 * (i + 1) ∧ OkR n rds ∧ ∀ w ∈ wis.take (i + 1), 1 ≤ cntW rds w.la (-1) w.s w.e, rt := Q } [some (V.ref a), some (.int n), some (.ref lw), some (.bl st), some (.ref l), some (.int (i : Int)), some (.ref p), some (.int (o : Int))] H5 := by
        walk_at "rd"
        refine s_al ln5 fun q3 H8 s8 e8 => ?_
        have s58 := s8
        refine s_nil ?_
        refine s_app (s58 _ _ el5) lnr ?_
        have t9 : Tups H8 (upd H8 l (.lst (rvs ++ [.ref q3]))) := Tups.lst (s58 _ _ el5)
        refine ⟨⟨_, _, _, rfl⟩, (Same.trans s05 s58).updN nl, rvs ++ [.ref q3], rds ++ [⟨w.s, w.e, 1, i, false⟩], upd_same, ((rds_mono s58.tups alr5).push ⟨q3, _, _, rfl, e8, rfl, rfl⟩).imp fun _ _ z => z.mono t9, by simp; omega, fun r hr => ?_, fun w' hw' => ?_⟩
        · rcases List.mem_append.mp hr with hr | hr
          · exact okr r hr
          · rw [List.mem_singleton.mp hr]
            exact ⟨ws1, we1⟩
        · rw [tk] at hw'
          rcases List.mem_append.mp hw' with hw' | hw'
          · exact Nat.le_trans (okc w' hw') (cnt_end (by omega))
          · rw [List.mem_singleton.mp hw']
            unfold cntW
            rw [gr_W]
            refine cnt_one ?_
            rw [grW_app]
            exact List.mem_append_right _ (by simp [grW])
      cases st with
      | true =>
        refine s_if ?_
        refine s_or ?_
        refine s_b ?_
        refine s_var rfl ?_
        refine s_bl ?_
        refine iteT ?_
        refine iteT ?_
        exact straight
      | false =>
        walk_at "rd"
        by_cases c1 : (o : Int) = (w.s : Int)
        · rw [decide_eq_true c1]
          refine iteT ?_
          refine iteT ?_
          exact straight
        · rw [decide_eq_false c1]
          refine iteF ?_
          walk_at "rd"
          by_cases c2 : (o : Int) = (w.e : Int)
          · rw [decide_eq_true c2]
            refine iteT ?_
            exact straight
          · rw [decide_eq_false c2]
            refine iteF ?_
            walk_at "rd"
            refine s_al ln5 fun q3 H8 s8 e8 => ?_
            have s58 := s8
            refine s_nil ?_
            refine s_app (s58 _ _ el5) lnr ?_
            have t9 : Tups H8 (upd H8 l (.lst (rvs ++ [.ref q3]))) := Tups.lst (s58 _ _ el5)
            have s09 : Same H (upd H8 l (.lst (rvs ++ [.ref q3]))) := (Same.trans s05 s58).updN nl
            have el9 : upd H8 l (.lst (rvs ++ [.ref q3])) l = some (.lst (rvs ++ [.ref q3])) := upd_same
            have al9 : All2 (RdV (upd H8 l (.lst (rvs ++ [.ref q3])))) (rvs ++ [.ref q3]) (rds ++ [⟨w.s, o, i, 2, false⟩]) := ((rds_mono s58.tups alr5).push ⟨q3, _, _, rfl, e8, rfl, rfl⟩).imp fun _ _ z => z.mono t9
            generalize upd H8 l (.lst (rvs ++ [.ref q3])) = H9 at s09 el9 al9 ⊢
            have Sp9 := SqT.of (K := K) (s09 _ _ hp)
            have Sl9 := SqL.of (K := K) el9
            walk_at "rd"
            refine s_al ln5 fun r3 G3 u3 f3 => ?_
            have u03 := u3
            refine s_nil ?_
            refine s_app (u03 _ _ el9) (Nat.lt_of_le_of_lt (show (rvs ++ [V.ref q3]).length ≤ 7 by rw [List.length_append]; simp only [List.length_singleton]; omega) (by decide)) ?_
            have t4 : Tups G3 (upd G3 l (.lst (rvs ++ [.ref q3] ++ [.ref r3]))) := Tups.lst (u03 _ _ el9)
            refine ⟨⟨_, _, _, rfl⟩, (Same.trans s09 u03).updN nl, rvs ++ [.ref q3] ++ [.ref r3], rds ++ [⟨w.s, o, i, 2, false⟩] ++ [⟨o, w.e, 0, 1, false⟩], upd_same, ((rds_mono u03.tups al9).push ⟨r3, _, _, rfl, f3, rfl, rfl⟩).imp fun _ _ z => z.mono t4, by simp; omega, fun r hr => ?_, fun w' hw' => ?_⟩
            · rcases List.mem_append.mp hr with hr | hr
              · rcases List.mem_append.mp hr with hr | hr
                · exact okr r hr
                · rw [List.mem_singleton.mp hr]
                  exact ⟨ws1, ol⟩
              · rw [List.mem_singleton.mp hr]
                exact ⟨ol, we1⟩
            · rw [tk] at hw'
              rcases List.mem_append.mp hw' with hw' | hw'
              · exact Nat.le_trans (okc w' hw') (Nat.le_trans (cnt_end (by omega)) (cnt_end (by rw [List.length_append]; simp only [List.length_singleton]; omega)))
              · rw [List.mem_singleton.mp hw']
                unfold cntW
                rw [gr_W]
                refine cnt_two (u := o) (f := 4) ?_ ?_ ?_ (by omega)
                · rw [grW_app, grW_app]
                  exact List.mem_append_left _ (List.mem_append_right _ (by simp [grW]))
                · rw [grW_app]
                  exact List.mem_append_right _ (by simp [grW])
                · simp
                  omega
    · refine iteN (decide_eq_false (by omega)) ?_
      walk_at "rd"
      refine ⟨⟨_, _, _, rfl⟩, s05, rvs, rds, el5, alr5, by omega, okr, fun w' hw' => ?_⟩
      rw [tk] at hw'
      rcases List.mem_append.mp hw' with hw' | hw'
      · exact okc w' hw'
      · rw [List.mem_singleton.mp hw']
        omega
  · rintro σ H2 ⟨⟨v5, v6, v7, rfl⟩, s2, rvs, rds, el, alr, l2i, okr, okc⟩
    rw [lws, List.take_length] at okc
    walk_at "rd"
    refine q l rvs rds H2 s2 el alr ?_ (by omega) okr okc
    refine Nat.one_le_iff_ne_zero.mpr fun z => ?_
    have e : rds = [] := List.eq_nil_of_length_eq_zero z
    obtain ⟨w, hw⟩ : ∃ w, w ∈ wis := ⟨wis[0], List.getElem_mem (by omega)⟩
    have := okc w hw
    rw [e, cnt_nil] at this
    omega
/-- the roads' bases and slopes, laid last -/
abbrev tFin (K : PySem.W.Frag) : TS :=
  (tSeq (tAsg (tOp (rIx K) (tLst (tCons (tC (.int 6)) (tCons (tOp (rI CPow fun i j => .int (i ^ j.toNat)) (tC (.int 10)) (tC (.int 6))) (tCons (tOp (rI CPow fun i j => .int (i ^ j.toNat)) (tC (.int 10)) (tC (.int 18))) tNil)))) (tOp (rI (fun _ j => 0 < j) fun i j => .int (i % j)) (tCall (spMixed K) [] E0 (tCons (tVar 0) (tCons (tC (.int 1)) tNil))) (tC (.int 3)))) (gName 5))
    (tSeq (tAsg (tLst tNil) (gName 6))
    (tSeq (tFor (iEnum K (tCons (tVar 3) tNil)) (gTup K 2 (gCons (gName 4) (gCons (gName 12) gNil))) (tSeq (tAsg (tOp (rI CMulX fun i j => .int (i * j)) (tOp (rI (fun _ j => 0 < j) fun i j => .int (i % j)) (tOp (rI CMulX fun i j => .int (i * j)) (tOp (rI CDivB fun i j => .int (i.fdiv j)) (tCall (spCell K) [] E0 (tCons (tVar 0) (tCons (tOp (rAddA K) (tC (.int 4)) (tVar 4)) tNil))) (tC (.int 3))) (tC (.int 1236067977499789805))) (tVar 5)) (tCB rInt1 (tCons (tOp (rI0 fun i j => .bl (decide (j < i))) (tOp (rI (fun _ j => 0 < j) fun i j => .int (i % j)) (tCall (spMixed K) [] E0 (tCons (tVar 0) (tCons (tOp (rAddA K) (tC (.int 4)) (tVar 4)) tNil))) (tC (.int 3))) (tC (.int 0))) tNil))) (gName 13))
    (tSeq (tAsg (tOp (rI CMulX fun i j => .int (i * j)) (tOp (rI (fun _ j => 0 < j) fun i j => .int (i % j)) (tOp (rI CMulX fun i j => .int (i * j)) (tOp (rI CDivB fun i j => .int (i.fdiv j)) (tCall (spCell K) [] E0 (tCons (tVar 0) (tCons (tOp (rI0 fun i j => .int (i - j)) (tC (.int 18)) (tVar 4)) tNil))) (tC (.int 3))) (tC (.int 618033988749894849))) (tVar 5)) (tCB rInt1 (tCons (tOp (rI0 fun i j => .bl (decide (j < i))) (tOp (rI (fun _ j => 0 < j) fun i j => .int (i % j)) (tOp (rI CDivB fun i j => .int (i.fdiv j)) (tCall (spMixed K) [] E0 (tCons (tVar 0) (tCons (tOp (rI0 fun i j => .int (i - j)) (tC (.int 18)) (tVar 4)) tNil))) (tC (.int 9))) (tC (.int 3))) (tC (.int 0))) tNil))) (gName 14))
    (tDrop (tBM K "list" rAppend (tVar 6) (tCons (tOp (rAddA K) (tSl (rSlT K) (tVar 12) tNoPart (tPart (tC (.int 2)))) (tTup (tCons (tVar 13) (tCons (tVar 14) (tCons (tOp (rIx K) (tVar 12) (tC (.int 4))) tNil))))) tNil))))))
    (tRet (tVar 6)))))
theorem cnt_same {rds rds' : List Road} {lane : Bool} {above : Int} {s t : Nat} (h : All2 (fun r r' : Road => r.s = r'.s ∧ r.e = r'.e ∧ r.la = r'.la) rds rds') : cntW rds lane above s t = cntW rds' lane above s t := by
  have l := h.len
  have at_ : ∀ i, (rdAt rds i).s = (rdAt rds' i).s ∧ (rdAt rds i).e = (rdAt rds' i).e ∧ (rdAt rds i).la = (rdAt rds' i).la := fun i => by
    by_cases c : i < rds.length
    · obtain ⟨r', e', q⟩ := h.get (List.getElem?_eq_getElem c)
      rw [rdAt_of (List.getElem?_eq_getElem c), rdAt_of e']
      exact q
    · unfold rdAt
      rw [List.getD_eq_getElem?_getD, List.getD_eq_getElem?_getD, List.getElem?_eq_none (by omega), List.getElem?_eq_none (by omega)]
      exact ⟨rfl, rfl, rfl⟩
  unfold cntW gr
  rw [l]
  have e1 : al rds lane above = al rds' lane above := by
    funext i
    unfold al mayL
    rw [(at_ i).2.2]
  have e2 : prAt rds = prAt rds' := by
    funext i
    unfold prAt
    rw [(at_ i).1, (at_ i).2.1]
  rw [e1, e2]
theorem baseBd {x m : Int} {b : Bool} (hm : 0 < m) (h : m ≤ 10 ^ 18) : 0 ≤ x % m * (if b = true then 1 else 0) ∧ x % m * (if b = true then 1 else 0) ≤ 2 ^ 62 := by
  have a0 := Int.emod_nonneg x (show m ≠ 0 by omega)
  have a1 := Int.emod_lt_of_pos x hm
  split <;> omega
theorem rd_fin {a lw l : Addr} {ns : List Int} {n : Nat} {wis : List Wi} {rvs : List V} {rds : List Road} {H H4 : Hp} {v4 v5 v6 v7 v8 v9 : Option V} (S : SqL K H a (ns.map V.int)) (n2 : 2 ≤ n) (n6 : n ≤ 6) (s4 : Same H H4) (el : H4 l = some (.lst rvs)) (alr : All2 (RdV H4) rvs rds) (g1 : 1 ≤ rds.length) (g2 : rds.length ≤ 12) (okr : OkR n rds) (okc : ∀ w ∈ wis, 1 ≤ cntW rds w.la (-1) w.s w.e ∧ cntW rds w.la (-1) w.s w.e ≤ 9)
    (q : ∀ l rvs rds H', Same H H' → H' l = some (.lst rvs) → All2 (RdV H') rvs rds → 1 ≤ rds.length → rds.length ≤ 12 → OkR n rds → OkB rds → (∀ w ∈ wis, 1 ≤ cntW rds w.la (-1) w.s w.e ∧ cntW rds w.la (-1) w.s w.e ≤ 9) → Q (.ref l) H') :
    tFin K (EN Q) [some (.ref a), some (.int n), some (.ref lw), some (.ref l), v4, none, none, v5, v6, v7, v8, v9, none, none, none] H4 := by
  have S4 := s4.seq S
  have c6 : CPow 10 6 := ⟨by decide, by decide, by decide⟩
  have c18 : CPow 10 18 := ⟨by decide, by decide, by decide⟩
  have lrv := alr.len
  walk_at "rd"
  refine s_al ln3 fun lp H1 s1 e1 => ?_
  have S1 := s1.seq S4
  walk_at "rd"
  refine ⟨_, _, _, rfl, S1, by decide, by decide, fun z z0 z1 => ?_⟩
  walk_at "rd"
  have pick : ∃ far : Int, atI ([.int 6, .int (10 ^ (6 : Int).toNat), .int (10 ^ (18 : Int).toNat)] : List V) (z % 3) = some (.int far) ∧ 0 < far ∧ far ≤ 10 ^ 18 := by
    have a0 := Int.emod_nonneg z (show (3 : Int) ≠ 0 by decide)
    have a1 := Int.emod_lt_of_pos z (show (0 : Int) < 3 by decide)
    generalize z % 3 = j at a0 a1
    rcases (by omega : j = 0 ∨ j = 1 ∨ j = 2) with rfl | rfl | rfl
    · exact ⟨_, rfl, by decide, by decide⟩
    · exact ⟨_, rfl, by decide, by decide⟩
    · exact ⟨_, rfl, by decide, by decide⟩
  obtain ⟨far, hf, far0, far1⟩ := pick
  refine s_ixSL (SqL.of e1) hf ?_
  walk_at "rd"
  refine s_alN ln0 fun lf H2 nl s2 e2 => ?_
  have s42 := Same.trans s1 s2
  have nH : H lf = none := s4.free (s1.free nl)
  have Sl2 := SqL.of (K := K) (s42 _ _ el)
  have n4 : H4 lf = none := s1.free nl
  walk_at "rd"
  refine for_enum (xs := rvs) (fun i σ H' => (∃ u4 u12 u13 u14, σ = [some (.ref a), some (.int n), some (.ref lw), some (.ref l), u4, some (.int far), some (.ref lf), v5, v6, v7, v8, v9, u12, u13, u14]) ∧ Same H4 H' ∧ ∃ fvs fds, H' lf = some (.lst fvs) ∧ All2 (RdV H') fvs fds ∧ All2 (fun r r' : Road => r.s = r'.s ∧ r.e = r'.e ∧ r.la = r'.la) (rds.take i) fds ∧ OkB fds)
    ⟨⟨_, _, _, _, rfl⟩, s42, [], [], e2, .nil, .nil, fun r hr => by cases hr⟩ ?_ ?_ ?_
  · rintro i σ H5 _ ⟨_, s5, _⟩
    exact s5.seq (SqL.of el)
  · rintro i x tt σ H5 H6 hx ⟨⟨u4, u12, u13, u14, rfl⟩, s5, fvs, fds, ef, af, ae, ob⟩ s6 et
    obtain ⟨r, er, p, w1, w2, rfl, hp, _, _⟩ := alr.get hx
    have il : i < rds.length := (List.getElem?_eq_some_iff.mp er).1
    have s46 := Same.trans s5 s6
    have S6 := s46.seq S4
    have hp6 := s46 _ _ hp
    have Sf6 := SqL.of (K := K) (s6 _ _ ef)
    have Sp6 := SqT.of (K := K) hp6
    have lae := ae.len
    have laf := af.len
    rw [List.length_take] at lae
    refine s_gt2 (SqT.of et) rfl ?_
    dsimp only [List.set]
    walk_at "rd"
    refine ⟨_, _, _, rfl, S6, by omega, by omega, fun c1 => ?_⟩
    have d1 : CDivB c1 3 := cd (by decide) (by decide)
    have m1 : CMulX (c1.fdiv 3) 1236067977499789805 := cm (by decide)
    walk_at "rd"
    refine ⟨_, _, _, rfl, S6, by omega, by omega, fun y1 _ _ => ?_⟩
    walk_at "rd"
    have m2 : ∀ (z : Int) (b : Bool), CMulX z (if b = true then 1 else 0) := fun z b => cm (by cases b <;> decide)
    refine s_rI (m2 _ _) ?_
    walk_at "rd"
    refine ⟨_, _, _, rfl, S6, by omega, by omega, fun c2 => ?_⟩
    have d2 : CDivB c2 3 := cd (by decide) (by decide)
    have m3 : CMulX (c2.fdiv 3) 618033988749894849 := cm (by decide)
    walk_at "rd"
    refine ⟨_, _, _, rfl, S6, by omega, by omega, fun y2 _ _ => ?_⟩
    have d3 : CDivB y2 9 := cd (by decide) (by decide)
    walk_at "rd"
    refine s_rI (m2 _ _) ?_
    walk_at "rd"
    refine s_slT Sp6 (by show ¬ ((0 : Nat) = 0 ∧ (2 : Nat) = 5); decide) fun pt H7 _ s7 e7 => ?_
    have Sp7 := s7.tup Sp6
    walk_at "rd"
    refine s_al ln3 fun p3 H8 s8 e8 => ?_
    refine s_catT (s8.tup (SqT.of e7)) (SqT.of e8) (by show [V.int r.s, V.int r.e] ≠ []; simp) (by simp) (by show 2 + 3 ≤ sizeLine; decide) fun p5 H9 _ s9 e9 => ?_
    have s69 := Same.trans s7 (Same.trans s8 s9)
    have s59 := Same.trans s6 s69
    refine s_nil ?_
    refine s_app (s59 _ _ ef) (Nat.lt_of_le_of_lt (show fvs.length ≤ 12 by omega) (by decide)) ?_
    have t9 : Tups H9 (upd H9 lf (.lst (fvs ++ [.ref p5]))) := Tups.lst (s59 _ _ ef)
    have bd1 := baseBd (x := c1.fdiv 3 * 1236067977499789805) (b := decide (0 < y1 % 3)) far0 far1
    have bd2 := baseBd (x := c2.fdiv 3 * 618033988749894849) (b := decide (0 < y2.fdiv 9 % 3)) far0 far1
    obtain ⟨rn, ern⟩ : ∃ rn : Road, rn = ⟨r.s, r.e, c1.fdiv 3 * 1236067977499789805 % far * (if decide (0 < y1 % 3) = true then 1 else 0), c2.fdiv 3 * 618033988749894849 % far * (if decide (0 < y2.fdiv 9 % 3) = true then 1 else 0), r.la⟩ := ⟨_, rfl⟩
    have vn : RdV H9 (.ref p5) rn := by
      rw [ern]
      exact ⟨p5, _, _, rfl, e9, rfl, rfl⟩
    refine ⟨⟨_, _, _, _, rfl⟩, (Same.trans s5 s59).updN n4, fvs ++ [.ref p5], fds ++ [rn], upd_same, ((rds_mono s59.tups af).push vn).imp fun _ _ z => z.mono t9, ?_, fun r' hr' => ?_⟩
    · rw [List.take_add_one, er]
      refine ae.push ?_
      rw [ern]
      exact ⟨rfl, rfl, rfl⟩
    · rcases List.mem_append.mp hr' with h | h
      · exact ob r' h
      · rw [List.mem_singleton.mp h, ern]
        exact ⟨bd1.1, bd1.2, bd2.1, bd2.2⟩
  · rintro σ H5 ⟨⟨u4, u12, u13, u14, rfl⟩, s5, fvs, fds, ef, af, ae, ob⟩
    rw [lrv, List.take_length] at ae
    have lae := ae.len
    walk_at "rd"
    refine q lf fvs fds H5 (Same.trans s4 s5) ef af (by omega) (by omega) (fun r' hr' => ?_) ob fun w hw => ?_
    · obtain ⟨i, hi⟩ := List.mem_iff_getElem?.mp hr'
      obtain ⟨r, er, q1, q2, _⟩ := ae.getR hi
      have := okr r (List.mem_of_getElem? er)
      rw [← q1, ← q2]
      exact this
    · rw [← cnt_same ae]
      exact okc w hw
theorem rd__law_roads (h : spRoads K vs H Q E) : t__law_roads K (EN Q) (start ["_law_script", "_law_many_here", "_law_wishes_here", "_law_roads_here", "_law_k", "_law_far", "_law_found", "_law_cell_here", "_law_start", "_law_end", "_law_at", "_law_more", "_law_road", "_law_base", "_law_slope"] vs) H := by
  obtain ⟨a, lw, ns, n, wvs, wis, rfl, S, n2, n6, Sw, aw, w1, w3, okw, q⟩ := h
  show t__law_roads K (EN Q) [some (.ref a), some (.int n), some (.ref lw), none, none, none, none, none, none, none, none, none, none, none, none] H
  have nine : ∀ {rds : List Road}, rds.length ≤ 6 → ∀ la s t, cntW rds la (-1) s t ≤ 9 := fun {rds} h la s t => cntW_le (m := 6) (Nat.le_trans gr_len h) (by decide)
  walk_at "rd"
  refine ⟨a, lw, ns, n, wvs, wis, false, rfl, S, n2, n6, Sw, aw, w1, w3, okw, fun l0 rv0 rd0 H1 s1 e1 al1 l01 l06 ok0 ok1 => ?_⟩
  walk_at "rd"
  refine ⟨l0, lw, n, rv0, wvs, rd0, wis, rfl, SqL.of e1, al1, by omega, ok0, n6, s1.seq Sw, aw.imp fun _ _ z => z.mono s1.tups, w3, okw, (fun w _ => by have := nine l06 w.la w.s w.e; omega), fun H2 s2 => ?_⟩
  have s02 := Same.trans s1 s2
  -- the loop
  have tail : ∀ (l : Addr) (rvs : List V) (rds : List Road) (H3 : Hp), Same H H3 → H3 l = some (.lst rvs) → All2 (RdV H3) rvs rds → 1 ≤ rds.length → rds.length ≤ 12 → OkR n rds → (∀ w ∈ wis, 1 ≤ cntW rds w.la (-1) w.s w.e ∧ cntW rds w.la (-1) w.s w.e ≤ 9) →
      (tSeq (tFor (iRng1 (tCons (tC (.int 14)) tNil)) (gName 4) (tSeq (tAsg (tCall (spMixed K) [] E0 (tCons (tVar 0) (tCons (tOp (rAddA K) (tC (.int 4)) (tVar 4)) tNil))) (gName 7))
    (tSeq (tAsg (tOp (rI (fun _ j => 0 < j) fun i j => .int (i % j)) (tOp (rI CDivB fun i j => .int (i.fdiv j)) (tVar 7) (tC (.int 7))) (tVar 1)) (gName 8))
    (tSeq (tAsg (tOp (rI (fun _ j => 0 < j) fun i j => .int (i % j)) (tOp (rAddA K) (tOp (rAddA K) (tVar 8) (tC (.int 1))) (tOp (rI (fun _ j => 0 < j) fun i j => .int (i % j)) (tOp (rI CDivB fun i j => .int (i.fdiv j)) (tVar 7) (tC (.int 49))) (tOp (rI0 fun i j => .int (i - j)) (tVar 1) (tC (.int 1))))) (tVar 1)) (gName 9))
    (tSeq (tIfS (tTest (tOp (rEqA K) (tOp (rI (fun _ j => 0 < j) fun i j => .int (i % j)) (tOp (rI CDivB fun i j => .int (i.fdiv j)) (tVar 7) (tC (.int 343))) (tC (.int 3))) (tC (.int 1)))) (tAsg (tSl (rSlT K) (tOp (rIx K) (tVar 3) (tOp (rI (fun _ j => 0 < j) fun i j => .int (i % j)) (tOp (rI CDivB fun i j => .int (i.fdiv j)) (tVar 7) (tC (.int 1029))) (tCB (rLen K) (tCons (tVar 3) tNil)))) tNoPart (tPart (tC (.int 2)))) (gTup K 2 (gCons (gName 9) (gCons (gName 8) gNil)))) tNext)
    (tSeq (tAsg (tOp (rI (fun _ j => 0 < j) fun i j => .int (i % j)) (tOp (rI CDivB fun i j => .int (i.fdiv j)) (tVar 7) (tC (.int 3087))) (tOp (rAddA K) (tCB (rLen K) (tCons (tVar 3) tNil)) (tC (.int 1)))) (gName 10))
    (tSeq (tAsg (tOp (rAddA K) (tOp (rAddA K) (tSl (rSlL K) (tVar 3) tNoPart (tPart (tVar 10))) (tLst (tCons (tTup (tCons (tVar 8) (tCons (tVar 9) (tCons (tC (.int 0)) (tCons (tC (.int 0)) (tCons (tOp (rEqA K) (tOp (rI (fun _ j => 0 < j) fun i j => .int (i % j)) (tOp (rI CDivB fun i j => .int (i.fdiv j)) (tVar 7) (tC (.int 5))) (tC (.int 4))) (tC (.int 1))) tNil)))))) tNil))) (tSl (rSlL K) (tVar 3) (tPart (tVar 10)) tNoPart)) (gName 11))
    (tIfS (tAnd (tTest (tOp (rI0 fun i j => .bl (decide (i < j))) (tCB (rLen K) (tCons (tVar 11) tNil)) (tC (.int 13)))) (tTest (tOp (rI0 fun i j => .bl (decide (i < j))) (tCall (spMany K) [] E0 (tCons (tVar 11) (tCons (tVar 2) tNil))) (tC (.int 9))))) (tAsg (tVar 11) (gName 3)) tNext))))))))
    (tFin K)) (EN Q) [some (.ref a), some (.int n), some (.ref lw), some (.ref l), none, none, none, none, none, none, none, none, none, none, none] H3 := by
    intro l rvs rds H3 s3 el alr g1 g2 okr okc
    walk_at "rd"
    refine s_jR1 (by decide) ?_
    refine for_range (fun i σ H' => (∃ l v4 v5 v6 v7 v8 v9, σ = [some (.ref a), some (.int n), some (.ref lw), some (.ref l), v4, none, none, v5, v6, v7, v8, v9, none, none, none] ∧ ∃ rvs rds, H' l = some (.lst rvs) ∧ All2 (RdV H') rvs rds ∧ 1 ≤ rds.length ∧ rds.length ≤ 12 ∧ OkR n rds ∧ ∀ w ∈ wis, 1 ≤ cntW rds w.la (-1) w.s w.e ∧ cntW rds w.la (-1) w.s w.e ≤ 9) ∧ Same H H')
      ⟨⟨l, _, _, _, _, _, _, rfl, rvs, rds, el, alr, g1, g2, okr, okc⟩, s3⟩ ?_ ?_
    · clear el alr g1 g2 okr okc s3
      rintro i σ H4 hi ⟨⟨l, v4, v5, v6, v7, v8, v9, rfl, rvs, rds, el, alr, g1, g2, okr, okc⟩, s4⟩
      have i14 : i < 14 := hi
      refine s_gn (σ' := [some (.ref a), some (.int n), some (.ref lw), some (.ref l), some (.int (0 + i)), none, none, v5, v6, v7, v8, v9, none, none, none]) rfl ?_
      dsimp only
      have S4 := s4.seq S
      have Sl4 := SqL.of (K := K) el
      have lrv := alr.len
      walk_at "rd"
      refine ⟨_, _, _, rfl, S4, by omega, by omega, fun m m0 m1 => ?_⟩
      have p1 : (0 : Int) < (n : Int) := by omega
      have p2 : (0 : Int) < (n : Int) - 1 := by omega
      have d7 : CDivB m 7 := cd (by decide) (by decide)
      have d49 : CDivB m 49 := cd (by decide) (by decide)
      have d343 : CDivB m 343 := cd (by decide) (by decide)
      have d1029 : CDivB m 1029 := cd (by decide) (by decide)
      have d3087 : CDivB m 3087 := cd (by decide) (by decide)
      have d5 : CDivB m 5 := cd (by decide) (by decide)
      have p3 : (0 : Int) < (rvs.length : Int) := by omega
      have p4 : (0 : Int) < (rvs.length : Int) + 1 := by omega
      walk_at "rd"
      obtain ⟨sj, es, sl⟩ := place (m := m.fdiv 7) (n := n) (by omega)
      rw [es]
      obtain ⟨ej, ee, el', _⟩ := place2 (m := m.fdiv 49) n2 sl
      rw [ee]
      -- behind the choice of its places
      have rest : ∀ (s e : Nat) (H5 : Hp), s < n → e < n → Same H4 H5 → (tSeq (tAsg (tOp (rI (fun _ j => 0 < j) fun i j => .int (i % j)) (tOp (rI CDivB fun i j => .int (i.fdiv j)) (tVar 7) (tC (.int 3087))) (tOp (rAddA K) (tCB (rLen K) (tCons (tVar 3) tNil)) (tC (.int 1)))) (gName 10))
    (tSeq (tAsg (tOp (rAddA K) (tOp (rAddA K) (tSl (rSlL K) (tVar 3) tNoPart (tPart (tVar 10))) (tLst (tCons (tTup (tCons (tVar 8) (tCons (tVar 9) (tCons (tC (.int 0)) (tCons (tC (.int 0)) (tCons (tOp (rEqA K) (tOp (rI (fun _ j => 0 < j) fun i j => .int (i % j)) (tOp (rI CDivB fun i j => .int (i.fdiv j)) (tVar 7) (tC (.int 5))) (tC (.int 4))) (tC (.int 1))) tNil)))))) tNil))) (tSl (rSlL K) (tVar 3) (tPart (tVar 10)) tNoPart)) (gName 11))
    (tIfS (tAnd (tTest (tOp (rI0 fun i j => .bl (decide (i < j))) (tCB (rLen K) (tCons (tVar 11) tNil)) (tC (.int 13)))) (tTest (tOp (rI0 fun i j => .bl (decide (i < j))) (tCall (spMany K) [] E0 (tCons (tVar 11) (tCons (tVar 2) tNil))) (tC (.int 9))))) (tAsg (tVar 11) (gName 3)) tNext))) { nx := fun σ H' => (∃ l v4 v5 v6 v7 v8 v9, σ = [some (.ref a), some (.int n), some (.ref lw), some (.ref l), v4, none, none, v5, v6, v7, v8, v9, none, none, none] ∧ ∃ rvs rds, H' l = some (.lst rvs) ∧ All2 (RdV H') rvs rds ∧ 1 ≤ rds.length ∧ rds.length ≤ 12 ∧ OkR n rds ∧ ∀ w ∈ wis, 1 ≤ cntW rds w.la (-1) w.s w.e ∧ cntW rds w.la (-1) w.s w.e ≤ 9) ∧ Same H H', rt := Q } [some (.ref a), some (.int n), some (.ref lw), some (.ref l), some (.int (0 + i)), none, none, some (.int m), some (.int (s : Int)), some (.int (e : Int)), v8, v9, none, none, none] H5 := by
        intro s e H5 hs he s5
        have el5 := s5 _ _ el
        have Sl5 := SqL.of (K := K) el5
        have alr5 := rds_mono s5.tups alr
        have s05 := Same.trans s4 s5
        walk_at "rd"
        obtain ⟨j, ej, jl⟩ : ∃ j : Nat, m.fdiv 3087 % ((rvs.length : Int) + 1) = (j : Int) ∧ j < rvs.length + 1 := place (n := rvs.length + 1) (by omega)
        rw [ej]
        refine s_slL Sl5 fun pa H6 _ s6 e6 => ?_
        rw [cut_to] at e6
        walk_at "rd"
        refine s_al ln5 fun q3 H9 s9 e9 => ?_
        walk_at "rd"
        refine s_al ln1 fun q4 HA sA eA => ?_
        have s6A := Same.trans s9 sA
        have s5A := Same.trans s6 s6A
        have lt1 : (rvs.take j).length ≤ rvs.length := by rw [List.length_take]; omega
        refine s_catL (SqL.of (s6A _ _ e6)) (SqL.of eA) (Nat.le_trans (show (rvs.take j).length + 1 ≤ 13 by omega) (by decide)) fun pc HB _ sB eB => ?_
        have RB := SqL.of (K := K) (sB _ _ (s5A _ _ el5))
        walk_at "rd"
        refine s_slL RB fun pd HC _ sC eC => ?_
        rw [cut_from] at eC
        have ld1 : (rvs.drop j).length ≤ rvs.length := by rw [List.length_drop]; omega
        refine s_catL (SqL.of (sC _ _ eB)) (SqL.of eC) (Nat.le_trans (show (rvs.take j ++ [V.ref q3]).length + (rvs.drop j).length ≤ 30 by rw [List.length_append]; simp only [List.length_singleton]; omega) (by decide)) fun pe HD _ sD eD => ?_
        have s9D := Same.trans sA (Same.trans sB (Same.trans sC sD))
        have s5D := Same.trans s6 (Same.trans s9 s9D)
        have s0D := Same.trans s05 s5D
        obtain ⟨rn, ern⟩ : ∃ rn : Road, rn = ⟨s, e, 0, 0, decide (m.fdiv 5 % 4 = 1)⟩ := ⟨_, rfl⟩
        have vn : RdV HD (.ref q3) rn := by
          rw [ern]
          exact ⟨q3, _, _, rfl, s9D _ _ e9, rfl, rfl⟩
        have aD := rds_mono s5D.tups alr5
        have all : All2 (RdV HD) (rvs.take j ++ [V.ref q3] ++ rvs.drop j) (rds.take j ++ [rn] ++ rds.drop j) := ((aD.take j).push vn).append (aD.drop j)
        have lall : (rds.take j ++ [rn] ++ rds.drop j).length = rds.length + 1 := by
          rw [List.length_append, List.length_append, List.length_take, List.length_drop]
          simp only [List.length_singleton]
          omega
        have okn : OkR n (rds.take j ++ [rn] ++ rds.drop j) := fun r hr => by
          rcases List.mem_append.mp hr with h | h
          · rcases List.mem_append.mp h with h | h
            · exact okr r (List.mem_of_mem_take h)
            · rw [List.mem_singleton.mp h, ern]
              exact ⟨hs, he⟩
          · exact okr r (List.mem_of_mem_drop h)
        have lrn := all.len
        have SD := SqL.of (K := K) eD
        have skip : ∀ (H' : Hp), Same HD H' → (∃ l' v4 v5 v6 v7 v8 v9, [some (V.ref a), some (.int n), some (.ref lw), some (.ref l), some (.int (0 + i)), none, none, some (.int m), some (.int (s : Int)), some (.int (e : Int)), some (.int (j : Int)), some (.ref pe), none, none, none] = [some (.ref a), some (.int n), some (.ref lw), some (.ref l'), v4, none, none, v5, v6, v7, v8, v9, none, none, none] ∧ ∃ rvs rds, H' l' = some (.lst rvs) ∧ All2 (RdV H') rvs rds ∧ 1 ≤ rds.length ∧ rds.length ≤ 12 ∧ OkR n rds ∧ ∀ w ∈ wis, 1 ≤ cntW rds w.la (-1) w.s w.e ∧ cntW rds w.la (-1) w.s w.e ≤ 9) ∧ Same H H' := fun H' sH => ⟨⟨l, _, _, _, _, _, _, rfl, rvs, rds, sH _ _ (s5D _ _ el5), rds_mono sH.tups aD, g1, g2, okr, okc⟩, Same.trans s0D sH⟩
        walk_at "rd"
        by_cases c13 : rds.length + 1 < 13
        · refine iteY (decide_eq_true (by omega)) ?_
          have cm : ∀ w ∈ wis, 1 ≤ cntW (rds.take j ++ [rn] ++ rds.drop j) w.la (-1) w.s w.e ∧ cntW (rds.take j ++ [rn] ++ rds.drop j) w.la (-1) w.s w.e ≤ 63 := fun w hw => by
            have h := cnt_mid (a := rds.take j) (b := rds.drop j) (r := rn) (lane := w.la) (s := w.s) (t := w.e) (by rw [List.take_append_drop]; omega)
            rw [List.take_append_drop] at h
            have := okc w hw
            omega
          walk_at "rd"
          refine ⟨pe, lw, n, _, wvs, _, wis, rfl, SD, all, by omega, okn, n6, s0D.seq Sw, aw.imp fun _ _ z => z.mono s0D.tups, w3, okw, (fun w hw => by have := cm w hw; omega), fun HE sE => ?_⟩
          walk_at "rd"
          by_cases c9 : ((wis.map fun w => (cntW (rds.take j ++ [rn] ++ rds.drop j) w.la (-1) w.s w.e : Int)).sum) < 9
          · refine iteY (decide_eq_true c9) ?_
            walk_at "rd"
            refine ⟨⟨pe, _, _, _, _, _, _, rfl, _, _, sE _ _ eD, rds_mono sE.tups all, by omega, by omega, okn, fun w hw => ?_⟩, Same.trans s0D sE⟩
            refine ⟨(cm w hw).1, ?_⟩
            have := mem_le_sumZ (f := fun w : Wi => (cntW (rds.take j ++ [rn] ++ rds.drop j) w.la (-1) w.s w.e : Int)) (fun _ => by omega) hw
            omega
          · refine iteN (decide_eq_false c9) ?_
            walk_at "rd"
            exact skip HE sE
        · refine iteN (decide_eq_false (by omega)) ?_
          refine iteF ?_
          refine s_next ?_
          exact skip HD (Same.refl _)
      by_cases c3 : m.fdiv 343 % 3 = 1
      · refine iteY (decide_eq_true c3) ?_
        walk_at "rd"
        obtain ⟨j, ej2, jl⟩ : ∃ j : Nat, m.fdiv 1029 % (rvs.length : Int) = (j : Int) ∧ j < rvs.length := place (by omega)
        rw [ej2]
        obtain ⟨r, er⟩ : ∃ r, rds[j]? = some r := ⟨_, List.getElem?_eq_getElem (by omega)⟩
        obtain ⟨rv, erv, p5, w1', w2', rfl, hp5, _, _⟩ := alr.getR er
        obtain ⟨r1, r2⟩ := okr r (List.mem_of_getElem? er)
        refine s_ixSL Sl4 (atI_nat erv) ?_
        walk_at "rd"
        refine s_slT (SqT.of hp5) (by show ¬ ((0 : Nat) = 0 ∧ (2 : Nat) = 5); decide) fun pt H5 _ s5 e5 => ?_
        refine s_gt2 (v := .int r.s) (w := .int r.e) (SqT.of e5) rfl ?_
        dsimp only [List.set]
        exact rest r.e r.s H5 r2 r1 s5
      · refine iteN (decide_eq_false c3) ?_
        refine s_next ?_
        exact rest sj ej H4 sl el' (Same.refl _)
    · rintro σ H4 ⟨⟨l, v4, v5, v6, v7, v8, v9, rfl, rvs, rds, el, alr, g1, g2, okr, okc⟩, s4⟩
      exact rd_fin S n2 n6 s4 el alr g1 g2 okr okc q
  walk_at "rd"
  by_cases c8 : (8 : Int) < (wis.map fun w => (cntW rd0 w.la (-1) w.s w.e : Int)).sum
  · refine iteY (decide_eq_true c8) ?_
    walk_at "rd"
    refine ⟨a, lw, ns, n, wvs, wis, true, rfl, s02.seq S, n2, n6, s02.seq Sw, aw.imp fun _ _ z => z.mono s02.tups, w1, w3, okw, fun l3 rv3 rd3 H3 s3 e3 al3 l31 l36 ok3 ok4 => ?_⟩
    refine s_set rfl ?_
    refine s_nx ?_
    exact tail l3 rv3 rd3 H3 (Same.trans s02 s3) e3 al3 l31 (by omega) ok3 fun w hw => ⟨ok4 w hw, nine l36 _ _ _⟩
  · refine iteN (decide_eq_false c8) ?_
    refine s_next ?_
    exact tail l0 rv0 rd0 H2 s02 (s2 _ _ e1) (rds_mono s2.tups al1) l01 (by omega) ok0 fun w hw => ⟨ok1 w hw, nine l06 _ _ _⟩
end KC

end

section
set_option maxHeartbeats 4000000
namespace KC
open PySem L2 Fr Cnt
local macro_rules | `(tactic| walk_at "rd1") => `(tactic| first | ((with_reducible refine' s_set2 ?hs ?_); (case hs => ((simp only [List.set_cons_succ, List.set_cons_zero]) <;> exact rfl))) | ((with_reducible refine' s_set ?hs ?_); (case hs => ((simp only [List.set_cons_succ, List.set_cons_zero]) <;> exact rfl))) | (with_reducible refine s_seq ?_) | (with_reducible refine s_asg ?_) | (with_reducible refine s_if ?_) | (with_reducible refine s_asgG ?_) | (with_reducible refine s_gsub ?_) | (with_reducible refine s_sl ?_) | (with_reducible refine s_noPart ?_) | (with_reducible refine s_part ?_) | (with_reducible refine s_exI ?_) | (with_reducible refine s_ret ?_) | (with_reducible refine s_op ?_) | (with_reducible refine s_c ?_) | (with_reducible refine s_cons ?_) | (with_reducible refine s_nil ?_) | (with_reducible refine s_call ?_) | (with_reducible refine s_cb ?_) | (with_reducible refine s_test ?_) | (with_reducible refine s_b ?_) | (with_reducible refine s_and ?_) | (with_reducible refine s_or ?_) | (with_reducible refine s_not ?_) | (with_reducible refine s_andV ?_) | (with_reducible refine s_orV ?_) | (with_reducible refine s_notV ?_) | (with_reducible refine s_ifx ?_) | (with_reducible refine s_chain ?_) | (with_reducible refine s_un ?_) | (with_reducible refine s_tup ?_) | (with_reducible refine s_lst ?_) | (with_reducible refine s_drop ?_) | (with_reducible refine s_retN ?_) | (with_reducible refine s_next ?_) | (with_reducible refine s_break ?_) | (with_reducible refine s_cont ?_) | (with_reducible refine s_par ?_) | ((with_reducible refine' s_var ?hv ?_); (case hv => exact rfl)) | (with_reducible refine s_bl ?_) | (with_reducible refine s_rI0 ?_) | (with_reducible refine s_eqI ?_) | (with_reducible refine s_neI ?_) | (with_reducible refine s_eqB ?_) | (with_reducible refine s_rU ?_) | (with_reducible refine s_eqAI ?_) | (with_reducible refine s_neAI ?_) | (with_reducible refine s_eqAB ?_) | (with_reducible refine s_addI ?_) | ((with_reducible refine' s_ixST ?hq ?he ?_); (case hq => assumption); (case he => exact rfl)) | ((with_reducible refine' s_ixSL ?hq ?he ?_); (case hq => assumption); (case he => exact rfl)) | ((with_reducible refine' s_abs1 ?_)) | ((with_reducible refine' s_lenL ?hq ?_); (case hq => assumption)) | ((with_reducible refine' s_lenT ?hq ?_); (case hq => assumption)) | (with_reducible refine s_isN ?_) | (with_reducible refine s_for ?_) | (with_reducible refine s_iList ?_) | (with_reducible refine s_iTup ?_) | (with_reducible refine s_iR1 ?_) | (with_reducible refine s_iR2 ?_) | (with_reducible refine s_iEnum ?_) | (with_reducible refine s_iZip ?_) | ((with_reducible refine' s_jList ?hq ?_); (case hq => assumption)) | ((with_reducible refine' s_jTup ?hq ?_); (case hq => assumption)) | ((with_reducible refine' s_jEnum ?hq ?_); (case hq => assumption)) | ((with_reducible refine' s_jZip ?hq ?hr ?_); (case hq => assumption); (case hr => assumption)) | ((with_reducible refine' s_aug ?hv ?_); (case hv => exact rfl)) | (with_reducible refine s_augS ?_) | (with_reducible refine s_ipI ?_) | (with_reducible refine s_int1 ?_) | (with_reducible refine s_bm ?_) | (with_reducible refine s_bm0 ?_) | ((with_reducible refine' s_tyL ?hq ?_); (case hq => assumption)) | (with_reducible refine s_notN ?_) | (with_reducible refine s_min2 ?_) | (with_reducible refine s_max2 ?_) | (with_reducible refine s_nx ?_) | (with_reducible refine s_rt ?_) | (with_reducible refine s_bk ?_) | (with_reducible refine s_ct ?_) | (with_reducible refine iteT ?_) | (with_reducible refine iteNt ?_) | (with_reducible refine iteNf ?_) | ((with_reducible refine iteN ?hz ?_); (case hz => exact rfl)) | ((with_reducible refine iteY ?hz ?_); (case hz => exact rfl)) | (with_reducible refine iteF ?_) | ((with_reducible refine' s_ixT ?hq ?he ?_); (case hq => assumption); (case he => exact rfl)) | ((with_reducible refine' s_ixL ?hq ?he ?_); (case hq => assumption); (case he => exact rfl)) | ((with_reducible refine s_rI ?hc ?_); (case hc => first | assumption | exact mulOk (by assumption) (by assumption) | exact (show (0 : Int) < _ by decide) | omega)))
local macro_rules | `(tactic| walk_at "rd") => `(tactic| repeat walk_at "rd1")
variable {K : PySem.W.Frag} {c : Cs} {H : Hp} {vs : List V} {Q : VK} {E : XK}
theorem RowV.same {H H' : Hp} {v : V} {r : Row} (s : Same H H') (h : RowV H v r) : RowV H' v r := by
  obtain ⟨p, a, rfl, e1, e2⟩ := h
  exact ⟨p, a, rfl, s _ _ e1, s _ _ e2⟩
theorem Chain.lt {rds : List Road} {ok : Nat → Bool} : ∀ {w : List Nat} {v u : Nat}, Chain rds ok v w u → ∀ k ∈ w, k < rds.length
  | [], _, _, _, k, hk => by cases hk
  | j :: w, _, _, h, k, hk => by
    rcases List.mem_cons.mp hk with rfl | hk
    · exact h.1
    · exact Chain.lt h.2.2.2 k hk
def RowW (H0 H : Hp) (v : V) (r : Row) : Prop := ∃ p a, v = .ref p ∧ H p = some (.tup [.int r.num, .ref a]) ∧ H0 a = some (.lst (r.w.map fun (i : Nat) => V.int i))
/-- the rows of one kind -/
theorem rowcomp {lx acc : Addr} {xs : List V} {ws : List (List Nat)} {i : Nat} {b : Bool} (S : SqL K H lx xs) (aw : All2 (IntsV H) xs ws) (lw : ws.length ≤ 64) (na : H acc = none)
    (q : ∀ gs H', Same H H' → H' acc = some (.lst gs) → All2 (RowV H') gs (ws.map fun w => ⟨i, w, b⟩) → Q (.ref acc) H') :
    CompW (Itl K lx) acc (gName 0) tNoIf (tTup (tCons (tVar 1) (tCons (tVar 0) tNil))) [none, some (.int (i : Int))] H Q := by
  have len := aw.len
  refine compL (xs := xs) (fun j σ H' => (∃ v, σ = [v, some (.int (i : Int))]) ∧ Same H H' ∧ ∃ gs, H' acc = some (.lst gs) ∧ All2 (RowW H H') gs ((ws.take j).map fun w => ⟨i, w, b⟩)) ⟨⟨_, rfl⟩, Same.new na, [], upd_same, .nil⟩ ?_ ?_ ?_
  · rintro j σ H1 _ ⟨_, s1, _⟩
    exact s1.seq S
  · rintro j x σ H1 hx ⟨⟨v, rfl⟩, s1, gs, eg, ag⟩
    obtain ⟨w, ew, a, rfl, ea⟩ := aw.get hx
    have jl : j < ws.length := (List.getElem?_eq_some_iff.mp ew).1
    refine s_gn (σ' := [some (.ref a), some (.int (i : Int))]) rfl ?_
    refine blkN ?_
    walk_at "rd"
    refine s_al ln2 fun p H2 s2 e2 => ?_
    have lgs : gs.length ≤ 64 := by
      rw [ag.len, List.length_map, List.length_take]
      omega
    have eg2 := s2 _ _ eg
    have s3 : Same H (upd H2 acc (.lst (gs ++ [.ref p]))) := (Same.trans s1 s2).updN na
    have t3 : Tups H2 (upd H2 acc (.lst (gs ++ [.ref p]))) := Tups.lst eg2
    refine ⟨gs, eg2, Nat.lt_of_le_of_lt lgs (by decide), ⟨_, rfl⟩, s3, gs ++ [.ref p], upd_same, ?_⟩
    rw [List.take_add_one, ew, List.map_append]
    refine All2.push (ag.imp fun g r z => ?_) ⟨p, a, rfl, t3.1 _ _ e2, ea⟩
    obtain ⟨p', a', rfl, h1, h2⟩ := z
    exact ⟨p', a', rfl, t3.1 _ _ (s2 _ _ h1), h2⟩
  · rintro σ H1 ⟨_, s1, gs, eg, ag⟩
    rw [len, List.take_length] at ag
    refine q gs H1 s1 eg (ag.imp fun g r z => ?_)
    obtain ⟨p', a', rfl, h1, h2⟩ := z
    exact ⟨p', a', rfl, h1, s1 _ _ h2⟩
theorem rd__law_rows (h : spRows K vs H Q E) : t__law_rows K (EN Q) (start ["_law_roads_here", "_law_wishes_here", "_law_rows_here", "_law_number", "_law_wish"] vs) H := by
  obtain ⟨l, lw, n, rvs, wvs, rds, wis, rfl, Sl, alr, l12, okr, n6, Sw, aw, w1, w3, okw, okc, q⟩ := h
  show t__law_rows K (EN Q) [some (.ref l), some (.ref lw), none, none, none] H
  walk_at "rd"
  refine s_al ln0 fun l0 H1 s1 e1 => ?_
  have Sw1 := s1.seq Sw
  have lws := aw.len
  walk_at "rd"
  refine for_enum (xs := wvs) (fun i σ H' => (∃ lo v3 v4, σ = [some (.ref l), some (.ref lw), some (.ref lo), v3, v4] ∧ ∃ ovs rows, H' lo = some (.lst ovs) ∧ All2 (RowV H') ovs rows ∧ i ≤ rows.length ∧ rows.length ≤ 13 * i ∧ ∀ r ∈ rows, OkRow rds wis r) ∧ Same H H')
    ⟨⟨l0, _, _, rfl, [], [], e1, .nil, by simp, by simp, fun r hr => by cases hr⟩, s1⟩ ?_ ?_ ?_
  · rintro i σ H2 _ ⟨_, s2⟩
    exact s2.seq Sw
  · rintro i x tt σ H2 H3 hx ⟨⟨lo, v3, v4, rfl, ovs, rows, eo, ao, l1, l13, oko⟩, s2⟩ s3 et
    obtain ⟨w, ew, p, rfl, hp⟩ := aw.get hx
    have il : i < wis.length := (List.getElem?_eq_some_iff.mp ew).1
    have wm := List.mem_of_getElem? ew
    obtain ⟨ws1, we1, wne⟩ := okw w wm
    obtain ⟨c1, c9⟩ := okc w wm
    have s03 := Same.trans s2 s3
    have Sp := SqT.of (K := K) (s03 _ _ hp)
    have So := SqL.of (K := K) (s3 _ _ eo)
    have lov := ao.len
    refine s_gt2 (SqT.of et) rfl ?_
    dsimp only [List.set]
    refine s_seq ?_
    refine s_asg ?_
    refine s_op ?_
    refine s_var rfl ?_
    refine s_comp (σ' := [none, some (.int (i : Int))]) rfl ?_
    walk_at "rd"
    refine ⟨l, n, w.s, w.e, w.la, -1, rvs, rds, rfl, s03.seq Sl, rds_mono s03.tups alr, l12, okr, n6, ws1, by omega, fun lx xs ways H4 _ s4 ex ax lx' okx => ?_⟩
    have Sx := SqL.of (K := K) ex
    walk_at "rd"
    intro acc na
    refine rowcomp (b := true) Sx ax (by omega) na fun gs H5 s5 eg ag => ?_
    have s35 := Same.trans s4 s5
    have lgs := ag.len
    rw [List.length_map] at lgs
    refine s_catL (s35.seq So) (SqL.of eg) (Nat.le_trans (show ovs.length + gs.length ≤ 1000 by omega) (by decide)) fun p6 H6 _ s6 e6 => ?_
    have s36 := Same.trans s35 s6
    have s06 := Same.trans s03 s36
    have Sp6 := SqT.of (K := K) (s06 _ _ hp)
    have S6 := SqL.of (K := K) e6
    have a6 : All2 (RowV H6) (ovs ++ gs) (rows ++ ways.map fun w => ⟨i, w, true⟩) := (ao.imp fun _ _ z => (z.same s3).same s36).append (ag.imp fun _ _ z => z.same s6)
    refine s_set rfl ?_
    dsimp only [List.set]
    refine s_asg ?_
    refine s_op ?_
    refine s_var rfl ?_
    refine s_comp (σ' := [none, some (.int (i : Int))]) rfl ?_
    walk_at "rd"
    refine ⟨l, n, w.la, rvs, rds, rfl, s06.seq Sl, rds_mono s06.tups alr, l12, okr, n6, fun ly ys rings H7 s7 ey ay oky => ?_⟩
    walk_at "rd"
    refine s_slL (SqL.of ey) fun lz H8 _ s8 ez => ?_
    rw [show (4 : Int) = ((4 : Nat) : Int) from rfl, cut_to] at ez
    have az : All2 (IntsV H8) (ys.take 4) (rings.take 4) := (ay.imp fun _ _ z => z.same s8).take 4
    have Sz := SqL.of (K := K) ez
    have lz4 : (rings.take 4).length ≤ 4 := by rw [List.length_take]; omega
    walk_at "rd"
    intro ac2 na2
    refine rowcomp (b := false) Sz az (by omega) na2 fun hs H9 s9 eh ah => ?_
    have s69 := Same.trans s7 (Same.trans s8 s9)
    have lhs := ah.len
    rw [List.length_map] at lhs
    have lov2 : (ovs ++ gs).length ≤ 200 := by rw [List.length_append]; omega
    refine s_catL (s69.seq S6) (SqL.of eh) (Nat.le_trans (show (ovs ++ gs).length + hs.length ≤ 1000 by omega) (by decide)) fun pA HA _ sA eA => ?_
    refine ⟨⟨pA, _, _, rfl, _, rows ++ (ways.map fun w => ⟨i, w, true⟩) ++ (rings.take 4).map fun w => ⟨i, w, false⟩, eA, (a6.imp fun _ _ z => (z.same s69).same sA).append (ah.imp fun _ _ z => z.same sA), ?_, ?_, fun r hr => ?_⟩, Same.trans s06 (Same.trans s69 sA)⟩
    · rw [List.length_append, List.length_append, List.length_map]
      omega
    · rw [List.length_append, List.length_append, List.length_map, List.length_map]
      omega
    · rcases List.mem_append.mp hr with hr | hr
      · rcases List.mem_append.mp hr with hr | hr
        · exact oko r hr
        · obtain ⟨w', hw', rfl⟩ := List.mem_map.mp hr
          obtain ⟨ch, l6⟩ := okx w' hw'
          refine ⟨w, ew, .inl ⟨rfl, ch.imp fun k hk => ?_⟩, by show w'.length ≤ 7; omega⟩
          unfold al at hk
          rw [Bool.and_eq_true] at hk
          exact hk.2
      · obtain ⟨w', hw', rfl⟩ := List.mem_map.mp hr
        obtain ⟨l7, v, ch⟩ := oky w' (List.mem_of_mem_take hw')
        exact ⟨w, ew, .inr ⟨rfl, v, ch⟩, l7⟩
  · rintro σ H2 ⟨⟨lo, v3, v4, rfl, ovs, rows, eo, ao, l1, l13, oko⟩, s2⟩
    walk_at "rd"
    exact q lo ovs rows H2 s2 eo ao (by omega) (by omega) oko
theorem rd__law_amounts (h : spAmounts K vs H Q E) : t__law_amounts K (EN Q) (start ["_law_script", "_law_rows_here", "_law_far", "_law_amounts_here", "_law_k", "_law_j", "_law_row"] vs) H := by
  obtain ⟨a, lo, ns, ovs, rows, rfl, S, n63, So, ao, r1, r39, q⟩ := h
  show t__law_amounts K (EN Q) [some (.ref a), some (.ref lo), none, none, none, none, none] H
  have c6 : CPow 10 6 := ⟨by decide, by decide, by decide⟩
  have c18 : CPow 10 18 := ⟨by decide, by decide, by decide⟩
  have lov := ao.len
  walk_at "rd"
  refine s_al ln3 fun lp H1 s1 e1 => ?_
  have S1 := s1.seq S
  walk_at "rd"
  refine ⟨_, _, _, rfl, S1, by decide, by decide, fun z z0 z1 => ?_⟩
  walk_at "rd"
  have pick : ∃ far : Int, atI ([.int 10, .int (10 ^ (6 : Int).toNat), .int (10 ^ (18 : Int).toNat)] : List V) (z % 3) = some (.int far) ∧ 0 < far ∧ far ≤ 10 ^ 18 := by
    have a0 := Int.emod_nonneg z (show (3 : Int) ≠ 0 by decide)
    have a1 := Int.emod_lt_of_pos z (show (0 : Int) < 3 by decide)
    generalize z % 3 = j at a0 a1
    rcases (by omega : j = 0 ∨ j = 1 ∨ j = 2) with rfl | rfl | rfl
    · exact ⟨_, rfl, by decide, by decide⟩
    · exact ⟨_, rfl, by decide, by decide⟩
    · exact ⟨_, rfl, by decide, by decide⟩
  obtain ⟨far, hf, far0, far1⟩ := pick
  refine s_ixSL (SqL.of e1) hf ?_
  have So1 := s1.seq So
  walk_at "rd"
  refine s_comp (σ' := [none, some (.int far), some (.ref a)]) rfl ?_
  walk_at "rd"
  refine s_jR1 (by omega) ?_
  intro acc na
  have n0 : H acc = none := s1.free na
  rw [show ((ovs.length : Int)).toNat = ovs.length by omega]
  refine compR (fun i σ H' => (∃ v, σ = [v, some (.int far), some (.ref a)]) ∧ Same H H' ∧ ∃ ts : List Int, H' acc = some (.lst (ts.map V.int)) ∧ ts.length = i ∧ ∀ x ∈ ts, 0 ≤ x ∧ x ≤ 10 ^ 18)
    ⟨⟨_, rfl⟩, Same.trans s1 (Same.new na), [], upd_same, rfl, fun x hx => by cases hx⟩ ?_ ?_
  · rintro i σ H2 hi ⟨⟨v, rfl⟩, s2, ts, ea, hl, hb⟩
    have S2 := s2.seq S
    refine s_gn (σ' := [some (.int (0 + i)), some (.int far), some (.ref a)]) rfl ?_
    refine blkN ?_
    walk_at "rd"
    refine ⟨_, _, _, rfl, S2, by omega, by omega, fun y y0 y1 => ?_⟩
    have d3 : CDivB y 3 := cd (by decide) (by decide)
    walk_at "rd"
    refine ⟨_, _, _, rfl, S2, by omega, by omega, fun u u0 u1 => ?_⟩
    have b0 := Int.emod_nonneg (u % 3) (show (2 : Int) ≠ 0 by decide)
    have b1 := Int.emod_lt_of_pos (u % 3) (show (0 : Int) < 2 by decide)
    have m1 : CMulX (y.fdiv 3 % far) (u % 3 % 2) := cm ⟨by omega, by omega⟩
    have g0 := Int.emod_nonneg (y.fdiv 3) (show far ≠ 0 by omega)
    have g1 := Int.emod_lt_of_pos (y.fdiv 3) far0
    walk_at "rd"
    refine ⟨_, ea, ?_, ⟨_, rfl⟩, s2.updN n0, ts ++ [y.fdiv 3 % far * (u % 3 % 2)], ?_, by simp [hl], fun x hx => ?_⟩
    · rw [List.length_map]
      exact Nat.lt_of_le_of_lt (show ts.length ≤ 39 by omega) (by decide)
    · rw [upd_same, List.map_append]
      rfl
    · rcases List.mem_append.mp hx with hx | hx
      · exact hb x hx
      · rw [List.mem_singleton.mp hx]
        rcases (by omega : u % 3 % 2 = 0 ∨ u % 3 % 2 = 1) with e | e <;> rw [e] <;> omega
  · rintro σ H2 ⟨_, s2, ts, ea, hl, hb⟩
    have S2 := s2.seq S
    have So2 := s2.seq So
    walk_at "rd"
    rw [List.length_map]
    refine s_jR2 (by decide) (by split <;> omega) ?_
    refine for_range (fun i σ H' => (∃ v4 v5 v6, σ = [some (.ref a), some (.ref lo), some (.int far), some (.ref acc), v4, v5, v6]) ∧ Same H H' ∧ ∃ ts : List Int, H' acc = some (.lst (ts.map V.int)) ∧ ts.length = rows.length ∧ ∀ x ∈ ts, 0 ≤ x ∧ x ≤ (i + 1) * 10 ^ 18)
      ⟨⟨_, _, _, rfl⟩, s2, ts, ea, by omega, fun x hx => by have := hb x hx; simp; omega⟩ ?_ ?_
    · clear S2 So2 s2 ea hl hb ts
      rintro i σ H3 hi ⟨⟨v4, v5, v6, rfl⟩, s3, ts, ea, hl, hb⟩
      have S3 := s3.seq S
      have So3 := s3.seq So
      have hj : 20 + i < ns.length := by split at hi <;> omega
      refine s_gn (σ' := [some (.ref a), some (.ref lo), some (.int far), some (.ref acc), some (.int (20 + i)), v5, v6]) rfl ?_
      dsimp only
      have kp : (0 : Int) < (ovs.length : Int) := by omega
      walk_at "rd"
      obtain ⟨j, ej, jk⟩ : ∃ j : Nat, (20 + (i : Int)) % (ovs.length : Int) = (j : Int) ∧ j < ovs.length := place (by omega)
      rw [ej]
      have jl : j < ts.length := by omega
      refine s_ixL (SqL.of ea) (atI_nat (v := .int ts[j]) (by simp [jl])) ?_
      walk_at "rd"
      refine s_ixSL S3 (v := .int ns[20 + i]) (by rw [show (20 + (i : Int)) = ((20 + i : Nat) : Int) by omega]; exact atI_nat (by simp [hj])) ?_
      walk_at "rd"
      refine s_setL (k := j) ea (by simp [jl]) ?_
      have w0 := Int.emod_nonneg ns[20 + i] (show far ≠ 0 by omega)
      have w1 := Int.emod_lt_of_pos ns[20 + i] far0
      walk_at "rd"
      refine ⟨⟨_, _, _, rfl⟩, s3.updN n0, ts.set j (ts[j] + ns[20 + i] % far), ?_, by simp [hl], fun x hx => ?_⟩
      · rw [upd_same, List.map_set]
      · have hh := hb ts[j] (List.getElem_mem jl)
        rcases List.mem_or_eq_of_mem_set hx with hx | hx
        · have := hb x hx
          push_cast
          omega
        · rw [hx]
          push_cast
          omega
    · clear S2 So2 s2 ea hl hb ts
      rintro σ H3 ⟨⟨v4, v5, v6, rfl⟩, s3, ts, ea, hl, hb⟩
      have So3 := s3.seq So
      have hb2 : ∀ x ∈ ts, 0 ≤ x ∧ x ≤ 64 * 10 ^ 18 := fun x hx => by
        have h1 := hb x hx
        have : ((if (120 : Int) < (ns.length : Int) then (120 : Int) else (ns.length : Int)) - 20).toNat ≤ 63 := by split <;> omega
        omega
      clear hb
      walk_at "rd"
      refine for_enum (xs := ovs) (fun i σ H' => (∃ v4 v5 v6, σ = [some (.ref a), some (.ref lo), some (.int far), some (.ref acc), v4, v5, v6]) ∧ Same H H' ∧ ∃ ts : List Int, H' acc = some (.lst (ts.map V.int)) ∧ ts.length = rows.length ∧ ∀ x ∈ ts, 0 ≤ x ∧ x ≤ 64 * 10 ^ 18 + i)
        ⟨⟨_, _, _, rfl⟩, s3, ts, ea, hl, fun x hx => by have := hb2 x hx; simp; omega⟩ ?_ ?_ ?_
      · rintro i σ H4 _ ⟨_, s4, _⟩
        exact s4.seq So
      · clear So3 s3 ea hl hb2 ts
        rintro i x tt σ H4 H5 hx ⟨⟨v4, v5, v6, rfl⟩, s4, ts, ea, hl, hb⟩ s5 et
        obtain ⟨r, er, p, ap, rfl, hp, _⟩ := ao.get hx
        have il : i < rows.length := (List.getElem?_eq_some_iff.mp er).1
        have s05 := Same.trans s4 s5
        have ea5 := s5 _ _ ea
        have So5 := s05.seq So
        have Sp := SqT.of (K := K) (s05 _ _ hp)
        have jl : i < ts.length := by omega
        refine s_gt2 (SqT.of et) rfl ?_
        dsimp only [List.set]
        have plus : (tAugS (tVar 3) (tVar 5) (tC (.int 1)) (rIxL K) (ipI fun i j => i + j) rSetL) { nx := fun σ H' => (∃ v4 v5 v6, σ = [some (.ref a), some (.ref lo), some (.int far), some (.ref acc), v4, v5, v6]) ∧ Same H H' ∧ ∃ ts : List Int, H' acc = some (.lst (ts.map V.int)) ∧ ts.length = rows.length ∧ ∀ x ∈ ts, 0 ≤ x ∧ x ≤ 64 * 10 ^ 18 + ((i + 1 : Nat) : Int), rt := Q } [some (.ref a), some (.ref lo), some (.int far), some (.ref acc), v4, some (.int (i : Int)), some (.ref p)] H5 := by
          walk_at "rd"
          refine s_ixL (SqL.of ea5) (atI_nat (v := .int ts[i]) (by simp [jl])) ?_
          walk_at "rd"
          refine s_setL (k := i) ea5 (by simp [jl]) ?_
          walk_at "rd"
          refine ⟨⟨_, _, _, rfl⟩, s05.updN n0, ts.set i (ts[i] + 1), ?_, by simp [hl], fun x hx => ?_⟩
          · rw [upd_same, List.map_set]
          · have hh := hb ts[i] (List.getElem_mem jl)
            rcases List.mem_or_eq_of_mem_set hx with hx | hx
            · have := hb x hx
              omega
            · rw [hx]
              omega
        walk_at "rd"
        by_cases c0 : (i : Int) = 0
        · rw [decide_eq_true c0]
          refine iteT ?_
          refine iteT ?_
          exact plus
        · rw [decide_eq_false c0]
          refine iteF ?_
          walk_at "rd"
          obtain ⟨j, rfl⟩ : ∃ j, i = j + 1 := ⟨i - 1, by omega⟩
          obtain ⟨r', er'⟩ : ∃ r', rows[j]? = some r' := ⟨_, List.getElem?_eq_getElem (by omega)⟩
          obtain ⟨v', ev', p', a', rfl, hp', _⟩ := ao.getR er'
          refine s_ixSL So5 (v := .ref p') (by rw [show (((j + 1 : Nat) : Int) - 1) = (j : Int) by omega]; exact atI_nat ev') ?_
          have Sp' := SqT.of (K := K) (s05 _ _ hp')
          walk_at "rd"
          by_cases c1 : (r'.num : Int) = (r.num : Int)
          · rw [decide_eq_true c1]
            refine iteF ?_
            refine s_next ?_
            refine ⟨⟨_, _, _, rfl⟩, s05, ts, ea5, hl, fun x hx => ?_⟩
            have := hb x hx
            omega
          · rw [decide_eq_false c1]
            refine iteT ?_
            exact plus
      · rintro σ H4 ⟨⟨v4, v5, v6, rfl⟩, s4, ts, ea, hl, hb⟩
        walk_at "rd"
        refine q acc ts H4 s4 ea hl fun x hx => ?_
        have := hb x hx
        omega
end KC

end

section
set_option maxHeartbeats 4000000
namespace KC
open PySem L2 Fr Cnt
local macro_rules | `(tactic| walk_at "rd1") => `(tactic| first | ((with_reducible refine' s_set2 ?hs ?_); (case hs => ((simp only [List.set_cons_succ, List.set_cons_zero]) <;> exact rfl))) | ((with_reducible refine' s_set ?hs ?_); (case hs => ((simp only [List.set_cons_succ, List.set_cons_zero]) <;> exact rfl))) | (with_reducible refine s_seq ?_) | (with_reducible refine s_asg ?_) | (with_reducible refine s_if ?_) | (with_reducible refine s_asgG ?_) | (with_reducible refine s_gsub ?_) | (with_reducible refine s_sl ?_) | (with_reducible refine s_noPart ?_) | (with_reducible refine s_part ?_) | (with_reducible refine s_exI ?_) | (with_reducible refine s_ret ?_) | (with_reducible refine s_op ?_) | (with_reducible refine s_c ?_) | (with_reducible refine s_cons ?_) | (with_reducible refine s_nil ?_) | (with_reducible refine s_call ?_) | (with_reducible refine s_cb ?_) | (with_reducible refine s_test ?_) | (with_reducible refine s_b ?_) | (with_reducible refine s_and ?_) | (with_reducible refine s_or ?_) | (with_reducible refine s_not ?_) | (with_reducible refine s_andV ?_) | (with_reducible refine s_orV ?_) | (with_reducible refine s_notV ?_) | (with_reducible refine s_ifx ?_) | (with_reducible refine s_chain ?_) | (with_reducible refine s_un ?_) | (with_reducible refine s_tup ?_) | (with_reducible refine s_lst ?_) | (with_reducible refine s_drop ?_) | (with_reducible refine s_retN ?_) | (with_reducible refine s_next ?_) | (with_reducible refine s_break ?_) | (with_reducible refine s_cont ?_) | (with_reducible refine s_par ?_) | ((with_reducible refine' s_var ?hv ?_); (case hv => exact rfl)) | (with_reducible refine s_bl ?_) | (with_reducible refine s_rI0 ?_) | (with_reducible refine s_eqI ?_) | (with_reducible refine s_neI ?_) | (with_reducible refine s_eqB ?_) | (with_reducible refine s_rU ?_) | (with_reducible refine s_eqAI ?_) | (with_reducible refine s_neAI ?_) | (with_reducible refine s_eqAB ?_) | (with_reducible refine s_addI ?_) | ((with_reducible refine' s_ixST ?hq ?he ?_); (case hq => assumption); (case he => exact rfl)) | ((with_reducible refine' s_ixSL ?hq ?he ?_); (case hq => assumption); (case he => exact rfl)) | ((with_reducible refine' s_abs1 ?_)) | ((with_reducible refine' s_lenL ?hq ?_); (case hq => assumption)) | ((with_reducible refine' s_lenT ?hq ?_); (case hq => assumption)) | (with_reducible refine s_isN ?_) | (with_reducible refine s_for ?_) | (with_reducible refine s_iList ?_) | (with_reducible refine s_iTup ?_) | (with_reducible refine s_iR1 ?_) | (with_reducible refine s_iR2 ?_) | (with_reducible refine s_iEnum ?_) | (with_reducible refine s_iZip ?_) | ((with_reducible refine' s_jList ?hq ?_); (case hq => assumption)) | ((with_reducible refine' s_jTup ?hq ?_); (case hq => assumption)) | ((with_reducible refine' s_jEnum ?hq ?_); (case hq => assumption)) | ((with_reducible refine' s_jZip ?hq ?hr ?_); (case hq => assumption); (case hr => assumption)) | ((with_reducible refine' s_aug ?hv ?_); (case hv => exact rfl)) | (with_reducible refine s_augS ?_) | (with_reducible refine s_ipI ?_) | (with_reducible refine s_int1 ?_) | (with_reducible refine s_bm ?_) | (with_reducible refine s_bm0 ?_) | ((with_reducible refine' s_tyL ?hq ?_); (case hq => assumption)) | (with_reducible refine s_notN ?_) | (with_reducible refine s_min2 ?_) | (with_reducible refine s_max2 ?_) | (with_reducible refine s_nx ?_) | (with_reducible refine s_rt ?_) | (with_reducible refine s_bk ?_) | (with_reducible refine s_ct ?_) | (with_reducible refine iteT ?_) | (with_reducible refine iteNt ?_) | (with_reducible refine iteNf ?_) | ((with_reducible refine iteN ?hz ?_); (case hz => exact rfl)) | ((with_reducible refine iteY ?hz ?_); (case hz => exact rfl)) | (with_reducible refine iteF ?_) | ((with_reducible refine' s_ixT ?hq ?he ?_); (case hq => assumption); (case he => exact rfl)) | ((with_reducible refine' s_ixL ?hq ?he ?_); (case hq => assumption); (case he => exact rfl)) | ((with_reducible refine s_rI ?hc ?_); (case hc => first | assumption | exact mulOk (by assumption) (by assumption) | exact (show (0 : Int) < _ by decide) | omega)))
local macro_rules | `(tactic| walk_at "rd") => `(tactic| repeat walk_at "rd1")
variable {K : PySem.W.Frag} {c : Cs} {H : Hp} {vs : List V} {Q : VK} {E : XK}
theorem all2_of {α β : Type} {R : α → β → Prop} : ∀ {as : List α} {bs : List β}, as.length = bs.length → (∀ (i : Nat) a b, as[i]? = some a → bs[i]? = some b → R a b) → All2 R as bs
  | [], [], _, _ => .nil
  | [], b :: bs, h, _ => by cases h
  | a :: as, [], h, _ => by cases h
  | a :: as, b :: bs, h, f => .cons (f 0 a b rfl rfl) (all2_of (by simpa using h) fun i x y hx hy => f (i + 1) x y (by simpa using hx) (by simpa using hy))
/-- lists in a list, all of them new ones -/
structure LL (H0 H : Hp) (lo : Addr) (as : List Addr) (xss : List (List V)) : Prop where
  out : H lo = some (.lst (as.map V.ref))
  nd : as.Nodup
  nlo : lo ∉ as
  fr : ∀ a ∈ as, H0 a = none
  el : All2 (fun a xs => H a = some (.lst xs)) as xss
theorem LL.same {H0 H H' : Hp} {lo : Addr} {as : List Addr} {xss : List (List V)} (s : Same H H') (h : LL H0 H lo as xss) : LL H0 H' lo as xss :=
  ⟨s _ _ h.out, h.nd, h.nlo, h.fr, h.el.imp fun _ _ z => s _ _ z⟩
theorem nodup_ne {α : Type} {l : List α} (h : l.Nodup) {i j : Nat} {a b : α} (hi : l[i]? = some a) (hj : l[j]? = some b) (ne : i ≠ j) : a ≠ b := by
  intro e
  subst e
  obtain ⟨h1, e1⟩ := List.getElem?_eq_some_iff.mp hi
  obtain ⟨h2, e2⟩ := List.getElem?_eq_some_iff.mp hj
  exact ne ((List.getElem_inj h).mp (e1.trans e2.symm))
theorem LL.set {H0 H : Hp} {lo : Addr} {as : List Addr} {xss : List (List V)} {i : Nat} {a : Addr} {ys : List V} (h : LL H0 H lo as xss) (ha : as[i]? = some a) : LL H0 (L2.upd H a (.lst ys)) lo as (xss.set i ys) := by
  have ma := List.mem_of_getElem? ha
  have nl : lo ≠ a := fun z => h.nlo (z ▸ ma)
  refine ⟨by rw [upd_ne nl]; exact h.out, h.nd, h.nlo, h.fr, all2_of (by rw [List.length_set]; exact h.el.len) fun j b zs hb hz => ?_⟩
  by_cases c : i = j
  · subst c
    rw [ha] at hb
    cases hb
    have il : i < xss.length := by
      have := h.el.len
      have := (List.getElem?_eq_some_iff.mp ha).1
      omega
    rw [List.getElem?_set_self il] at hz
    cases hz
    exact upd_same
  · rw [List.getElem?_set_ne c] at hz
    obtain ⟨zs', e1, e2⟩ := h.el.get hb
    rw [hz] at e1
    cases e1
    rw [upd_ne (nodup_ne h.nd hb ha (Ne.symm c))]
    exact e2
theorem LL.at {H0 H : Hp} {lo : Addr} {as : List Addr} {xss : List (List V)} {i : Nat} {xs : List V} (h : LL H0 H lo as xss) (hx : xss[i]? = some xs) : ∃ a, as[i]? = some a ∧ H a = some (.lst xs) ∧ H0 a = none := by
  obtain ⟨a, e1, e2⟩ := h.el.getR hx
  exact ⟨a, e1, e2, h.fr a (List.mem_of_getElem? e1)⟩
/-- a table -/
def tab (m size : Nat) (F : Nat → Nat → Int) : List (List Int) := (List.range m).map fun w => (List.range size).map fun k => F w k
theorem tab_congr {m size : Nat} {F G : Nat → Nat → Int} (h : ∀ w, w < m → ∀ k, k < size → F w k = G w k) : tab m size F = tab m size G := by
  unfold tab
  apply List.map_congr_left
  intro w hw
  apply List.map_congr_left
  intro k hk
  exact h w (List.mem_range.mp hw) k (List.mem_range.mp hk)
theorem tab_get {m size w : Nat} {F : Nat → Nat → Int} (h : w < m) : (tab m size F)[w]? = some ((List.range size).map fun k => F w k) := by
  unfold tab
  rw [List.getElem?_map, List.getElem?_range h]
  rfl
theorem tab_set {m size w k : Nat} {F : Nat → Nat → Int} {x : Int} (hw : w < m) (hk : k < size) : (tab m size F).set w (((List.range size).map fun k => F w k).set k x) = tab m size (fun w' k' => if w' = w ∧ k' = k then x else F w' k') := by
  apply List.ext_getElem?
  intro i
  by_cases c : w = i
  · subst c
    rw [List.getElem?_set_self (by simp [tab]; exact hw), tab_get hw]
    congr 1
    apply List.ext_getElem?
    intro j
    by_cases d : k = j
    · subst d
      rw [List.getElem?_set_self (by simpa using hk), List.getElem?_map, List.getElem?_range hk]
      simp
    · rw [List.getElem?_set_ne d, List.getElem?_map, List.getElem?_map]
      cases e : (List.range size)[j]? with
      | none => rfl
      | some y =>
        have : y = j := by
          obtain ⟨h1, h2⟩ := List.getElem?_eq_some_iff.mp e
          simpa using h2.symm
        subst this
        simp [Ne.symm d]
  · rw [List.getElem?_set_ne c]
    by_cases d : i < m
    · rw [tab_get d, tab_get d]
      congr 1
      apply List.map_congr_left
      intro k' _
      rw [if_neg (fun z => c z.1.symm)]
    · rw [List.getElem?_eq_none (by simp [tab]; omega), List.getElem?_eq_none (by simp [tab]; omega)]
theorem ints_map (xs : List Int) (k : Nat) (x : Int) : (xs.map V.int).set k (.int x) = (xs.set k x).map V.int := by rw [List.map_set]
theorem OkRow.lt {rds : List Road} {wis : List Wi} {r : Row} (h : OkRow rds wis r) : r.num < wis.length ∧ ∀ k ∈ r.w, k < rds.length := by
  obtain ⟨w, e, h, _⟩ := h
  refine ⟨(List.getElem?_eq_some_iff.mp e).1, ?_⟩
  rcases h with ⟨_, ch⟩ | ⟨_, v, ch⟩
  · exact ch.lt
  · exact ch.lt
theorem bring_succ {w k : Nat} {ps : List (Row × Int)} {i : Nat} {r : Row} {x : Int} (h : ps[i]? = some (r, x)) : bring w k (ps.take (i + 1)) = bring w k (ps.take i) + if r.num = w then x * (r.w.count k : Int) else 0 := by
  unfold bring
  rw [List.take_add_one, h, List.map_append, List.sum_append]
  simp
theorem rd__law_flows (h : spFlows K vs H Q E) : t__law_flows K (EN Q) (start ["_law_rows_here", "_law_amounts_here", "_law_many_here", "_law_size", "_law_flows_here", "_law_row", "_law_amount", "_law_k"] vs) H := by
  obtain ⟨lo, lm, ovs, rows, ams, m, size, rds, wis, rfl, So, ao, Sm', lam, okr, em, es, m3, s12, q⟩ := h
  show t__law_flows K (EN Q) [some (.ref lo), some (.ref lm), some (.int m), some (.int size), none, none, none, none] H
  refine s_seq ?_
  refine s_asg ?_
  refine s_comp (σ' := [none, some (.int size)]) rfl ?_
  walk_at "rd"
  refine s_jR1 (by omega) ?_
  intro acc na
  rw [show ((m : Int)).toNat = m by omega]
  have lov := ao.len
  refine compR (fun i σ H' => (∃ v, σ = [v, some (.int size)]) ∧ Same H H' ∧ ∃ as, LL H H' acc as (List.replicate i (List.replicate size (.int 0)))) ⟨⟨_, rfl⟩, Same.new na, [], upd_same, by simp, by simp, (fun a ha => by cases ha), .nil⟩ ?_ ?_
  · rintro i σ H1 hi ⟨⟨v, rfl⟩, s1, as, L⟩
    refine s_gn (σ' := [some (.int (0 + i)), some (.int size)]) rfl ?_
    refine blkN ?_
    walk_at "rd"
    refine s_al ln1 fun p1 H2 s2 e2 => ?_
    walk_at "rd"
    refine s_rep e2 (by omega) fun p2 H3 n3 s3 e3 => ?_
    have s13 := Same.trans s2 s3
    have L3 := L.same s13
    have lal : as.length = i := by rw [L.el.len]; simp
    have n2H : H p2 = none := s1.free (s2.free n3)
    have np : p2 ∉ as := fun z => by
      obtain ⟨xs, _, ex⟩ := L.el.memL z
      rw [s2 _ _ ex] at n3
      cases n3
    have na2 : p2 ≠ acc := fun z => by
      subst z
      rw [s2 _ _ L.out] at n3
      cases n3
    refine ⟨_, L3.out, ?_, ⟨_, rfl⟩, (Same.trans s1 s13).updN na, as ++ [p2], ?_⟩
    · rw [List.length_map]
      exact Nat.lt_of_le_of_lt (show as.length ≤ 3 by omega) (by decide)
    · refine ⟨by rw [upd_same, List.map_append]; rfl, ?_, ?_, fun a ha => ?_, ?_⟩
      · rw [List.nodup_append]
        refine ⟨L.nd, by simp, fun a ha b hb => ?_⟩
        rw [List.mem_singleton.mp hb]
        exact fun z => np (z ▸ ha)
      · intro z
        rcases List.mem_append.mp z with z | z
        · exact L.nlo z
        · exact na2 (List.mem_singleton.mp z).symm
      · rcases List.mem_append.mp ha with ha | ha
        · exact L.fr a ha
        · rw [List.mem_singleton.mp ha]
          exact n2H
      · rw [List.replicate_succ']
        refine All2.push (all2_memL (fun a xs ha z => ?_) L3.el) ?_
        · have nz : a ≠ acc := fun zz => L.nlo (by rw [← zz]; exact ha)
          rw [upd_ne nz]
          exact z
        · rw [upd_ne na2]
          exact e3
  · rintro σ H1 ⟨_, s1, as, L⟩
    have e0 : List.replicate m (List.replicate size (V.int 0)) = (tab m size fun w k => bring w k ((rows.zip ams).take 0)).map fun xs => xs.map V.int := by
      unfold tab bring
      simp only [List.take_zero, List.map_nil, List.sum_nil, List.map_map]
      apply List.ext_getElem
      · simp
      · intro i h1 h2
        simp
        apply List.ext_getElem
        · simp
        · intro j h3 h4
          simp
    rw [e0] at L
    have So1 := s1.seq So
    have Sm1 := s1.seq Sm'
    walk_at "rd"
    refine for_zip (xs := ovs) (ys := ams.map V.int) (by rw [List.length_map]; omega) (fun i σ H' => (∃ v5 v6 v7, σ = [some (.ref lo), some (.ref lm), some (.int m), some (.int size), some (.ref acc), v5, v6, v7]) ∧ Same H H' ∧ LL H H' acc as ((tab m size fun w k => bring w k ((rows.zip ams).take i)).map fun xs => xs.map V.int))
      ⟨⟨_, _, _, rfl⟩, s1, L⟩ ?_ ?_ ?_
    · rintro i σ H2 _ ⟨_, s2, _⟩
      exact ⟨s2.seq So, s2.seq Sm'⟩
    · clear L So1 Sm1 s1
      rintro i x y tt σ H2 H3 hx hy ⟨⟨v5, v6, v7, rfl⟩, s2, L⟩ s3 et
      obtain ⟨r, er, p, ap, rfl, hp, hap⟩ := ao.get hx
      rw [List.getElem?_map] at hy
      obtain ⟨am, eam, rfl⟩ := Option.map_eq_some_iff.mp hy
      obtain ⟨rn, rk⟩ := (okr r (List.mem_of_getElem? er)).lt
      have s03 := Same.trans s2 s3
      have L3 := L.same s3
      refine s_gt2 (SqT.of et) rfl ?_
      dsimp only [List.set]
      have Sp := SqT.of (K := K) (s03 _ _ hp)
      have Sap := SqL.of (K := K) (s03 _ _ hap)
      walk_at "rd"
      refine for_list (xs := r.w.map fun (i : Nat) => V.int i) (fun j σ H' => (∃ v7, σ = [some (.ref lo), some (.ref lm), some (.int m), some (.int size), some (.ref acc), some (.ref p), some (.int am), v7]) ∧ Same H H' ∧ LL H H' acc as ((tab m size fun w k => bring w k ((rows.zip ams).take i) + if r.num = w then am * ((r.w.take j).count k : Int) else 0).map fun xs => xs.map V.int))
        ⟨⟨_, rfl⟩, s03, by simpa using L3⟩ ?_ ?_ ?_
      · rintro j σ H4 _ ⟨_, s4, _⟩
        exact SqL.of (s4 _ _ hap)
      · rintro j x σ H4 hx4 ⟨⟨v7, rfl⟩, s4, L4⟩
        rw [List.getElem?_map] at hx4
        obtain ⟨k, ek, rfl⟩ := Option.map_eq_some_iff.mp hx4
        have kl := rk k (List.mem_of_getElem? ek)
        refine s_gn (σ' := [some (.ref lo), some (.ref lm), some (.int m), some (.int size), some (.ref acc), some (.ref p), some (.int am), some (.int (k : Int))]) rfl ?_
        dsimp only
        have Sp4 := SqT.of (K := K) (s4 _ _ hp)
        have So4 := SqL.of (K := K) L4.out
        obtain ⟨FF, eFF⟩ : ∃ FF : Nat → Nat → Int, FF = fun w k => bring w k ((rows.zip ams).take i) + if r.num = w then am * ((r.w.take j).count k : Int) else 0 := ⟨_, rfl⟩
        rw [← eFF] at L4
        have tg : ((tab m size FF).map fun xs => xs.map V.int)[r.num]? = some (((List.range size).map fun k => FF r.num k).map V.int) := by
          rw [List.getElem?_map, tab_get (by omega)]
          rfl
        obtain ⟨aw, eaw, haw, naw⟩ := L4.at tg
        have ixa : atI (as.map V.ref) (r.num : Int) = some (.ref aw) := atI_nat (by rw [List.getElem?_map, eaw]; rfl)
        have gk : (((List.range size).map fun k => FF r.num k).map V.int)[k]? = some (.int (FF r.num k)) := by
          rw [List.getElem?_map, List.getElem?_map, List.getElem?_range (by omega)]
          rfl
        walk_at "rd"
        refine s_ixSL So4 ixa ?_
        walk_at "rd"
        refine s_ixL (SqL.of haw) (atI_nat gk) ?_
        walk_at "rd"
        refine s_setL (k := k) haw (by simp; omega) ?_
        refine ⟨⟨_, rfl⟩, s4.updN naw, ?_⟩
        have L5 := L4.set (ys := (((List.range size).map fun k => FF r.num k).map V.int).set k (.int (FF r.num k + am))) eaw
        have e5 : ((tab m size FF).map fun xs => xs.map V.int).set r.num ((((List.range size).map fun k => FF r.num k).map V.int).set k (.int (FF r.num k + am))) = (tab m size fun w k => bring w k ((rows.zip ams).take i) + if r.num = w then am * ((r.w.take (j + 1)).count k : Int) else 0).map fun xs => xs.map V.int := by
          rw [ints_map, ← List.map_set (f := fun xs : List Int => xs.map V.int), tab_set (by omega) (by omega)]
          congr 1
          apply tab_congr
          intro w' hw' k' hk'
          have tk : r.w.take (j + 1) = r.w.take j ++ [k] := by rw [List.take_add_one, ek]; rfl
          rw [tk, List.count_append, eFF]
          by_cases c1 : w' = r.num
          · subst c1
            by_cases c2 : k' = k
            · subst c2
              simp
              rw [Int.mul_add]
              omega
            · rw [if_neg (fun z => c2 z.2)]
              have : List.count k' [k] = 0 := by simp [Ne.symm c2]
              rw [this]
              simp
          · rw [if_neg (fun z => c1 z.1)]
            have c1' : ¬ r.num = w' := fun z => c1 z.symm
            simp [c1']
        rw [e5] at L5
        exact L5
      · rintro σ H4 ⟨⟨v7, rfl⟩, s4, L4⟩
        rw [List.length_map, List.take_length] at L4
        refine ⟨⟨_, _, _, rfl⟩, s4, ?_⟩
        have e6 : (tab m size fun w k => bring w k ((rows.zip ams).take (i + 1))) = tab m size fun w k => bring w k ((rows.zip ams).take i) + if r.num = w then am * (r.w.count k : Int) else 0 := by
          apply tab_congr
          intro w _ k _
          exact bring_succ (zip_get er eam)
        rw [e6]
        exact L4
    · rintro σ H2 ⟨⟨v5, v6, v7, rfl⟩, s2, L⟩
      rw [List.take_of_length_le (by rw [List.length_zip]; omega)] at L
      walk_at "rd"
      refine q acc _ H2 s2 L.out (all2_of (by rw [List.length_map, List.length_map, List.length_range, L.el.len]; simp [tab]) fun i v xs hv hx => ?_)
      rw [List.getElem?_map] at hv
      obtain ⟨a', ea', rfl⟩ := Option.map_eq_some_iff.mp hv
      obtain ⟨ys, ey, hy⟩ := L.el.get ea'
      refine ⟨a', rfl, ?_⟩
      rw [hy]
      congr 2
      have e7 : ((tab m size fun w k => bring w k (rows.zip ams)).map fun xs => xs.map V.int)[i]? = some (xs.map V.int) := by
        rw [List.getElem?_map]
        have : (tab m size fun w k => bring w k (rows.zip ams))[i]? = some xs := hx
        rw [this]
        rfl
      rw [ey] at e7
      exact Option.some.inj e7
end KC

end

section
set_option maxHeartbeats 4000000
namespace KC
open PySem L2 Fr Cnt
local macro_rules | `(tactic| walk_at "rd1") => `(tactic| first | ((with_reducible refine' s_set2 ?hs ?_); (case hs => ((simp only [List.set_cons_succ, List.set_cons_zero]) <;> exact rfl))) | ((with_reducible refine' s_set ?hs ?_); (case hs => ((simp only [List.set_cons_succ, List.set_cons_zero]) <;> exact rfl))) | (with_reducible refine s_seq ?_) | (with_reducible refine s_asg ?_) | (with_reducible refine s_if ?_) | (with_reducible refine s_asgG ?_) | (with_reducible refine s_gsub ?_) | (with_reducible refine s_sl ?_) | (with_reducible refine s_noPart ?_) | (with_reducible refine s_part ?_) | (with_reducible refine s_exI ?_) | (with_reducible refine s_ret ?_) | (with_reducible refine s_op ?_) | (with_reducible refine s_c ?_) | (with_reducible refine s_cons ?_) | (with_reducible refine s_nil ?_) | (with_reducible refine s_call ?_) | (with_reducible refine s_cb ?_) | (with_reducible refine s_test ?_) | (with_reducible refine s_b ?_) | (with_reducible refine s_and ?_) | (with_reducible refine s_or ?_) | (with_reducible refine s_not ?_) | (with_reducible refine s_andV ?_) | (with_reducible refine s_orV ?_) | (with_reducible refine s_notV ?_) | (with_reducible refine s_ifx ?_) | (with_reducible refine s_chain ?_) | (with_reducible refine s_un ?_) | (with_reducible refine s_tup ?_) | (with_reducible refine s_lst ?_) | (with_reducible refine s_drop ?_) | (with_reducible refine s_retN ?_) | (with_reducible refine s_next ?_) | (with_reducible refine s_break ?_) | (with_reducible refine s_cont ?_) | (with_reducible refine s_par ?_) | ((with_reducible refine' s_var ?hv ?_); (case hv => exact rfl)) | (with_reducible refine s_bl ?_) | (with_reducible refine s_rI0 ?_) | (with_reducible refine s_eqI ?_) | (with_reducible refine s_neI ?_) | (with_reducible refine s_eqB ?_) | (with_reducible refine s_rU ?_) | (with_reducible refine s_eqAI ?_) | (with_reducible refine s_neAI ?_) | (with_reducible refine s_eqAB ?_) | (with_reducible refine s_addI ?_) | ((with_reducible refine' s_ixST ?hq ?he ?_); (case hq => assumption); (case he => exact rfl)) | ((with_reducible refine' s_ixSL ?hq ?he ?_); (case hq => assumption); (case he => exact rfl)) | ((with_reducible refine' s_abs1 ?_)) | ((with_reducible refine' s_lenL ?hq ?_); (case hq => assumption)) | ((with_reducible refine' s_lenT ?hq ?_); (case hq => assumption)) | (with_reducible refine s_isN ?_) | (with_reducible refine s_for ?_) | (with_reducible refine s_iList ?_) | (with_reducible refine s_iTup ?_) | (with_reducible refine s_iR1 ?_) | (with_reducible refine s_iR2 ?_) | (with_reducible refine s_iEnum ?_) | (with_reducible refine s_iZip ?_) | ((with_reducible refine' s_jList ?hq ?_); (case hq => assumption)) | ((with_reducible refine' s_jTup ?hq ?_); (case hq => assumption)) | ((with_reducible refine' s_jEnum ?hq ?_); (case hq => assumption)) | ((with_reducible refine' s_jZip ?hq ?hr ?_); (case hq => assumption); (case hr => assumption)) | ((with_reducible refine' s_aug ?hv ?_); (case hv => exact rfl)) | (with_reducible refine s_augS ?_) | (with_reducible refine s_ipI ?_) | (with_reducible refine s_int1 ?_) | (with_reducible refine s_bm ?_) | (with_reducible refine s_bm0 ?_) | ((with_reducible refine' s_tyL ?hq ?_); (case hq => assumption)) | (with_reducible refine s_notN ?_) | (with_reducible refine s_min2 ?_) | (with_reducible refine s_max2 ?_) | (with_reducible refine s_nx ?_) | (with_reducible refine s_rt ?_) | (with_reducible refine s_bk ?_) | (with_reducible refine s_ct ?_) | (with_reducible refine iteT ?_) | (with_reducible refine iteNt ?_) | (with_reducible refine iteNf ?_) | ((with_reducible refine iteN ?hz ?_); (case hz => exact rfl)) | ((with_reducible refine iteY ?hz ?_); (case hz => exact rfl)) | (with_reducible refine iteF ?_) | ((with_reducible refine' s_ixT ?hq ?he ?_); (case hq => assumption); (case he => exact rfl)) | ((with_reducible refine' s_ixL ?hq ?he ?_); (case hq => assumption); (case he => exact rfl)) | ((with_reducible refine s_rI ?hc ?_); (case hc => first | assumption | exact mulOk (by assumption) (by assumption) | exact (show (0 : Int) < _ by decide) | omega)))
local macro_rules | `(tactic| walk_at "rd") => `(tactic| repeat walk_at "rd1")
variable {K : PySem.W.Frag} {c : Cs} {H : Hp} {vs : List V} {Q : VK} {E : XK}
theorem sz4 {x : Int} (h0 : 0 < x) (h : x ≤ 12) : Sz 4 x := by
  show x.natAbs < 2 ^ 4
  omega
theorem sz63 {x : Int} (h0 : 0 ≤ x) (h : x ≤ 2 ^ 62) : Sz 63 x := by
  show x.natAbs < 2 ^ 63
  omega
theorem sz95 {x : Int} (h0 : 0 ≤ x) (h : x ≤ 2 ^ 93) : Sz 95 x := by
  show x.natAbs < 2 ^ 95
  omega
theorem sz_bd {x : Int} (h : Sz 350 x) : -(2 ^ 350) ≤ x ∧ x ≤ 2 ^ 350 := by
  have h : x.natAbs < 2 ^ 350 := h
  omega
theorem loads_len {n : Nat} {fls : List (List Int)} : (loads n fls).length = n := by simp [loads]
theorem getD_bd {f : List Int} {k : Nat} {M : Int} (M0 : 0 ≤ M) (h : ∀ x ∈ f, 0 ≤ x ∧ x ≤ M) : 0 ≤ f.getD k 0 ∧ f.getD k 0 ≤ M := by
  by_cases c : k < f.length
  · have e : f.getD k 0 = f[k] := by rw [List.getD_eq_getElem?_getD, List.getElem?_eq_getElem c]; rfl
    rw [e]
    exact h _ (List.getElem_mem c)
  · have e : f.getD k 0 = 0 := by rw [List.getD_eq_getElem?_getD, List.getElem?_eq_none (by omega)]; rfl
    rw [e]
    exact ⟨Int.le_refl _, M0⟩
theorem sum_nn {M : Int} : ∀ {xs : List Int}, (∀ x ∈ xs, 0 ≤ x ∧ x ≤ M) → 0 ≤ xs.sum ∧ xs.sum ≤ M * xs.length
  | [], _ => by simp
  | x :: xs, h => by
    have ih := sum_nn (xs := xs) fun y hy => h y (List.mem_cons_of_mem _ hy)
    have hx := h x (by simp)
    rw [List.sum_cons, List.length_cons]
    push_cast
    rw [Int.mul_add, Int.mul_one]
    omega
theorem loads_bd {n : Nat} {size : Nat} {fls : List (List Int)} (h : OkF size fls) : OkL (loads n fls) := fun x hx => by
  obtain ⟨k, _, rfl⟩ := List.mem_map.mp hx
  have b := sum_nn (M := 2 ^ 90) (xs := fls.map fun f => f.getD k 0) fun y hy => by
    obtain ⟨f, hf, rfl⟩ := List.mem_map.mp hy
    exact getD_bd (by decide) (h.2 f hf).2
  rw [List.length_map] at b
  have l3 := h.1
  have : (2 ^ 90 : Int) * (fls.length : Int) ≤ 2 ^ 90 * 3 := Int.mul_le_mul_of_nonneg_left (by omega) (by decide)
  exact ⟨b.1, by omega⟩
theorem rd_load_list (h : spLoads K vs H Q E) : t_load_list K (EN Q) (start ["net", "share", "loads", "number"] vs) H := by
  obtain ⟨lo, B, nv, ls, n, rvs, svs, rds, fls, rfl, lo0, lo6, b0, b6, ⟨pn, lr, rfl, Sn, Sr, alr⟩, Ss, as, okF, l12, q⟩ := h
  obtain ⟨f3, okf⟩ := id okF
  show t_load_list K (EN Q) [some (.ref pn), some (.ref ls), none, none] H
  walk_at "rd"
  refine s_alN ln0 fun lw H1 nl s1 e1 => ?_
  have Sn1 := s1.tup Sn
  have Sr1 := s1.seq Sr
  have lrv := alr.len
  have lsv := as.len
  walk_at "rd"
  refine s_jR1 (by omega) ?_
  rw [show ((rvs.length : Int)).toNat = rvs.length by omega]
  refine for_range (fun i σ H' => (∃ v3, σ = [some (.ref pn), some (.ref ls), some (.ref lw), v3]) ∧ Same H H' ∧ ∃ ws, H' lw = some (.lst ws) ∧ All2 (FrB K B H') ws (loads i fls)) ⟨⟨_, rfl⟩, s1, [], e1, .nil⟩ ?_ ?_
  · rintro i σ H2 hi ⟨⟨v3, rfl⟩, s2, ws, ew, aw⟩
    rw [show (0 : Int) + (i : Int) = (i : Int) from Int.zero_add _]
    refine s_gn (σ' := [some (.ref pn), some (.ref ls), some (.ref lw), some (.int (i : Int))]) rfl ?_
    dsimp only
    have Sw2 := SqL.of (K := K) ew
    have Ss2 := s2.seq Ss
    have lwl := aw.len
    rw [loads_len] at lwl
    walk_at "rd"
    refine s_comp (σ' := [none, some (.int (i : Int))]) rfl ?_
    walk_at "rd"
    intro acc na
    refine compL (xs := svs) (fun j σ H' => (∃ v, σ = [v, some (.int (i : Int))]) ∧ Same H2 H' ∧ ∃ fs, H' acc = some (.lst fs) ∧ All2 (FrB K B H') fs ((fls.take j).map fun f => f.getD i 0)) ⟨⟨_, rfl⟩, Same.new na, [], upd_same, .nil⟩ ?_ ?_ ?_
    · rintro j σ H3 _ ⟨_, s3, _⟩
      exact s3.seq Ss2
    · rintro j x σ H3 hx ⟨⟨v, rfl⟩, s3, fs, ef, af⟩
      obtain ⟨f, ej, a, us, rfl, Sa, av⟩ := as.get hx
      have lf := (okf f (List.mem_of_getElem? ej)).1
      have s03 := Same.trans s2 s3
      have jl : j < fls.length := (List.getElem?_eq_some_iff.mp ej).1
      have e0 : f[i]? = some (f.getD i 0) := by
        rw [List.getD_eq_getElem?_getD, List.getElem?_eq_getElem (by omega)]
        rfl
      obtain ⟨u, eu, fu⟩ := av.getR e0
      refine s_gn (σ' := [some (.ref a), some (.int (i : Int))]) rfl ?_
      refine blkN ?_
      walk_at "rd"
      refine s_ixSL (s03.seq Sa) (atI_nat eu) ?_
      have lfs := af.len
      rw [List.length_map, List.length_take] at lfs
      have t4 : Tups H3 (upd H3 acc (.lst (fs ++ [u]))) := Tups.lst ef
      refine ⟨fs, ef, Nat.lt_of_le_of_lt (show fs.length ≤ 3 by omega) (by decide), ⟨_, rfl⟩, s3.updN na, fs ++ [u], upd_same, ?_⟩
      rw [List.take_add_one, ej, List.map_append]
      exact All2.push (fr_mono t4 af) ((fu.mono s03.tups).mono t4)
    · rintro σ H3 ⟨_, s3, fs, ef, af⟩
      rw [lsv, List.take_length] at af
      have Sf3 := SqL.of (K := K) ef
      walk_at "rd"
      refine ⟨B, acc, fs, _, rfl, b0, (sz4 b0 (by omega)).mono (by decide), Sf3, af, by rw [List.length_map]; omega, fun x hx => ?_, fun v H4 s4 fv => ?_⟩
      · obtain ⟨f, hf, rfl⟩ := List.mem_map.mp hx
        have := getD_bd (k := i) (by decide) (okf f hf).2
        omega
      · have s24 := Same.trans s3 s4
        refine s_nil ?_
        refine s_app (s24 _ _ ew) (Nat.lt_of_le_of_lt (show ws.length ≤ 12 by omega) (by decide)) ?_
        have t5 : Tups H4 (upd H4 lw (.lst (ws ++ [v]))) := Tups.lst (s24 _ _ ew)
        refine ⟨⟨_, rfl⟩, (Same.trans s2 s24).updN nl, ws ++ [v], upd_same, ?_⟩
        have el : loads (i + 1) fls = loads i fls ++ [(fls.map fun f => f.getD i 0).sum] := by
          unfold loads
          rw [List.range_succ, List.map_append]
          rfl
        rw [el]
        exact fr_mono t5 ((fr_mono s24.tups aw).push fv)
  · rintro σ H2 ⟨⟨v3, rfl⟩, s2, ws, ew, aw⟩
    walk_at "rd"
    rw [lrv] at aw
    exact q lw ws H2 nl s2 ew aw
theorem twX {b l x lo B : Int} : (b * (lo * B) + l * x * lo) * (lo * B) = (b * B + l * x) * (lo * (lo * B)) := by
  have h1 : b * (lo * B) + l * x * lo = (b * B + l * x) * lo := by
    rw [Int.add_mul]
    congr 1
    ac_rfl
  rw [h1, Int.mul_assoc]
theorem rd_time_with (h : spTimeW K vs H Q E) : t_time_with K (EN Q) (start ["road", "load"] vs) H := by
  obtain ⟨lo, B, rv, lv, r, x, rfl, lo0, lo6, b0, b6, ⟨p, v1, v2, rfl, hp, f1, f2⟩, fx, ⟨b1, b2, l1, l2⟩, ⟨x0, x1⟩, q⟩ := h
  show t_time_with K (EN Q) [some (.ref p), some lv] H
  have Sp := SqT.of (K := K) hp
  have zl := sz4 lo0 (by omega)
  have zB := sz4 b0 b6
  walk_at "rd"
  refine ⟨lo, B, _, _, _, _, rfl, lo0, b0, f2, fx, ⟨zl.mono (by decide), zB.mono (by decide), (sz63 l1 l2).mono (by decide), (sz95 x0 x1).mono (by decide)⟩, fun v H1 s1 fv => ?_⟩
  walk_at "rd"
  have p1 := Int.mul_pos lo0 b0
  refine ⟨lo, lo * B, _, _, _, _, rfl, lo0, p1, f1.mono s1.tups, fv, ⟨zl.mono (by decide), (zl.mul zB).mono (by decide), (sz63 b1 b2).mono (by decide), ((sz63 l1 l2).mul (sz95 x0 x1)).mono (by decide)⟩, fun u H2 s2 fu => ?_⟩
  walk_at "rd"
  exact q u H2 (Same.trans s1 s2) (fu.cross (Int.mul_pos lo0 p1) twX)
/-- a block over the roads and what goes along them -/
theorem zipcomp {lo B C : Int} {lr lw acc : Addr} {rvs ws : List V} {rds : List Road} {xs : List Int} {te : TE} {g : Road → Int → Int} (Sr : SqL K H lr rvs) (alr : All2 (RtV K lo H) rvs rds) (Sw : SqL K H lw ws) (aw : All2 (FrB K B H) ws xs) (len : rds.length = xs.length) (l12 : rds.length ≤ 12) (na : H acc = none)
    (step : ∀ (r : Road) (x : Int) (rv lv : V) (H1 : Hp) (P : VK), r ∈ rds → x ∈ xs → RtV K lo H1 rv r → FrB K B H1 lv x → (∀ v H2, Same H1 H2 → FrB K C H2 v (g r x) → P v H2) → te [some rv, some lv] H1 P)
    (q : ∀ ts H', Same H H' → H' acc = some (.lst ts) → All2 (FrB K C H') ts ((rds.zip xs).map fun p => g p.1 p.2) → Q (.ref acc) H') :
    CompW (Itz K lr lw) acc (gTup K 2 (gCons (gName 0) (gCons (gName 1) gNil))) tNoIf te [none, none] H Q := by
  have l1 := alr.len
  have l2 := aw.len
  refine compZ (xs := rvs) (ys := ws) (by omega) (fun i σ H' => (∃ v0 v1, σ = [v0, v1]) ∧ Same H H' ∧ ∃ ts, H' acc = some (.lst ts) ∧ All2 (FrB K C H') ts (((rds.zip xs).take i).map fun p => g p.1 p.2)) ⟨⟨_, _, rfl⟩, Same.new na, [], upd_same, .nil⟩ ?_ ?_ ?_
  · rintro i σ H1 _ ⟨_, s1, _⟩
    exact ⟨s1.seq Sr, s1.seq Sw⟩
  · rintro i x y t σ H1 H2 hx hy ⟨⟨v0, v1, rfl⟩, s1, ts, et, ats⟩ s2 ett
    obtain ⟨r, er, fr⟩ := alr.get hx
    obtain ⟨z, ez, fz⟩ := aw.get hy
    have s02 := Same.trans s1 s2
    have il : i < rds.length := (List.getElem?_eq_some_iff.mp er).1
    refine s_gt2 (σ' := [some x, some y]) (SqT.of ett) rfl ?_
    refine blkN ?_
    refine step r z x y H2 _ (List.mem_of_getElem? er) (List.mem_of_getElem? ez) (fr.mono s02.tups) (fz.mono s02.tups) fun v H3 s3 fv => ?_
    have lts := ats.len
    rw [List.length_map, List.length_take] at lts
    have s13 := Same.trans s2 s3
    have t4 : Tups H3 (upd H3 acc (.lst (ts ++ [v]))) := Tups.lst (s13 _ _ et)
    refine ⟨ts, s13 _ _ et, Nat.lt_of_le_of_lt (show ts.length ≤ 12 by omega) (by decide), ⟨_, _, rfl⟩, (Same.trans s1 s13).updN na, ts ++ [v], upd_same, ?_⟩
    rw [List.take_add_one, zip_get er ez, List.map_append]
    exact fr_mono t4 ((fr_mono s13.tups ats).push fv)
  · rintro σ H1 ⟨_, s1, ts, et, ats⟩
    rw [List.take_of_length_le (by rw [List.length_zip]; omega)] at ats
    exact q ts H1 s1 et ats
theorem rd_road_times (h : spTimes K vs H Q E) : t_road_times K (EN Q) (start ["net", "share"] vs) H := by
  obtain ⟨lo, B, nv, ls, n, rvs, svs, rds, fls, rfl, lo0, lo6, b0, b6, ⟨pn, lr, rfl, Sn, Sr, alr⟩, Ss, as, okf, l12, okb, q⟩ := h
  show t_road_times K (EN Q) [some (.ref pn), some (.ref ls)] H
  refine s_ret ?_
  refine s_comp (σ' := [none, none]) rfl ?_
  walk_at "rd"
  refine ⟨lo, B, _, ls, n, rvs, svs, rds, fls, rfl, lo0, lo6, b0, b6, ⟨pn, lr, rfl, Sn, Sr, alr⟩, Ss, as, okf, l12, fun lw ws H1 nw s1 ew aw => ?_⟩
  have Sr1 := s1.seq Sr
  have Sw1 := SqL.of (K := K) ew
  walk_at "rd"
  intro acc na
  have okl := loads_bd (n := rds.length) okf
  refine zipcomp (g := fun r x => r.b * B + r.l * x) Sr1 (alr.imp fun _ _ z => z.mono s1.tups) Sw1 aw loads_len.symm l12 na (fun r x rv lv H2 P hr hx fr fx k => ?_) fun ts H2 s2 et ats => q acc ts H2 (s1.free na) (Same.trans s1 s2) et ats
  walk_at "rd"
  exact ⟨lo, B, rv, lv, r, x, rfl, lo0, lo6, b0, by omega, fr, fx, okb r hr, ⟨(okl x hx).1, by have := (okl x hx).2; omega⟩, k⟩
theorem two1 {aT : Addr} (hN : ∀ H, Rp K H (.ref aT) (.tuple [.int 2, .int 1])) (H : Hp) : FrB K 1 H (.ref aT) 2 := ⟨2, 1, const2 hN H, by decide, by decide, by decide⟩
theorem half1 {aH : Addr} (hN : ∀ H, Rp K H (.ref aH) (.tuple [.int 1, .int 2])) (H : Hp) : FrB K 2 H (.ref aH) 1 := ⟨1, 2, const2 hN H, by decide, by decide, by decide⟩
theorem rd_dear_times {aT : Addr} (hN : ∀ H, Rp K H (.ref aT) (.tuple [.int 2, .int 1])) (h : spDear K vs H Q E) : t_dear_times K aT (EN Q) (start ["net", "share"] vs) H := by
  obtain ⟨lo, B, nv, ls, n, rvs, svs, rds, fls, rfl, lo0, lo6, b0, b6, ⟨pn, lr, rfl, Sn, Sr, alr⟩, Ss, as, okf, l12, okb, q⟩ := h
  show t_dear_times K aT (EN Q) [some (.ref pn), some (.ref ls)] H
  refine s_ret ?_
  refine s_comp (σ' := [none, none]) rfl ?_
  walk_at "rd"
  refine ⟨lo, B, _, ls, n, rvs, svs, rds, fls, rfl, lo0, lo6, b0, b6, ⟨pn, lr, rfl, Sn, Sr, alr⟩, Ss, as, okf, l12, fun lw ws H1 nw s1 ew aw => ?_⟩
  have Sr1 := s1.seq Sr
  have Sw1 := SqL.of (K := K) ew
  walk_at "rd"
  intro acc na
  have okl := loads_bd (n := rds.length) okf
  refine zipcomp (g := fun r x => r.b * B + r.l * (2 * x)) Sr1 (alr.imp fun _ _ z => z.mono s1.tups) Sw1 aw loads_len.symm l12 na (fun r x rv lv H2 P hr hx fr fx k => ?_) fun ts H2 s2 et ats => q acc ts H2 (s1.free na) (Same.trans s1 s2) et ats
  obtain ⟨x0, x1⟩ := okl x hx
  walk_at "rd"
  refine ⟨1, B, _, _, _, _, rfl, by decide, b0, two1 hN H2, fx, ⟨(by decide : (1 : Int).natAbs < 2 ^ 400), (sz4 b0 (by omega)).mono (by decide), (by decide : (2 : Int).natAbs < 2 ^ 400), (sz95 x0 (by omega)).mono (by decide)⟩, fun v H3 s3 fv => ?_⟩
  walk_at "rd"
  refine ⟨lo, B, rv, v, r, 2 * x, rfl, lo0, lo6, b0, by omega, fr.mono s3.tups, fv.cross (by omega) (by rw [Int.one_mul]), okb r hr, ⟨by omega, by omega⟩, fun u H4 s4 fu => k u H4 (Same.trans s3 s4) fu⟩
theorem rd_sum_of_times (h : spTot K vs H Q E) : t_sum_of_times K (EN Q) (start ["net", "share", "loads"] vs) H := by
  obtain ⟨lo, B, nv, ls, n, rvs, svs, rds, fls, rfl, lo0, lo6, b0, b6, ⟨pn, lr, rfl, Sn, Sr, alr⟩, Ss, as, okf, l12, okb, q⟩ := h
  show t_sum_of_times K (EN Q) [some (.ref pn), some (.ref ls), none] H
  walk_at "rd"
  refine ⟨lo, B, _, ls, n, rvs, svs, rds, fls, rfl, lo0, lo6, b0, b6, ⟨pn, lr, rfl, Sn, Sr, alr⟩, Ss, as, okf, l12, fun lw ws H1 nw s1 ew aw => ?_⟩
  have Sn1 := s1.tup Sn
  have Sr1 := s1.seq Sr
  have Sw1 := SqL.of (K := K) ew
  have zl := sz4 lo0 (by omega)
  have zB := sz4 b0 (by omega)
  have pl := Int.mul_pos lo0 b0
  have zlB := zl.mul zB
  walk_at "rd"
  refine s_comp (σ' := [none, none]) rfl ?_
  walk_at "rd"
  intro acc na
  have okl := loads_bd (n := rds.length) okf
  have big : ∀ (r : Road) (x : Int), r ∈ rds → 0 ≤ x → x ≤ 2 ^ 93 → Sz 161 (r.b * B + r.l * x) := fun r x hr x0 x1 => by
    obtain ⟨b1, b2, l1, l2⟩ := okb r hr
    exact Sz.add (n := 160) (((sz63 b1 b2).mul zB).mono (by decide)) (((sz63 l1 l2).mul (sz95 x0 x1)).mono (by decide))
  refine zipcomp (C := B * (lo * B)) (g := fun r x => x * (r.b * B + r.l * x)) Sr1 (alr.imp fun _ _ z => z.mono s1.tups) Sw1 aw loads_len.symm l12 na (fun r x rv lv H2 P hr hx fr fx k => ?_) fun ts H2 s2 et ats => ?_
  · obtain ⟨x0, x1⟩ := okl x hx
    walk_at "rd"
    refine ⟨lo, B, rv, lv, r, x, rfl, lo0, lo6, b0, by omega, fr, fx, okb r hr, ⟨x0, by omega⟩, fun v H3 s3 fv => ?_⟩
    walk_at "rd"
    exact ⟨B, lo * B, lv, v, x, _, rfl, b0, pl, fx.mono s3.tups, fv, ⟨zB.mono (by decide), zlB.mono (by decide), (sz95 x0 (by omega)).mono (by decide), (big r x hr x0 (by omega)).mono (by decide)⟩, fun u H4 s4 fu => k u H4 (Same.trans s3 s4) fu⟩
  · walk_at "rd"
    refine ⟨B * (lo * B), acc, ts, _, rfl, Int.mul_pos b0 pl, (zB.mul zlB).mono (by decide), SqL.of et, ats, by rw [List.length_map, List.length_zip]; omega, fun y hy => ?_, fun v H3 s3 fv => ?_⟩
    · obtain ⟨⟨r, x⟩, hp, rfl⟩ := List.mem_map.mp hy
      obtain ⟨hr, hx⟩ := List.of_mem_zip hp
      obtain ⟨x0, x1⟩ := okl x hx
      exact sz_bd (((sz95 x0 (by omega)).mul (big r x hr x0 (by omega))).mono (by decide))
    · walk_at "rd"
      exact q v H3 (Same.trans s1 (Same.trans s2 s3)) fv
theorem rd_told_number {aH : Addr} (hN : ∀ H, Rp K H (.ref aH) (.tuple [.int 1, .int 2])) (h : spToldN K vs H Q E) : t_told_number K aH (EN Q) (start ["net", "share", "loads"] vs) H := by
  obtain ⟨lo, B, nv, ls, n, rvs, svs, rds, fls, rfl, lo0, lo6, b0, b6, ⟨pn, lr, rfl, Sn, Sr, alr⟩, Ss, as, okf, l12, okb, q⟩ := h
  show t_told_number K aH (EN Q) [some (.ref pn), some (.ref ls), none] H
  walk_at "rd"
  refine ⟨lo, B, _, ls, n, rvs, svs, rds, fls, rfl, lo0, lo6, b0, b6, ⟨pn, lr, rfl, Sn, Sr, alr⟩, Ss, as, okf, l12, fun lw ws H1 nw s1 ew aw => ?_⟩
  have Sn1 := s1.tup Sn
  have Sr1 := s1.seq Sr
  have Sw1 := SqL.of (K := K) ew
  have b20 : 0 < 2 * B := by omega
  have zl := sz4 lo0 (by omega)
  have zB := sz4 b0 (by omega)
  have z2B := sz4 b20 (by omega)
  have pl := Int.mul_pos lo0 b20
  have zlB := zl.mul z2B
  walk_at "rd"
  refine s_comp (σ' := [none, none]) rfl ?_
  walk_at "rd"
  intro acc na
  have okl := loads_bd (n := rds.length) okf
  have big : ∀ (r : Road) (x : Int), r ∈ rds → 0 ≤ x → x ≤ 2 ^ 93 → Sz 161 (r.b * (2 * B) + r.l * x) := fun r x hr x0 x1 => by
    obtain ⟨b1, b2, l1, l2⟩ := okb r hr
    exact Sz.add (n := 160) (((sz63 b1 b2).mul z2B).mono (by decide)) (((sz63 l1 l2).mul (sz95 x0 x1)).mono (by decide))
  refine zipcomp (C := B * (lo * (2 * B))) (g := fun r x => x * (r.b * (2 * B) + r.l * x)) Sr1 (alr.imp fun _ _ z => z.mono s1.tups) Sw1 aw loads_len.symm l12 na (fun r x rv lv H2 P hr hx fr fx k => ?_) fun ts H2 s2 et ats => ?_
  · obtain ⟨x0, x1⟩ := okl x hx
    walk_at "rd"
    refine ⟨2, B, _, _, _, _, rfl, by decide, b0, half1 hN H2, fx, ⟨(by decide : (2 : Int).natAbs < 2 ^ 400), zB.mono (by decide), (by decide : (1 : Int).natAbs < 2 ^ 400), (sz95 x0 (by omega)).mono (by decide)⟩, fun w H3 s3 fw => ?_⟩
    walk_at "rd"
    refine ⟨lo, 2 * B, rv, w, r, x, rfl, lo0, lo6, b20, by omega, fr.mono s3.tups, by rw [Int.one_mul] at fw; exact fw, okb r hr, ⟨x0, by omega⟩, fun v H4 s4 fv => ?_⟩
    walk_at "rd"
    have s24 := Same.trans s3 s4
    exact ⟨B, lo * (2 * B), lv, v, x, _, rfl, b0, pl, fx.mono s24.tups, fv, ⟨zB.mono (by decide), zlB.mono (by decide), (sz95 x0 (by omega)).mono (by decide), (big r x hr x0 (by omega)).mono (by decide)⟩, fun u H5 s5 fu => k u H5 (Same.trans s24 s5) fu⟩
  · walk_at "rd"
    refine ⟨B * (lo * (2 * B)), acc, ts, _, rfl, Int.mul_pos b0 pl, (zB.mul zlB).mono (by decide), SqL.of et, ats, by rw [List.length_map, List.length_zip]; omega, fun y hy => ?_, fun v H3 s3 fv => ?_⟩
    · obtain ⟨⟨r, x⟩, hp, rfl⟩ := List.mem_map.mp hy
      obtain ⟨hr, hx⟩ := List.of_mem_zip hp
      obtain ⟨x0, x1⟩ := okl x hx
      exact sz_bd (((sz95 x0 (by omega)).mul (big r x hr x0 (by omega))).mono (by decide))
    · walk_at "rd"
      exact q v H3 (Same.trans s1 (Same.trans s2 s3)) fv
end KC

end

section
set_option maxHeartbeats 4000000
namespace KC
open PySem L2 Fr Cnt
local macro_rules | `(tactic| walk_at "rd1") => `(tactic| first | ((with_reducible refine' s_set2 ?hs ?_); (case hs => ((simp only [List.set_cons_succ, List.set_cons_zero]) <;> exact rfl))) | ((with_reducible refine' s_set ?hs ?_); (case hs => ((simp only [List.set_cons_succ, List.set_cons_zero]) <;> exact rfl))) | (with_reducible refine s_seq ?_) | (with_reducible refine s_asg ?_) | (with_reducible refine s_if ?_) | (with_reducible refine s_asgG ?_) | (with_reducible refine s_gsub ?_) | (with_reducible refine s_sl ?_) | (with_reducible refine s_noPart ?_) | (with_reducible refine s_part ?_) | (with_reducible refine s_exI ?_) | (with_reducible refine s_ret ?_) | (with_reducible refine s_op ?_) | (with_reducible refine s_c ?_) | (with_reducible refine s_cons ?_) | (with_reducible refine s_nil ?_) | (with_reducible refine s_call ?_) | (with_reducible refine s_cb ?_) | (with_reducible refine s_test ?_) | (with_reducible refine s_b ?_) | (with_reducible refine s_and ?_) | (with_reducible refine s_or ?_) | (with_reducible refine s_not ?_) | (with_reducible refine s_andV ?_) | (with_reducible refine s_orV ?_) | (with_reducible refine s_notV ?_) | (with_reducible refine s_ifx ?_) | (with_reducible refine s_chain ?_) | (with_reducible refine s_un ?_) | (with_reducible refine s_tup ?_) | (with_reducible refine s_lst ?_) | (with_reducible refine s_drop ?_) | (with_reducible refine s_retN ?_) | (with_reducible refine s_next ?_) | (with_reducible refine s_break ?_) | (with_reducible refine s_cont ?_) | (with_reducible refine s_par ?_) | ((with_reducible refine' s_var ?hv ?_); (case hv => exact rfl)) | (with_reducible refine s_bl ?_) | (with_reducible refine s_rI0 ?_) | (with_reducible refine s_eqI ?_) | (with_reducible refine s_neI ?_) | (with_reducible refine s_eqB ?_) | (with_reducible refine s_rU ?_) | (with_reducible refine s_eqAI ?_) | (with_reducible refine s_neAI ?_) | (with_reducible refine s_eqAB ?_) | (with_reducible refine s_addI ?_) | ((with_reducible refine' s_ixST ?hq ?he ?_); (case hq => assumption); (case he => exact rfl)) | ((with_reducible refine' s_ixSL ?hq ?he ?_); (case hq => assumption); (case he => exact rfl)) | ((with_reducible refine' s_abs1 ?_)) | ((with_reducible refine' s_lenL ?hq ?_); (case hq => assumption)) | ((with_reducible refine' s_lenT ?hq ?_); (case hq => assumption)) | (with_reducible refine s_isN ?_) | (with_reducible refine s_for ?_) | (with_reducible refine s_iList ?_) | (with_reducible refine s_iTup ?_) | (with_reducible refine s_iR1 ?_) | (with_reducible refine s_iR2 ?_) | (with_reducible refine s_iEnum ?_) | (with_reducible refine s_iZip ?_) | ((with_reducible refine' s_jList ?hq ?_); (case hq => assumption)) | ((with_reducible refine' s_jTup ?hq ?_); (case hq => assumption)) | ((with_reducible refine' s_jEnum ?hq ?_); (case hq => assumption)) | ((with_reducible refine' s_jZip ?hq ?hr ?_); (case hq => assumption); (case hr => assumption)) | ((with_reducible refine' s_aug ?hv ?_); (case hv => exact rfl)) | (with_reducible refine s_augS ?_) | (with_reducible refine s_ipI ?_) | (with_reducible refine s_int1 ?_) | (with_reducible refine s_bm ?_) | (with_reducible refine s_bm0 ?_) | ((with_reducible refine' s_tyL ?hq ?_); (case hq => assumption)) | (with_reducible refine s_notN ?_) | (with_reducible refine s_min2 ?_) | (with_reducible refine s_max2 ?_) | (with_reducible refine s_nx ?_) | (with_reducible refine s_rt ?_) | (with_reducible refine s_bk ?_) | (with_reducible refine s_ct ?_) | (with_reducible refine iteT ?_) | (with_reducible refine iteNt ?_) | (with_reducible refine iteNf ?_) | ((with_reducible refine iteN ?hz ?_); (case hz => exact rfl)) | ((with_reducible refine iteY ?hz ?_); (case hz => exact rfl)) | (with_reducible refine iteF ?_) | ((with_reducible refine' s_ixT ?hq ?he ?_); (case hq => assumption); (case he => exact rfl)) | ((with_reducible refine' s_ixL ?hq ?he ?_); (case hq => assumption); (case he => exact rfl)) | ((with_reducible refine s_rI ?hc ?_); (case hc => first | assumption | exact mulOk (by assumption) (by assumption) | exact (show (0 : Int) < _ by decide) | omega)))
local macro_rules | `(tactic| walk_at "rd") => `(tactic| repeat walk_at "rd1")
variable {K : PySem.W.Frag} {c : Cs} {H : Hp} {vs : List V} {Q : VK} {E : XK}
theorem kit_ll : PySem.W.kitOne K (.type "list") (.type "list") = some true := kit_t (by decide +kernel)
theorem rd__law_list (h : spListE K vs H Q E) : t__law_list K (EN Q) (start ["_law_found", "_law_tops", "_law_bottom", "_law_number", "_law_top"] vs) H := by
  obtain ⟨lw, lt, ws, xs, ts, b, D, rfl, d0, sD, sb, hl, aw, St, at', q⟩ := h
  show t__law_list K (EN Q) [some (.ref lw), some (.ref lt), some (.int b), none, none] H
  have Sl := SqL.of (K := K) hl
  have l1 := aw.len
  have l2 := at'.len
  walk_at "rd"
  refine ⟨_, _, _, _, true, rfl, .of (.lst hl), .ty _, kit_ll, ?_⟩
  walk_at "rd"
  refine iteN (by rw [List.length_map, l1, l2]; simp) ?_
  walk_at "rd"
  refine for_zip (xs := ws) (ys := ts.map V.int) (by rw [List.length_map]; omega) (fun i σ H' => (∃ v3 v4, σ = [some (.ref lw), some (.ref lt), some (.int b), v3, v4]) ∧ Same H H') ⟨⟨_, _, rfl⟩, Same.refl _⟩ ?_ ?_ ?_
  · rintro i σ H1 _ ⟨_, s1⟩
    exact ⟨s1.seq Sl, s1.seq St⟩
  · rintro i x y t σ H1 H2 hx hy ⟨⟨v3, v4, rfl⟩, s1⟩ s2 et
    obtain ⟨z, ez, fz⟩ := aw.get hx
    rw [List.getElem?_map] at hy
    obtain ⟨u, eu, rfl⟩ := Option.map_eq_some_iff.mp hy
    obtain ⟨u', eu', x0, sx, su, e⟩ := at'.get ez
    rw [eu] at eu'
    cases eu'
    have s02 := Same.trans s1 s2
    refine s_gt2 (σ' := [some (.ref lw), some (.ref lt), some (.int b), some x, some (.int u)]) (SqT.of et) rfl ?_
    dsimp only
    walk_at "rd"
    refine ⟨x, u, b, D, z, rfl, d0, fz.mono s02.tups, x0, sx, sD, su, sb, e, ?_⟩
    walk_at "rd"
    exact ⟨⟨_, _, rfl⟩, s02⟩
  · rintro σ H1 ⟨⟨v3, v4, rfl⟩, s1⟩
    walk_at "rd"
    exact q H1 s1
theorem rd__law_held (h : spHeld K vs H Q E) : t__law_held K (EN Q) (start ["_law_found"] vs) H := by
  obtain ⟨a, ws, rfl, S, q⟩ := h
  show t__law_held K (EN Q) [some (.ref a)] H
  walk_at "rd"
  refine s_listL S fun q1 H1 n1 s1 e1 => ?_
  walk_at "rd"
  refine s_alN ln2 fun p H2 n2 s2 e2 => ?_
  refine q p q1 H2 (s1.free n2) n1 (fun z => ?_) (Same.trans s1 s2) (s2 _ _ e1) e2
  subst z
  rw [e1] at n2
  cases n2
/-- a block over the roads and whole numbers -/
theorem zipints {l7 lr acc : Addr} {qvs : List V} {rds : List Road} {xs : List Int} {te : TE} {τ : St} {g : Road → Int → Int} (Sq : SqL K H lr qvs) (aq : All2 (RdV H) qvs rds) (Sx : SqL K H l7 (xs.map V.int)) (len : rds.length = xs.length) (l12 : rds.length ≤ 12) (na : H acc = none)
    (step : ∀ (r : Road) (x : Int) (rv : V) (H1 : Hp) (P : VK), r ∈ rds → x ∈ xs → RdV H1 rv r → P (.int (g r x)) H1 → te (some rv :: some (.int x) :: τ) H1 P)
    (q : ∀ H', Same H H' → H' acc = some (.lst (((rds.zip xs).map fun p => g p.1 p.2).map V.int)) → Q (.ref acc) H') :
    CompW (Itz K lr l7) acc (gTup K 2 (gCons (gName 0) (gCons (gName 1) gNil))) tNoIf te (none :: none :: τ) H Q := by
  have l1 := aq.len
  refine compZ (xs := qvs) (ys := xs.map V.int) (by rw [List.length_map]; omega) (fun i σ H' => (∃ v0 v1, σ = v0 :: v1 :: τ) ∧ Same H H' ∧ H' acc = some (.lst ((((rds.zip xs).take i).map fun p => g p.1 p.2).map V.int))) ⟨⟨_, _, rfl⟩, Same.new na, by rw [upd_same]; rfl⟩ ?_ ?_ ?_
  · rintro i σ H1 _ ⟨_, s1, _⟩
    exact ⟨s1.seq Sq, s1.seq Sx⟩
  · rintro i x y t σ H1 H2 hx hy ⟨⟨v0, v1, rfl⟩, s1, et⟩ s2 ett
    obtain ⟨r, er, fr⟩ := aq.get hx
    rw [List.getElem?_map] at hy
    obtain ⟨z, ez, rfl⟩ := Option.map_eq_some_iff.mp hy
    have s02 := Same.trans s1 s2
    have il : i < rds.length := (List.getElem?_eq_some_iff.mp er).1
    refine s_gt2 (σ' := some x :: some (.int z) :: τ) (SqT.of ett) rfl ?_
    refine blkN ?_
    refine step r z x H2 _ (List.mem_of_getElem? er) (List.mem_of_getElem? ez) (fr.mono s02.tups) ?_
    refine ⟨_, s2 _ _ et, ?_, ⟨_, _, rfl⟩, s02.updN na, ?_⟩
    · rw [List.length_map, List.length_map, List.length_take]
      exact Nat.lt_of_le_of_lt (show _ ≤ 12 by omega) (by decide)
    · rw [upd_same, List.take_add_one, zip_get er ez, List.map_append, List.map_append]
      rfl
  · rintro σ H1 ⟨_, s1, et⟩
    rw [List.take_of_length_le (by rw [List.length_zip]; omega)] at et
    exact q H1 s1 et
/-- of two lists of whole numbers -/
theorem zipII {l7 l8 acc : Addr} {ys xs : List Int} {te : TE} {g : Int → Int → Int} (Sy : SqL K H l8 (ys.map V.int)) (Sx : SqL K H l7 (xs.map V.int)) (len : ys.length = xs.length) (l12 : ys.length ≤ 12) (na : H acc = none)
    (step : ∀ (y x : Int) (H1 : Hp) (P : VK), y ∈ ys → x ∈ xs → P (.int (g y x)) H1 → te [some (.int y), some (.int x)] H1 P)
    (q : ∀ H', Same H H' → H' acc = some (.lst (((ys.zip xs).map fun p => g p.1 p.2).map V.int)) → Q (.ref acc) H') :
    CompW (Itz K l8 l7) acc (gTup K 2 (gCons (gName 0) (gCons (gName 1) gNil))) tNoIf te [none, none] H Q := by
  refine compZ (xs := ys.map V.int) (ys := xs.map V.int) (by rw [List.length_map, List.length_map]; omega) (fun i σ H' => (∃ v0 v1, σ = [v0, v1]) ∧ Same H H' ∧ H' acc = some (.lst ((((ys.zip xs).take i).map fun p => g p.1 p.2).map V.int))) ⟨⟨_, _, rfl⟩, Same.new na, by rw [upd_same]; rfl⟩ ?_ ?_ ?_
  · rintro i σ H1 _ ⟨_, s1, _⟩
    exact ⟨s1.seq Sy, s1.seq Sx⟩
  · rintro i x y t σ H1 H2 hx hy ⟨⟨v0, v1, rfl⟩, s1, et⟩ s2 ett
    rw [List.getElem?_map] at hx hy
    obtain ⟨w, ew, rfl⟩ := Option.map_eq_some_iff.mp hx
    obtain ⟨z, ez, rfl⟩ := Option.map_eq_some_iff.mp hy
    have s02 := Same.trans s1 s2
    have il : i < ys.length := (List.getElem?_eq_some_iff.mp ew).1
    refine s_gt2 (σ' := [some (.int w), some (.int z)]) (SqT.of ett) rfl ?_
    refine blkN ?_
    refine step w z H2 _ (List.mem_of_getElem? ew) (List.mem_of_getElem? ez) ?_
    refine ⟨_, s2 _ _ et, ?_, ⟨_, _, rfl⟩, s02.updN na, ?_⟩
    · rw [List.length_map, List.length_map, List.length_take]
      exact Nat.lt_of_le_of_lt (show _ ≤ 12 by omega) (by decide)
    · rw [upd_same, List.take_add_one, zip_get ew ez, List.map_append, List.map_append]
      rfl
  · rintro σ H1 ⟨_, s1, et⟩
    rw [List.length_map, List.take_of_length_le (by rw [List.length_zip]; omega)] at et
    exact q H1 s1 et
theorem all2_self {α : Type} {R : α → α → Prop} : ∀ {xs : List α}, (∀ x ∈ xs, R x x) → All2 R xs xs
  | [], _ => .nil
  | x :: xs, h => .cons (h x (by simp)) (all2_self fun y hy => h y (List.mem_cons_of_mem _ hy))
theorem loads_succ {i : Nat} {fls : List (List Int)} : loads (i + 1) fls = loads i fls ++ [(fls.map fun f => f.getD i 0).sum] := by
  unfold loads
  rw [List.range_succ, List.map_append]
  rfl

theorem dear_eq {B : Int} {rds : List Road} {xs : List Int} : ((rds.zip xs).map fun p => p.1.b * B + p.1.l * p.2 + p.1.l * p.2) = dearOf B rds xs := by
  unfold dearOf
  refine List.map_congr_left fun p _ => ?_
  rw [show (2 : Int) * p.2 = p.2 + p.2 by omega, Int.mul_add]
  omega
theorem zip_map1 {α β γ : Type} {f : α × β → γ} : ∀ {as : List α} {bs : List β}, (((as.zip bs).map f).zip bs) = (as.zip bs).map fun p => (f p, p.2)
  | [], _ => by simp
  | _ :: _, [] => by simp
  | a :: as, b :: bs => by
    simp only [List.zip_cons_cons, List.map_cons]
    rw [zip_map1]
theorem tot_eq {B : Int} {rds : List Road} {xs : List Int} : (((timesOf B rds xs).zip xs).map fun p => p.1 * p.2).sum = totOf B rds xs := by
  unfold timesOf totOf
  rw [zip_map1, List.map_map]
  congr 1
  refine List.map_congr_left fun p _ => ?_
  exact Int.mul_comm _ _
theorem sum_map_add {α : Type} {f g : α → Int} : ∀ {l : List α}, (l.map f).sum + (l.map g).sum = (l.map fun a => f a + g a).sum
  | [] => by simp
  | a :: l => by
    rw [List.map_cons, List.map_cons, List.map_cons, List.sum_cons, List.sum_cons, List.sum_cons, ← sum_map_add]
    omega
theorem told_eq {B : Int} {rds : List Road} {xs : List Int} : totOf B rds xs + ((rds.zip xs).map fun p => p.1.b * B * p.2).sum = toldOf B rds xs := by
  unfold totOf toldOf
  rw [sum_map_add]
  congr 1
  refine List.map_congr_left fun p _ => ?_
  have h1 : p.1.b * B * p.2 = p.2 * (p.1.b * B) := Int.mul_comm _ _
  have h2 : p.1.b * (2 * B) = p.1.b * B + p.1.b * B := by
    rw [show (2 : Int) * B = B + B by omega, Int.mul_add]
  rw [h1, h2, ← Int.mul_add]
  congr 1
  omega
theorem mul_nn2 {a b : Int} (ha : 0 ≤ a) (hb : 0 ≤ b) : 0 ≤ a * b := Int.mul_nonneg ha hb
theorem sum_sz {xs : List Int} (l : xs.length ≤ 12) (h : ∀ x ∈ xs, 0 ≤ x ∧ Sz 300 x) : 0 ≤ xs.sum ∧ Sz 400 xs.sum := by
  have b := sum_nn (M := 2 ^ 300) (xs := xs) fun x hx => by
    obtain ⟨h1, h2⟩ := h x hx
    have h2 : x.natAbs < 2 ^ 300 := h2
    omega
  refine ⟨b.1, ?_⟩
  have : (2 ^ 300 : Int) * (xs.length : Int) ≤ 2 ^ 300 * 12 := Int.mul_le_mul_of_nonneg_left (by omega) (by decide)
  show xs.sum.natAbs < 2 ^ 400
  omega
/-- what each road takes -/
theorem time_bd {B : Int} {rds : List Road} {xs : List Int} (b0 : 0 < B) (b6 : B ≤ 12) (okb : OkB rds) (okl : OkL xs) {k : Int} (k0 : 0 < k) (k2 : k ≤ 2) : ∀ p ∈ rds.zip xs, 0 ≤ p.1.b * B + p.1.l * (k * p.2) ∧ Sz 161 (p.1.b * B + p.1.l * (k * p.2)) := fun p hp => by
  obtain ⟨r, x⟩ := p
  obtain ⟨hr, hx⟩ := List.of_mem_zip hp
  obtain ⟨b1, b2, l1, l2⟩ := okb r hr
  obtain ⟨x0, x1⟩ := okl x hx
  have kx0 : 0 ≤ k * x := mul_nn2 (by omega) x0
  have kx1 : k * x ≤ 2 ^ 93 := by
    have : k * x ≤ 2 * x := Int.mul_le_mul_of_nonneg_right k2 x0
    omega
  exact ⟨Int.add_nonneg (mul_nn2 b1 (by omega)) (mul_nn2 l1 kx0), Sz.add (n := 160) (((sz63 b1 b2).mul (sz4 b0 b6)).mono (by decide)) (((sz63 l1 l2).mul (sz95 kx0 kx1)).mono (by decide))⟩
end KC

end

section
set_option maxHeartbeats 8000000
namespace KC
open PySem L2 Fr Cnt
local macro_rules | `(tactic| walk_at "rd1") => `(tactic| first | ((with_reducible refine' s_set2 ?hs ?_); (case hs => ((simp only [List.set_cons_succ, List.set_cons_zero]) <;> exact rfl))) | ((with_reducible refine' s_set ?hs ?_); (case hs => ((simp only [List.set_cons_succ, List.set_cons_zero]) <;> exact rfl))) | (with_reducible refine s_seq ?_) | (with_reducible refine s_asg ?_) | (with_reducible refine s_if ?_) | (with_reducible refine s_asgG ?_) | (with_reducible refine s_gsub ?_) | (with_reducible refine s_sl ?_) | (with_reducible refine s_noPart ?_) | (with_reducible refine s_part ?_) | (with_reducible refine s_exI ?_) | (with_reducible refine s_ret ?_) | (with_reducible refine s_op ?_) | (with_reducible refine s_c ?_) | (with_reducible refine s_cons ?_) | (with_reducible refine s_nil ?_) | (with_reducible refine s_call ?_) | (with_reducible refine s_cb ?_) | (with_reducible refine s_test ?_) | (with_reducible refine s_b ?_) | (with_reducible refine s_and ?_) | (with_reducible refine s_or ?_) | (with_reducible refine s_not ?_) | (with_reducible refine s_andV ?_) | (with_reducible refine s_orV ?_) | (with_reducible refine s_notV ?_) | (with_reducible refine s_ifx ?_) | (with_reducible refine s_chain ?_) | (with_reducible refine s_un ?_) | (with_reducible refine s_tup ?_) | (with_reducible refine s_lst ?_) | (with_reducible refine s_drop ?_) | (with_reducible refine s_retN ?_) | (with_reducible refine s_next ?_) | (with_reducible refine s_break ?_) | (with_reducible refine s_cont ?_) | (with_reducible refine s_par ?_) | ((with_reducible refine' s_var ?hv ?_); (case hv => exact rfl)) | (with_reducible refine s_bl ?_) | (with_reducible refine s_rI0 ?_) | (with_reducible refine s_eqI ?_) | (with_reducible refine s_neI ?_) | (with_reducible refine s_eqB ?_) | (with_reducible refine s_rU ?_) | (with_reducible refine s_eqAI ?_) | (with_reducible refine s_neAI ?_) | (with_reducible refine s_eqAB ?_) | (with_reducible refine s_addI ?_) | ((with_reducible refine' s_ixST ?hq ?he ?_); (case hq => assumption); (case he => exact rfl)) | ((with_reducible refine' s_ixSL ?hq ?he ?_); (case hq => assumption); (case he => exact rfl)) | ((with_reducible refine' s_abs1 ?_)) | ((with_reducible refine' s_lenL ?hq ?_); (case hq => assumption)) | ((with_reducible refine' s_lenT ?hq ?_); (case hq => assumption)) | (with_reducible refine s_isN ?_) | (with_reducible refine s_for ?_) | (with_reducible refine s_iList ?_) | (with_reducible refine s_iTup ?_) | (with_reducible refine s_iR1 ?_) | (with_reducible refine s_iR2 ?_) | (with_reducible refine s_iEnum ?_) | (with_reducible refine s_iZip ?_) | ((with_reducible refine' s_jList ?hq ?_); (case hq => assumption)) | ((with_reducible refine' s_jTup ?hq ?_); (case hq => assumption)) | ((with_reducible refine' s_jEnum ?hq ?_); (case hq => assumption)) | ((with_reducible refine' s_jZip ?hq ?hr ?_); (case hq => assumption); (case hr => assumption)) | ((with_reducible refine' s_aug ?hv ?_); (case hv => exact rfl)) | (with_reducible refine s_augS ?_) | (with_reducible refine s_ipI ?_) | (with_reducible refine s_int1 ?_) | (with_reducible refine s_bm ?_) | (with_reducible refine s_bm0 ?_) | ((with_reducible refine' s_tyL ?hq ?_); (case hq => assumption)) | (with_reducible refine s_notN ?_) | (with_reducible refine s_min2 ?_) | (with_reducible refine s_max2 ?_) | (with_reducible refine s_nx ?_) | (with_reducible refine s_rt ?_) | (with_reducible refine s_bk ?_) | (with_reducible refine s_ct ?_) | (with_reducible refine iteT ?_) | (with_reducible refine iteNt ?_) | (with_reducible refine iteNf ?_) | ((with_reducible refine iteN ?hz ?_); (case hz => exact rfl)) | ((with_reducible refine iteY ?hz ?_); (case hz => exact rfl)) | (with_reducible refine iteF ?_) | ((with_reducible refine' s_ixT ?hq ?he ?_); (case hq => assumption); (case he => exact rfl)) | ((with_reducible refine' s_ixL ?hq ?he ?_); (case hq => assumption); (case he => exact rfl)) | ((with_reducible refine s_rI ?hc ?_); (case hc => first | assumption | exact mulOk (by assumption) (by assumption) | exact (show (0 : Int) < _ by decide) | omega)))
local macro_rules | `(tactic| walk_at "rd") => `(tactic| repeat walk_at "rd1")
variable {K : PySem.W.Frag} {c : Cs} {H : Hp} {vs : List V} {Q : VK} {E : XK}
theorem rd__law_asked (h : spAsked K vs H Q E) : t__law_asked K (EN Q) (start ["_law_which", "_law_net", "_law_share", "_law_roads_here", "_law_flows_here", "_law_low", "_law_bottom", "_law_loads", "_law_times", "_law_total", "_law_half", "_law_dear"] vs) H := by
  obtain ⟨wh, lo, B, nv, ls, lr, lf, n, rvs, svs, qvs, fvs, rds, fls, rfl, lo0, lo6, b0, b6, N, Ss, as, okf, l12, okb, Sq, aq, Sf, af, q⟩ := h
  show t__law_asked K (EN Q) [some (.int wh), some nv, some (.ref ls), some (.ref lr), some (.ref lf), some (.int lo), some (.int B), none, none, none, none, none] H
  have lqv := aq.len
  have lfv := af.len
  have okl := loads_bd (n := rds.length) okf
  have lxs : (loads rds.length fls).length = rds.length := loads_len
  refine s_seq ?_
  refine s_asg ?_
  refine s_comp (σ' := [none, some (.ref lf)]) rfl ?_
  walk_at "rd"
  refine s_jR1 (by omega) ?_
  intro a7 na
  rw [show ((qvs.length : Int)).toNat = qvs.length by omega]
  refine compR (fun i σ H' => (∃ v, σ = [v, some (.ref lf)]) ∧ Same H H' ∧ H' a7 = some (.lst ((loads i fls).map V.int))) ⟨⟨_, rfl⟩, Same.new na, by rw [upd_same]; rfl⟩ ?_ ?_
  · rintro i σ H1 hi ⟨⟨v, rfl⟩, s1, e7⟩
    rw [show (0 : Int) + (i : Int) = (i : Int) from Int.zero_add _]
    refine s_gn (σ' := [some (.int (i : Int)), some (.ref lf)]) rfl ?_
    refine blkN ?_
    refine s_cb ?_
    refine s_cons ?_
    refine s_comp (σ' := [none, some (.int (i : Int))]) rfl ?_
    have Sf1 := s1.seq Sf
    walk_at "rd"
    intro acc nacc
    refine compL (xs := fvs) (fun j σ H' => (∃ v, σ = [v, some (.int (i : Int))]) ∧ Same H1 H' ∧ H' acc = some (.lst (((fls.take j).map fun f => f.getD i 0).map V.int))) ⟨⟨_, rfl⟩, Same.new nacc, by rw [upd_same]; rfl⟩ ?_ ?_ ?_
    · rintro j σ H2 _ ⟨_, s2, _⟩
      exact s2.seq Sf1
    · rintro j x σ H2 hx ⟨⟨v, rfl⟩, s2, ea⟩
      obtain ⟨f, ej, a, rfl, ha⟩ := af.get hx
      have jl : j < fls.length := (List.getElem?_eq_some_iff.mp ej).1
      have f3 := okf.1
      have lf' := (okf.2 f (List.mem_of_getElem? ej)).1
      refine s_gn (σ' := [some (.ref a), some (.int (i : Int))]) rfl ?_
      refine blkN ?_
      walk_at "rd"
      have e0 : (f.map V.int)[i]? = some (.int (f.getD i 0)) := by
        rw [List.getElem?_map, List.getD_eq_getElem?_getD, List.getElem?_eq_getElem (by omega)]
        rfl
      refine s_ixSL (SqL.of (s2 _ _ (s1 _ _ ha))) (atI_nat e0) ?_
      refine ⟨_, ea, ?_, ⟨_, rfl⟩, s2.updN nacc, ?_⟩
      · rw [List.length_map, List.length_map, List.length_take]
        exact Nat.lt_of_le_of_lt (show _ ≤ 3 by omega) (by decide)
      · rw [upd_same, List.take_add_one, ej, List.map_append, List.map_append]
        rfl
    · rintro σ H2 ⟨_, s2, ea⟩
      rw [lfv, List.take_length] at ea
      refine ⟨acc, _, rfl, SqL.of ea, ?_⟩
      refine ⟨_, s2 _ _ e7, ?_, ⟨_, rfl⟩, (Same.trans s1 s2).updN na, ?_⟩
      · rw [List.length_map, loads_len]
        exact Nat.lt_of_le_of_lt (show _ ≤ 12 by omega) (by decide)
      · rw [upd_same, loads_succ, List.map_append]
        rfl
  · rintro σ H1 ⟨_, s1, e7⟩
    rw [lqv] at e7
    generalize exs : loads rds.length fls = xs at e7 okl lxs
    have N1 := N.same s1
    have Ss1 := s1.seq Ss
    have as1 := as.imp fun _ _ z => ShV.same s1 z
    have Sq1 := s1.seq Sq
    have aq1 := rds_mono s1.tups aq
    have S71 := SqL.of (K := K) e7
    have zl := sz4 lo0 (by omega)
    have zB := sz4 b0 (by omega)
    have pl := Int.mul_pos lo0 b0
    have mlB : CMulX lo B := .inr ⟨zl.sm, zB.sm⟩
    walk_at "rd"
    by_cases c0 : wh = 0
    · refine iteY (decide_eq_true c0) ?_
      walk_at "rd"
      refine ⟨lo, B, nv, ls, n, rvs, svs, rds, fls, rfl, lo0, lo6, b0, b6, N1, Ss1, as1, okf, l12, fun lw ws H2 nw s2 ew aw => ?_⟩
      rw [exs] at aw
      walk_at "rd"
      refine ⟨lw, a7, ws, xs, xs, B, B, rfl, b0, zB.mono (by decide), zB.mono (by decide), ew, aw, s2.seq S71, all2_self fun x hx => ?_, fun H3 s3 => ?_⟩
      · obtain ⟨x0, x1⟩ := okl x hx
        have sx := (sz95 x0 (by omega)).mono (m := 400) (by decide)
        exact ⟨x0, sx, sx, rfl⟩
      · walk_at "rd"
        exact q H3 (Same.trans s1 (Same.trans s2 s3))
    · refine iteN (decide_eq_false c0) ?_
      walk_at "rd"
      refine s_comp (σ' := [none, none, some (.int B)]) rfl ?_
      walk_at "rd"
      intro a8 na8
      refine zipints (τ := [some (.int B)]) (g := fun r x => r.b * B + r.l * x) Sq1 aq1 S71 lxs.symm l12 na8 (fun r x rv H2 P hr hx fr k => ?_) fun H2 s2 e8 => ?_
      · obtain ⟨p, v1, v2, rfl, hp, rfl, rfl⟩ := fr
        obtain ⟨b1, b2, l1, l2⟩ := okb r hr
        obtain ⟨x0, x1⟩ := okl x hx
        have Sp := SqT.of (K := K) hp
        have m1 : CMulX r.b B := .inr ⟨(sz63 b1 b2).sm, zB.sm⟩
        have m2 : CMulX r.l x := .inr ⟨(sz63 l1 l2).sm, (sz95 x0 (by omega)).sm⟩
        walk_at "rd"
        exact k
      · replace e8 : H2 a8 = some (.lst ((timesOf B rds xs).map V.int)) := e8
        have tbd := time_bd b0 (show B ≤ 12 by omega) okb okl (k := 1) (by decide) (by decide)
        have tb : ∀ y ∈ timesOf B rds xs, 0 ≤ y ∧ Sz 161 y := fun y hy => by
          obtain ⟨p, hp, rfl⟩ := List.mem_map.mp hy
          have := tbd p hp
          rw [Int.one_mul] at this
          exact this
        have lts : (timesOf B rds xs).length = xs.length := by unfold timesOf; rw [List.length_map, List.length_zip]; omega
        have N2 := N1.same s2
        have Ss2 := s2.seq Ss1
        have as2 := as1.imp fun _ _ z => ShV.same s2 z
        have Sq2 := s2.seq Sq1
        have aq2 := rds_mono s2.tups aq1
        have S72 := s2.seq S71
        have S82 := SqL.of (K := K) e8
        have s02 := Same.trans s1 s2
        walk_at "rd"
        by_cases c1 : wh = 1
        · refine iteY (decide_eq_true c1) ?_
          walk_at "rd"
          refine ⟨lo, B, nv, ls, n, rvs, svs, rds, fls, rfl, lo0, lo6, b0, b6, N2, Ss2, as2, okf, l12, okb, fun lw ws H3 nw s3 ew aw => ?_⟩
          rw [exs] at aw
          walk_at "rd"
          refine ⟨lw, a8, ws, _, _, lo * B, lo * B, rfl, pl, (zl.mul zB).mono (by decide), (zl.mul zB).mono (by decide), ew, aw, s3.seq S82, all2_self fun y hy => ?_, fun H4 s4 => ?_⟩
          · obtain ⟨y0, y1⟩ := tb y hy
            exact ⟨y0, y1.mono (by decide), y1.mono (by decide), rfl⟩
          · walk_at "rd"
            exact q H4 (Same.trans s02 (Same.trans s3 s4))
        · refine iteN (decide_eq_false c1) ?_
          walk_at "rd"
          by_cases c2 : wh = 2
          · refine iteY (decide_eq_true c2) ?_
            walk_at "rd"
            refine s_comp (σ' := [none, none, none]) rfl ?_
            refine s_iZip3 ?_
            walk_at "rd"
            refine s_jZip3 S82 Sq2 S72 ?_
            intro a11 na11
            refine compZ3 (xs := (timesOf B rds xs).map V.int) (ys := qvs) (zs := xs.map V.int) (by rw [List.length_map]; omega) (by rw [List.length_map, List.length_map]; omega) (fun i σ H' => (∃ v0 v1 v2, σ = [v0, v1, v2]) ∧ Same H2 H' ∧ H' a11 = some (.lst ((((rds.zip xs).take i).map fun p => p.1.b * B + p.1.l * p.2 + p.1.l * p.2).map V.int))) ⟨⟨_, _, _, rfl⟩, Same.new na11, by rw [upd_same]; rfl⟩ ?_ ?_ ?_
            · rintro i σ H3 _ ⟨_, s3, _⟩
              exact ⟨s3.seq S82, s3.seq Sq2, s3.seq S72⟩
            · rintro i x y z t σ H3 H4 hx hy hz ⟨⟨v0, v1, v2, rfl⟩, s3, et⟩ s4 ett
              rw [List.getElem?_map] at hx hz
              obtain ⟨u, eu, rfl⟩ := Option.map_eq_some_iff.mp hx
              obtain ⟨x', ex', rfl⟩ := Option.map_eq_some_iff.mp hz
              obtain ⟨r, er, p, w1, w2, rfl, hp, rfl, rfl⟩ := aq2.get hy
              have il : i < rds.length := (List.getElem?_eq_some_iff.mp er).1
              have eu2 : u = r.b * B + r.l * x' := by
                unfold timesOf at eu
                rw [List.getElem?_map, zip_get er ex'] at eu
                exact (Option.some.inj eu).symm
              obtain ⟨b1, b2, l1, l2⟩ := okb r (List.mem_of_getElem? er)
              obtain ⟨x0, x1⟩ := okl x' (List.mem_of_getElem? ex')
              have s24 := Same.trans s3 s4
              have Sp := SqT.of (K := K) (s24 _ _ hp)
              have m2 : CMulX r.l x' := .inr ⟨(sz63 l1 l2).sm, (sz95 x0 (by omega)).sm⟩
              refine s_gt3 (σ' := [some (.int u), some (.ref p), some (.int x')]) (SqT.of ett) rfl ?_
              refine blkN ?_
              walk_at "rd"
              refine ⟨_, s4 _ _ et, ?_, ⟨_, _, _, rfl⟩, s24.updN na11, ?_⟩
              · rw [List.length_map, List.length_map, List.length_take]
                exact Nat.lt_of_le_of_lt (show _ ≤ 12 by omega) (by decide)
              · rw [upd_same, List.take_add_one, zip_get er ex', List.map_append, List.map_append, eu2]
                rfl
            · rintro σ H3 ⟨_, s3, et⟩
              rw [List.length_map, List.take_of_length_le (by rw [List.length_zip]; omega), dear_eq] at et
              have S113 := SqL.of (K := K) et
              walk_at "rd"
              refine ⟨lo, B, nv, ls, n, rvs, svs, rds, fls, rfl, lo0, lo6, b0, b6, N2.same s3, s3.seq Ss2, as2.imp fun _ _ z => ShV.same s3 z, okf, l12, okb, fun lw ws H4 nw s4 ew aw => ?_⟩
              rw [exs] at aw
              walk_at "rd"
              refine ⟨lw, a11, ws, _, _, lo * B, lo * B, rfl, pl, (zl.mul zB).mono (by decide), (zl.mul zB).mono (by decide), ew, aw, s4.seq S113, all2_self fun y hy => ?_, fun H5 s5 => ?_⟩
              · obtain ⟨p, hp, rfl⟩ := List.mem_map.mp hy
                obtain ⟨y0, y1⟩ := time_bd b0 (show B ≤ 12 by omega) okb okl (k := 2) (by decide) (by decide) p hp
                exact ⟨y0, y1.mono (by decide), y1.mono (by decide), rfl⟩
              · walk_at "rd"
                exact q H5 (Same.trans s02 (Same.trans s3 (Same.trans s4 s5)))
          · refine iteN (decide_eq_false c2) ?_
            walk_at "rd"
            refine s_comp (σ' := [none, none]) rfl ?_
            walk_at "rd"
            intro acc nacc
            refine zipII (g := fun y x => y * x) S82 S72 lts (by omega) nacc (fun y x H3 P hy hx k => ?_) fun H3 s3 e3 => ?_
            · obtain ⟨y0, y1⟩ := tb y hy
              obtain ⟨x0, x1⟩ := okl x hx
              have m1 : CMulX y x := .inr ⟨y1.sm, (sz95 x0 (by omega)).sm⟩
              walk_at "rd"
              exact k
            · refine ⟨acc, _, rfl, SqL.of e3, ?_⟩
              rw [tot_eq]
              have totb : 0 ≤ totOf B rds xs ∧ Sz 400 (totOf B rds xs) := by
                refine sum_sz (by rw [List.length_map, List.length_zip]; omega) fun y hy => ?_
                obtain ⟨p, hp, rfl⟩ := List.mem_map.mp hy
                have t1 := tbd p hp
                rw [Int.one_mul] at t1
                obtain ⟨x0, x1⟩ := okl p.2 (List.of_mem_zip hp).2
                exact ⟨mul_nn2 x0 t1.1, ((sz95 x0 (by omega)).mul t1.2).mono (by decide)⟩
              have mllB : CMulX (lo * B) B := .inr ⟨(zl.mul zB).sm, zB.sm⟩
              have Sq3 := s3.seq Sq2
              have S73 := s3.seq S72
              walk_at "rd"
              by_cases c3 : wh = 3
              · refine iteY (decide_eq_true c3) ?_
                walk_at "rd"
                refine ⟨lo, B, nv, ls, n, rvs, svs, rds, fls, rfl, lo0, lo6, b0, b6, N2.same s3, s3.seq Ss2, as2.imp fun _ _ z => ShV.same s3 z, okf, l12, okb, fun v H4 s4 fv => ?_⟩
                rw [exs] at fv
                walk_at "rd"
                refine ⟨v, _, _, B * (lo * B), _, rfl, Int.mul_pos b0 pl, fv, totb.1, totb.2, (zB.mul (zl.mul zB)).mono (by decide), totb.2, ((zl.mul zB).mul zB).mono (by decide), by rw [Int.mul_comm B (lo * B)], ?_⟩
                walk_at "rd"
                exact q H4 (Same.trans s02 (Same.trans s3 s4))
              · refine iteN (decide_eq_false c3) ?_
                walk_at "rd"
                refine s_comp (σ' := [none, none, some (.int B)]) rfl ?_
                walk_at "rd"
                intro ac2 nac2
                refine zipints (τ := [some (.int B)]) (g := fun r x => r.b * B * x) Sq3 (rds_mono s3.tups aq2) S73 lxs.symm l12 nac2 (fun r x rv H4 P hr hx fr k => ?_) fun H4 s4 e4 => ?_
                · obtain ⟨p, v1, v2, rfl, hp, rfl, rfl⟩ := fr
                  obtain ⟨b1, b2, l1, l2⟩ := okb r hr
                  obtain ⟨x0, x1⟩ := okl x hx
                  have Sp := SqT.of (K := K) hp
                  have m1 : CMulX r.b B := .inr ⟨(sz63 b1 b2).sm, zB.sm⟩
                  have m2 : CMulX (r.b * B) x := .inr ⟨((sz63 b1 b2).mul zB).sm, (sz95 x0 (by omega)).sm⟩
                  walk_at "rd"
                  exact k
                · refine ⟨ac2, _, rfl, SqL.of e4, ?_⟩
                  have s24 := Same.trans s3 s4
                  walk_at "rd"
                  refine ⟨lo, B, nv, ls, n, rvs, svs, rds, fls, rfl, lo0, lo6, b0, b6, N2.same s24, s24.seq Ss2, as2.imp fun _ _ z => ShV.same s24 z, okf, l12, okb, fun v H5 s5 fv => ?_⟩
                  rw [exs] at fv
                  have toldb : 0 ≤ toldOf B rds xs ∧ Sz 400 (toldOf B rds xs) := by
                    refine sum_sz (by rw [List.length_map, List.length_zip]; omega) fun y hy => ?_
                    obtain ⟨p, hp, rfl⟩ := List.mem_map.mp hy
                    have t1 := time_bd (B := 2 * B) (by omega) (by omega) okb okl (k := 1) (by decide) (by decide) p hp
                    rw [Int.one_mul] at t1
                    obtain ⟨x0, x1⟩ := okl p.2 (List.of_mem_zip hp).2
                    exact ⟨mul_nn2 x0 t1.1, ((sz95 x0 (by omega)).mul t1.2).mono (by decide)⟩
                  have z2 : Sz 2 (2 : Int) := by show (2 : Int).natAbs < 2 ^ 2; decide
                  have n1 : CMulX 2 lo := .inr ⟨z2.sm, zl.sm⟩
                  have n2 : CMulX (2 * lo) B := .inr ⟨(z2.mul zl).sm, zB.sm⟩
                  have n3 : CMulX (2 * lo * B) B := .inr ⟨((z2.mul zl).mul zB).sm, zB.sm⟩
                  have b20 : 0 < 2 * B := by omega
                  have z2B := sz4 b20 (by omega)
                  walk_at "rd"
                  rw [told_eq]
                  refine ⟨v, _, _, B * (lo * (2 * B)), _, rfl, Int.mul_pos b0 (Int.mul_pos lo0 b20), fv, toldb.1, toldb.2, (zB.mul (zl.mul z2B)).mono (by decide), toldb.2, (((z2.mul zl).mul zB).mul zB).mono (by decide), ?_, ?_⟩
                  · congr 1
                    ac_rfl
                  · walk_at "rd"
                    exact q H5 (Same.trans s02 (Same.trans s24 s5))
end KC

end

section
set_option maxHeartbeats 8000000
namespace KC
open PySem L2 Fr Cnt
local macro_rules | `(tactic| walk_at "rd1") => `(tactic| first | ((with_reducible refine' s_set2 ?hs ?_); (case hs => ((simp only [List.set_cons_succ, List.set_cons_zero]) <;> exact rfl))) | ((with_reducible refine' s_set ?hs ?_); (case hs => ((simp only [List.set_cons_succ, List.set_cons_zero]) <;> exact rfl))) | (with_reducible refine s_seq ?_) | (with_reducible refine s_asg ?_) | (with_reducible refine s_if ?_) | (with_reducible refine s_asgG ?_) | (with_reducible refine s_gsub ?_) | (with_reducible refine s_sl ?_) | (with_reducible refine s_noPart ?_) | (with_reducible refine s_part ?_) | (with_reducible refine s_exI ?_) | (with_reducible refine s_ret ?_) | (with_reducible refine s_op ?_) | (with_reducible refine s_c ?_) | (with_reducible refine s_cons ?_) | (with_reducible refine s_nil ?_) | (with_reducible refine s_call ?_) | (with_reducible refine s_cb ?_) | (with_reducible refine s_test ?_) | (with_reducible refine s_b ?_) | (with_reducible refine s_and ?_) | (with_reducible refine s_or ?_) | (with_reducible refine s_not ?_) | (with_reducible refine s_andV ?_) | (with_reducible refine s_orV ?_) | (with_reducible refine s_notV ?_) | (with_reducible refine s_ifx ?_) | (with_reducible refine s_chain ?_) | (with_reducible refine s_un ?_) | (with_reducible refine s_tup ?_) | (with_reducible refine s_lst ?_) | (with_reducible refine s_drop ?_) | (with_reducible refine s_retN ?_) | (with_reducible refine s_next ?_) | (with_reducible refine s_break ?_) | (with_reducible refine s_cont ?_) | (with_reducible refine s_par ?_) | ((with_reducible refine' s_var ?hv ?_); (case hv => exact rfl)) | (with_reducible refine s_bl ?_) | (with_reducible refine s_rI0 ?_) | (with_reducible refine s_eqI ?_) | (with_reducible refine s_neI ?_) | (with_reducible refine s_eqB ?_) | (with_reducible refine s_rU ?_) | (with_reducible refine s_eqAI ?_) | (with_reducible refine s_neAI ?_) | (with_reducible refine s_eqAB ?_) | (with_reducible refine s_addI ?_) | ((with_reducible refine' s_ixST ?hq ?he ?_); (case hq => assumption); (case he => exact rfl)) | ((with_reducible refine' s_ixSL ?hq ?he ?_); (case hq => assumption); (case he => exact rfl)) | ((with_reducible refine' s_abs1 ?_)) | ((with_reducible refine' s_lenL ?hq ?_); (case hq => assumption)) | ((with_reducible refine' s_lenT ?hq ?_); (case hq => assumption)) | (with_reducible refine s_isN ?_) | (with_reducible refine s_for ?_) | (with_reducible refine s_iList ?_) | (with_reducible refine s_iTup ?_) | (with_reducible refine s_iR1 ?_) | (with_reducible refine s_iR2 ?_) | (with_reducible refine s_iEnum ?_) | (with_reducible refine s_iZip ?_) | ((with_reducible refine' s_jList ?hq ?_); (case hq => assumption)) | ((with_reducible refine' s_jTup ?hq ?_); (case hq => assumption)) | ((with_reducible refine' s_jEnum ?hq ?_); (case hq => assumption)) | ((with_reducible refine' s_jZip ?hq ?hr ?_); (case hq => assumption); (case hr => assumption)) | ((with_reducible refine' s_aug ?hv ?_); (case hv => exact rfl)) | (with_reducible refine s_augS ?_) | (with_reducible refine s_ipI ?_) | (with_reducible refine s_int1 ?_) | (with_reducible refine s_bm ?_) | (with_reducible refine s_bm0 ?_) | ((with_reducible refine' s_tyL ?hq ?_); (case hq => assumption)) | (with_reducible refine s_notN ?_) | (with_reducible refine s_min2 ?_) | (with_reducible refine s_max2 ?_) | (with_reducible refine s_nx ?_) | (with_reducible refine s_rt ?_) | (with_reducible refine s_bk ?_) | (with_reducible refine s_ct ?_) | (with_reducible refine iteT ?_) | (with_reducible refine iteNt ?_) | (with_reducible refine iteNf ?_) | ((with_reducible refine iteN ?hz ?_); (case hz => exact rfl)) | ((with_reducible refine iteY ?hz ?_); (case hz => exact rfl)) | (with_reducible refine iteF ?_) | ((with_reducible refine' s_ixT ?hq ?he ?_); (case hq => assumption); (case he => exact rfl)) | ((with_reducible refine' s_ixL ?hq ?he ?_); (case hq => assumption); (case he => exact rfl)) | ((with_reducible refine s_rI ?hc ?_); (case hc => first | assumption | exact mulOk (by assumption) (by assumption) | exact (show (0 : Int) < _ by decide) | omega)))
local macro_rules | `(tactic| walk_at "rd") => `(tactic| repeat walk_at "rd1")
variable {K : PySem.W.Frag} {c : Cs} {H : Hp} {vs : List V} {Q : VK} {E : XK}
theorem all2_set {α β : Type} {R : α → β → Prop} {a : α} {b : β} (r : R a b) : ∀ {as : List α} {bs : List β} {i : Nat}, All2 R as bs → All2 R (as.set i a) (bs.set i b)
  | _, _, _, .nil => by simp; exact .nil
  | _, _, 0, .cons _ h => .cons r h
  | _, _, i + 1, .cons q h => .cons q (all2_set r h)
theorem LL.push {H0 H H2 : Hp} {lo p : Addr} {as : List Addr} {xss : List (List V)} {ys : List V} (h : LL H0 H lo as xss) (s0 : Same H0 H) (s : Same H H2) (np : H p = none) (e : H2 p = some (.lst ys)) :
    LL H0 (upd H2 lo (.lst (as.map V.ref ++ [.ref p]))) lo (as ++ [p]) (xss ++ [ys]) := by
  have L := h
  have nas : p ∉ as := fun z => by
    obtain ⟨xs, _, ex⟩ := L.el.memL z
    rw [ex] at np
    cases np
  have nlo : p ≠ lo := fun z => by
    subst z
    rw [L.out] at np
    cases np
  refine ⟨by rw [upd_same, List.map_append]; rfl, ?_, ?_, fun a ha => ?_, ?_⟩
  · rw [List.nodup_append]
    refine ⟨L.nd, by simp, fun a ha b hb => ?_⟩
    rw [List.mem_singleton.mp hb]
    exact fun z => nas (z ▸ ha)
  · intro z
    rcases List.mem_append.mp z with z | z
    · exact L.nlo z
    · exact nlo (List.mem_singleton.mp z).symm
  · rcases List.mem_append.mp ha with ha | ha
    · exact L.fr a ha
    · rw [List.mem_singleton.mp ha]
      exact s0.free np
  · refine All2.push (all2_memL (fun a xs ha z => ?_) (L.same s).el) ?_
    · have nz : a ≠ lo := fun zz => L.nlo (by rw [← zz]; exact ha)
      rw [upd_ne nz]
      exact z
    · rw [upd_ne nlo]
      exact e
/-- [list(x) for x in xs] -/
theorem copycomp {ls acc : Addr} {svs : List V} {xss : List (List V)} (S : SqL K H ls svs) (al : All2 (fun v xs => ∃ a, v = .ref a ∧ SqL K H a xs) svs xss) (l : xss.length ≤ 3) (na : H acc = none)
    (q : ∀ ks H', Same H H' → LL H H' acc ks xss → Q (.ref acc) H') : CompW (Itl K ls) acc (gName 0) tNoIf (tCB (rListOf K) (tCons (tVar 0) tNil)) [none] H Q := by
  have len := al.len
  refine compL (xs := svs) (fun j σ H' => (∃ v, σ = [v]) ∧ Same H H' ∧ ∃ ks, LL H H' acc ks (xss.take j)) ⟨⟨_, rfl⟩, Same.new na, [], upd_same, by simp, by simp, (fun a ha => by cases ha), by simp; exact .nil⟩ ?_ ?_ ?_
  · rintro j σ H1 _ ⟨_, s1, _⟩
    exact s1.seq S
  · rintro j x σ H1 hx ⟨⟨v, rfl⟩, s1, ks, L⟩
    obtain ⟨xs, ex, a, rfl, Sa⟩ := al.get hx
    have jl : j < xss.length := (List.getElem?_eq_some_iff.mp ex).1
    refine s_gn (σ' := [some (.ref a)]) rfl ?_
    refine blkN ?_
    walk_at "rd"
    refine s_listL (s1.seq Sa) fun p H2 n2 s2 e2 => ?_
    have lk := L.el.len
    rw [List.length_take] at lk
    refine ⟨_, s2 _ _ L.out, by rw [List.length_map]; exact Nat.lt_of_le_of_lt (show ks.length ≤ 3 by omega) (by decide), ⟨_, rfl⟩, (Same.trans s1 s2).updN na, ks ++ [p], ?_⟩
    rw [List.take_add_one, ex]
    exact L.push s1 s2 n2 e2
  · rintro σ H1 ⟨_, s1, ks, L⟩
    rw [len, List.take_length] at L
    exact q ks H1 s1 L
/-- the share -/
theorem sharecomp {B : Int} {lf acc : Addr} {fvs : List V} {fls : List (List Int)} (b0 : 0 < B) (sB : Sm B) (S : SqL K H lf fvs) (af : All2 (ZsV H) fvs fls) (okf : ∀ f ∈ fls, f.length ≤ 12 ∧ ∀ x ∈ f, 0 ≤ x) (l : fls.length ≤ 3) (na : H acc = none)
    (q : ∀ as uss H', Same H H' → LL H H' acc as uss → All2 (All2 (FrB K B H')) uss fls → Q (.ref acc) H') :
    CompW (Itl K lf) acc (gName 0) tNoIf (tComp 1 [1] (iList K (tVar 0)) (gName 0) tNoIf (tCall (spLLow K) [] E0 (tCons (tVar 0) (tCons (tVar 1) tNil)))) [none, some (.int B)] H Q := by
  have len := af.len
  refine compL (xs := fvs) (fun j σ H' => (∃ v, σ = [v, some (.int B)]) ∧ Same H H' ∧ ∃ ks uss, LL H H' acc ks uss ∧ All2 (All2 (FrB K B H')) uss (fls.take j)) ⟨⟨_, rfl⟩, Same.new na, [], [], ⟨upd_same, by simp, by simp, (fun a ha => by cases ha), .nil⟩, by simp; exact .nil⟩ ?_ ?_ ?_
  · rintro j σ H1 _ ⟨_, s1, _⟩
    exact s1.seq S
  · rintro j x σ H1 hx ⟨⟨v, rfl⟩, s1, ks, uss, L, au⟩
    obtain ⟨f, ef, a, rfl, ha⟩ := af.get hx
    have jl : j < fls.length := (List.getElem?_eq_some_iff.mp ef).1
    obtain ⟨f12, f0⟩ := okf f (List.mem_of_getElem? ef)
    have Sa1 := SqL.of (K := K) (s1 _ _ ha)
    refine s_gn (σ' := [some (.ref a), some (.int B)]) rfl ?_
    refine blkN ?_
    refine s_comp (σ' := [none, some (.int B)]) rfl ?_
    walk_at "rd"
    intro ac2 n2
    refine compL (xs := f.map V.int) (fun i σ H' => (∃ v, σ = [v, some (.int B)]) ∧ Same H1 H' ∧ ∃ us, H' ac2 = some (.lst us) ∧ All2 (FrB K B H') us (f.take i)) ⟨⟨_, rfl⟩, Same.new n2, [], upd_same, by simp; exact .nil⟩ ?_ ?_ ?_
    · rintro i σ H2 _ ⟨_, s2, _⟩
      exact s2.seq Sa1
    · rintro i y σ H2 hy ⟨⟨v, rfl⟩, s2, us, eu, aus⟩
      rw [List.getElem?_map] at hy
      obtain ⟨t, et, rfl⟩ := Option.map_eq_some_iff.mp hy
      refine s_gn (σ' := [some (.int t), some (.int B)]) rfl ?_
      refine blkN ?_
      walk_at "rd"
      refine ⟨t, B, rfl, f0 t (List.mem_of_getElem? et), b0, sB, fun x y w H3 s3 fw L3 => ?_⟩
      have lus := aus.len
      rw [List.length_take] at lus
      have t4 : Tups H3 (upd H3 ac2 (.lst (us ++ [w]))) := Tups.lst (s3 _ _ eu)
      refine ⟨us, s3 _ _ eu, Nat.lt_of_le_of_lt (show us.length ≤ 12 by omega) (by decide), ⟨_, rfl⟩, (Same.trans s2 s3).updN n2, us ++ [w], upd_same, ?_⟩
      rw [List.take_add_one, et]
      exact fr_mono t4 ((fr_mono s3.tups aus).push ⟨x, y, .of fw, L3⟩)
    · rintro σ H2 ⟨_, s2, us, eu, aus⟩
      rw [List.length_map, List.take_length] at aus
      have lk := L.el.len
      have lu := au.len
      rw [List.length_take] at lu
      have t4 : Tups H2 (upd H2 acc (.lst (ks.map V.ref ++ [.ref ac2]))) := Tups.lst (s2 _ _ L.out)
      refine ⟨_, s2 _ _ L.out, by rw [List.length_map]; exact Nat.lt_of_le_of_lt (show ks.length ≤ 3 by omega) (by decide), ⟨_, rfl⟩, (Same.trans s1 s2).updN na, ks ++ [ac2], uss ++ [us], L.push s1 s2 n2 eu, ?_⟩
      rw [List.take_add_one, ef]
      exact (au.imp fun _ _ z => fr_mono t4 (fr_mono s2.tups z)).push (fr_mono t4 aus)
  · rintro σ H1 ⟨_, s1, ks, uss, L, au⟩
    rw [len, List.take_length] at au
    exact q ks uss H1 s1 L au
/-- the roads told -/
theorem toldcomp {B : Int} {lr acc : Addr} {qvs : List V} {rds : List Road} (b0 : 0 < B) (sB : Sm B) (S : SqL K H lr qvs) (aq : All2 (RdV H) qvs rds) (okb : OkB rds) (l : rds.length ≤ 12) (na : H acc = none)
    (q : ∀ tvs H', Same H H' → H' acc = some (.lst tvs) → All2 (RtV K B H') tvs rds → Q (.ref acc) H') :
    CompW (Itl K lr) acc (gName 0) tNoIf (tOp (rAddA K) (tSl (rSlT K) (tVar 0) tNoPart (tPart (tC (.int 2)))) (tTup (tCons (tCall (spLLow K) [] E0 (tCons (tOp (rIx K) (tVar 0) (tC (.int 2))) (tCons (tVar 1) tNil))) (tCons (tCall (spLLow K) [] E0 (tCons (tOp (rIx K) (tVar 0) (tC (.int 3))) (tCons (tVar 1) tNil))) (tCons (tOp (rIx K) (tVar 0) (tC (.int 4))) tNil))))) [none, some (.int B)] H Q := by
  have len := aq.len
  refine compL (xs := qvs) (fun j σ H' => (∃ v, σ = [v, some (.int B)]) ∧ Same H H' ∧ ∃ tvs, H' acc = some (.lst tvs) ∧ All2 (RtV K B H') tvs (rds.take j)) ⟨⟨_, rfl⟩, Same.new na, [], upd_same, by simp; exact .nil⟩ ?_ ?_ ?_
  · rintro j σ H1 _ ⟨_, s1, _⟩
    exact s1.seq S
  · rintro j x σ H1 hx ⟨⟨v, rfl⟩, s1, tvs, et, at'⟩
    obtain ⟨r, er, p, w1, w2, rfl, hp, rfl, rfl⟩ := aq.get hx
    have jl : j < rds.length := (List.getElem?_eq_some_iff.mp er).1
    obtain ⟨b1, _, l1, _⟩ := okb r (List.mem_of_getElem? er)
    have Sp1 := SqT.of (K := K) (s1 _ _ hp)
    refine s_gn (σ' := [some (.ref p), some (.int B)]) rfl ?_
    refine blkN ?_
    walk_at "rd"
    refine s_slT Sp1 (by show ¬ ((0 : Nat) = 0 ∧ (2 : Nat) = 5); decide) fun pt H2 _ s2 e2 => ?_
    have Sp2 := s2.tup Sp1
    walk_at "rd"
    refine ⟨r.b, B, rfl, b1, b0, sB, fun x y w H3 s3 fw L3 => ?_⟩
    have Sp3 := s3.tup Sp2
    walk_at "rd"
    refine ⟨r.l, B, rfl, l1, b0, sB, fun x' y' w' H4 s4 fw' L4 => ?_⟩
    have Sp4 := s4.tup Sp3
    walk_at "rd"
    refine s_al ln3 fun p3 H5 s5 e5 => ?_
    have s25 := Same.trans s3 (Same.trans s4 s5)
    refine s_catT (s25.tup (SqT.of e2)) (SqT.of e5) (by show [V.int r.s, V.int r.e] ≠ []; simp) (by simp) (by show 2 + 3 ≤ sizeLine; decide) fun p5 H6 _ s6 e6 => ?_
    have s16 := Same.trans s2 (Same.trans s25 s6)
    have lt := at'.len
    rw [List.length_take] at lt
    have t4 : Tups H6 (upd H6 acc (.lst (tvs ++ [.ref p5]))) := Tups.lst (s16 _ _ et)
    have f1 : FrB K B H3 w r.b := ⟨x, y, .of fw, L3⟩
    have f2 : FrB K B H4 w' r.l := ⟨x', y', .of fw', L4⟩
    refine ⟨tvs, s16 _ _ et, Nat.lt_of_le_of_lt (show tvs.length ≤ 12 by omega) (by decide), ⟨_, rfl⟩, (Same.trans s1 s16).updN na, tvs ++ [.ref p5], upd_same, ?_⟩
    rw [List.take_add_one, er]
    have vn : RtV K B H6 (.ref p5) r := ⟨p5, w, w', rfl, e6, f1.mono (Same.trans s4 (Same.trans s5 s6)).tups, f2.mono (Same.trans s5 s6).tups⟩
    exact ((at'.imp fun _ _ z => z.mono s16.tups).push vn).imp fun _ _ z => z.mono t4
  · rintro σ H1 ⟨_, s1, tvs, et, at'⟩
    rw [len, List.take_length] at at'
    exact q tvs H1 s1 et at'
def lowD (B x : Int) : PyData := .tuple [.int (x.fdiv (Int.gcd x B : Int)), .int (B.fdiv (Int.gcd x B : Int))]
theorem low_one {x B t b t' b' : Int} (b0 : 0 < B) (L : Low x B t b) (L' : Low x B t' b') : t = t' ∧ b = b' := by
  have h1 : b ∣ b' := (L.cross (t' := t') (b' := b') (by omega) L'.eq.symm).bottom L'.pos
  have h2 : b' ∣ b := (L'.cross (t' := t) (b' := b) (by omega) L.eq.symm).bottom L.pos
  have p := L.pos
  have p' := L'.pos
  have e : b = b' := Int.le_antisymm (Int.le_of_dvd p' h1) (Int.le_of_dvd p h2)
  subst e
  exact ⟨Int.eq_of_mul_eq_mul_right (by omega) (L.eq.trans L'.eq.symm), rfl⟩
theorem FrB.rp {B : Int} {H : Hp} {v : V} {x : Int} (b0 : 0 < B) (f : FrB K B H v x) : Rp K H v (lowD B x) := by
  obtain ⟨t, b, ⟨p, rfl, S⟩, L⟩ := f
  obtain ⟨_, _, L2, _, _⟩ := low2 (t := x) (b := B) (d := (Int.gcd x B : Int)) (by omega) (by rw [if_neg (by omega)])
  obtain ⟨e1, e2⟩ := low_one b0 L L2
  unfold lowD
  rw [← e1, ← e2]
  exact .tup S (.cons (.int _) (.cons (.int _) .nil))
theorem two_pd {n : Nat} {x y : Int} : PD (n + 1) (.tuple [.int x, .int y]) := PD.tuple fun d hd => by
  simp only [List.mem_cons, List.not_mem_nil, or_false] at hd
  rcases hd with rfl | rfl <;> exact PD.int _
theorem all_map {α β γ : Type} {R : α → β → Prop} {S : α → γ → Prop} {f : β → γ} (k : ∀ a b, R a b → S a (f b)) {as : List α} {bs : List β} (h : All2 R as bs) : All2 S as (bs.map f) := by
  induction h with
  | nil => exact .nil
  | cons r _ ih => exact .cons (k _ _ r) ih
theorem pd_map {β : Type} {f : β → PyData} {n : Nat} (k : ∀ b, PD n (f b)) {bs : List β} : PD (n + 1) (.list (bs.map f)) := PD.list fun d hd => by
  obtain ⟨b, _, rfl⟩ := List.mem_map.mp hd
  exact k b
def roadD (B : Int) (r : Road) : PyData := .tuple [.int r.s, .int r.e, lowD B r.b, lowD B r.l, .bool r.la]
theorem RtV.rp {B : Int} {H : Hp} {v : V} {r : Road} (b0 : 0 < B) (h : RtV K B H v r) : Rp K H v (roadD B r) := by
  obtain ⟨p, v1, v2, rfl, e, f1, f2⟩ := h
  exact .tup (SqT.of e) (.cons (.int _) (.cons (.int _) (.cons (f1.rp b0) (.cons (f2.rp b0) (.cons (.bl _) .nil)))))
theorem roadD_pd {B : Int} {r : Road} : PD 2 (roadD B r) := PD.tuple fun d hd => by
  simp only [List.mem_cons, List.not_mem_nil, or_false] at hd
  rcases hd with rfl | rfl | rfl | rfl | rfl
  · exact PD.int _
  · exact PD.int _
  · exact two_pd
  · exact two_pd
  · exact PD.bool _
theorem fr_rp {B : Int} {H : Hp} {a : Addr} {us : List V} {xs : List Int} (b0 : 0 < B) (S : SqL K H a us) (h : All2 (FrB K B H) us xs) : Rp K H (.ref a) (.list (xs.map (lowD B))) := .lst S (rps_of (all_map (fun _ _ z => z.rp b0) h))
theorem tab_inc {m size num k j : Nat} {ws : List Nat} {F : Nat → Nat → Int} (hn : num < m) (hk : k < size) (ek : ws[j]? = some k) :
    (tab m size fun w k => F w k + if num = w then ((ws.take j).count k : Int) else 0).set num (((List.range size).map fun k => F num k + if num = num then ((ws.take j).count k : Int) else 0).set k (F num k + (if num = num then ((ws.take j).count k : Int) else 0) + 1)) = tab m size fun w k => F w k + if num = w then ((ws.take (j + 1)).count k : Int) else 0 := by
  rw [tab_set hn hk]
  apply tab_congr
  intro w' hw' k' hk'
  have tk : ws.take (j + 1) = ws.take j ++ [k] := by rw [List.take_add_one, ek]; rfl
  rw [tk, List.count_append]
  by_cases c1 : w' = num
  · subst c1
    by_cases c2 : k' = k
    · subst c2
      simp
      omega
    · rw [if_neg (fun z => c2 z.2)]
      have : List.count k' [k] = 0 := by simp [Ne.symm c2]
      rw [this]
      simp
  · rw [if_neg (fun z => c1 z.1)]
    have c1' : ¬ num = w' := fun z => c1 z.symm
    simp [c1']
theorem bring_nn {k j : Nat} {ps : List (Row × Int)} (h : ∀ p ∈ ps, 0 ≤ p.2) : 0 ≤ bring k j ps := by
  induction ps with
  | nil => simp [bring]
  | cons p ps ih =>
    have := ih fun q hq => h q (List.mem_cons_of_mem _ hq)
    have := h p (by simp)
    unfold bring at this ⊢
    rw [List.map_cons, List.sum_cons]
    have : 0 ≤ (if p.1.num = k then p.2 * (p.1.w.count j : Int) else 0) := by
      split
      · exact Int.mul_nonneg (by omega) (by omega)
      · omega
    unfold bring at *
    omega
theorem bring_le {k j : Nat} {M : Int} : ∀ {ps : List (Row × Int)}, (∀ p ∈ ps, 0 ≤ p.2 ∧ p.2 ≤ M ∧ p.1.w.length ≤ 7) → bring k j ps ≤ 7 * M * ps.length
  | [], _ => by simp [bring]
  | p :: ps, h => by
    have ih := bring_le (k := k) (j := j) (M := M) (ps := ps) fun q hq => h q (List.mem_cons_of_mem _ hq)
    obtain ⟨h0, h1, h7⟩ := h p (by simp)
    unfold bring at ih ⊢
    rw [List.map_cons, List.sum_cons, List.length_cons]
    have hc : (p.1.w.count j : Int) ≤ 7 := by
      have := List.count_le_length (a := j) (l := p.1.w)
      omega
    have : (if p.1.num = k then p.2 * (p.1.w.count j : Int) else 0) ≤ 7 * M := by
      split
      · have z1 : p.2 * (p.1.w.count j : Int) ≤ p.2 * 7 := Int.mul_le_mul_of_nonneg_left hc h0
        omega
      · omega
    push_cast
    rw [Int.mul_add, Int.mul_one]
    omega
end KC

end

section
set_option maxHeartbeats 16000000
namespace KC
open PySem L2 Fr Cnt
local macro_rules | `(tactic| walk_at "rd1") => `(tactic| first | ((with_reducible refine' s_set2 ?hs ?_); (case hs => ((simp only [List.set_cons_succ, List.set_cons_zero]) <;> exact rfl))) | ((with_reducible refine' s_set ?hs ?_); (case hs => ((simp only [List.set_cons_succ, List.set_cons_zero]) <;> exact rfl))) | (with_reducible refine s_seq ?_) | (with_reducible refine s_asg ?_) | (with_reducible refine s_if ?_) | (with_reducible refine s_asgG ?_) | (with_reducible refine s_gsub ?_) | (with_reducible refine s_sl ?_) | (with_reducible refine s_noPart ?_) | (with_reducible refine s_part ?_) | (with_reducible refine s_exI ?_) | (with_reducible refine s_ret ?_) | (with_reducible refine s_op ?_) | (with_reducible refine s_c ?_) | (with_reducible refine s_cons ?_) | (with_reducible refine s_nil ?_) | (with_reducible refine s_call ?_) | (with_reducible refine s_cb ?_) | (with_reducible refine s_test ?_) | (with_reducible refine s_b ?_) | (with_reducible refine s_and ?_) | (with_reducible refine s_or ?_) | (with_reducible refine s_not ?_) | (with_reducible refine s_andV ?_) | (with_reducible refine s_orV ?_) | (with_reducible refine s_notV ?_) | (with_reducible refine s_ifx ?_) | (with_reducible refine s_chain ?_) | (with_reducible refine s_un ?_) | (with_reducible refine s_tup ?_) | (with_reducible refine s_lst ?_) | (with_reducible refine s_drop ?_) | (with_reducible refine s_retN ?_) | (with_reducible refine s_next ?_) | (with_reducible refine s_break ?_) | (with_reducible refine s_cont ?_) | (with_reducible refine s_par ?_) | ((with_reducible refine' s_var ?hv ?_); (case hv => exact rfl)) | (with_reducible refine s_bl ?_) | (with_reducible refine s_rI0 ?_) | (with_reducible refine s_eqI ?_) | (with_reducible refine s_neI ?_) | (with_reducible refine s_eqB ?_) | (with_reducible refine s_rU ?_) | (with_reducible refine s_eqAI ?_) | (with_reducible refine s_neAI ?_) | (with_reducible refine s_eqAB ?_) | (with_reducible refine s_addI ?_) | ((with_reducible refine' s_ixST ?hq ?he ?_); (case hq => assumption); (case he => exact rfl)) | ((with_reducible refine' s_ixSL ?hq ?he ?_); (case hq => assumption); (case he => exact rfl)) | ((with_reducible refine' s_abs1 ?_)) | ((with_reducible refine' s_lenL ?hq ?_); (case hq => assumption)) | ((with_reducible refine' s_lenT ?hq ?_); (case hq => assumption)) | (with_reducible refine s_isN ?_) | (with_reducible refine s_for ?_) | (with_reducible refine s_iList ?_) | (with_reducible refine s_iTup ?_) | (with_reducible refine s_iR1 ?_) | (with_reducible refine s_iR2 ?_) | (with_reducible refine s_iEnum ?_) | (with_reducible refine s_iZip ?_) | ((with_reducible refine' s_jList ?hq ?_); (case hq => assumption)) | ((with_reducible refine' s_jTup ?hq ?_); (case hq => assumption)) | ((with_reducible refine' s_jEnum ?hq ?_); (case hq => assumption)) | ((with_reducible refine' s_jZip ?hq ?hr ?_); (case hq => assumption); (case hr => assumption)) | ((with_reducible refine' s_aug ?hv ?_); (case hv => exact rfl)) | (with_reducible refine s_augS ?_) | (with_reducible refine s_ipI ?_) | (with_reducible refine s_int1 ?_) | (with_reducible refine s_bm ?_) | (with_reducible refine s_bm0 ?_) | ((with_reducible refine' s_tyL ?hq ?_); (case hq => assumption)) | (with_reducible refine s_notN ?_) | (with_reducible refine s_min2 ?_) | (with_reducible refine s_max2 ?_) | (with_reducible refine s_nx ?_) | (with_reducible refine s_rt ?_) | (with_reducible refine s_bk ?_) | (with_reducible refine s_ct ?_) | (with_reducible refine iteT ?_) | (with_reducible refine iteNt ?_) | (with_reducible refine iteNf ?_) | ((with_reducible refine iteN ?hz ?_); (case hz => exact rfl)) | ((with_reducible refine iteY ?hz ?_); (case hz => exact rfl)) | (with_reducible refine iteF ?_) | ((with_reducible refine' s_ixT ?hq ?he ?_); (case hq => assumption); (case he => exact rfl)) | ((with_reducible refine' s_ixL ?hq ?he ?_); (case hq => assumption); (case he => exact rfl)) | ((with_reducible refine s_rI ?hc ?_); (case hc => first | assumption | exact mulOk (by assumption) (by assumption) | exact (show (0 : Int) < _ by decide) | omega)))
local macro_rules | `(tactic| walk_at "rd") => `(tactic| repeat walk_at "rd1")
variable {K : PySem.W.Frag} {c : Cs} {H : Hp} {vs : List V} {Q : VK} {E : XK}
theorem ln4' {x y z w : V} : ([x, y, z, w] : List V).length ≤ sizeLine := by show 4 ≤ sizeLine; decide
theorem ZsV.same {H H' : Hp} {v : V} {xs : List Int} (s : Same H H') (h : ZsV H v xs) : ZsV H' v xs := by
  obtain ⟨a, rfl, e⟩ := h
  exact ⟨a, rfl, s _ _ e⟩
theorem all_mapL {α β γ : Type} {R : α → β → Prop} {S : γ → β → Prop} {f : α → γ} (k : ∀ a b, R a b → S (f a) b) {as : List α} {bs : List β} (h : All2 R as bs) : All2 S (as.map f) bs := by
  induction h with
  | nil => exact .nil
  | cons r _ ih => exact .cons (k _ _ r) ih
theorem all_comp {α β γ : Type} {R : α → β → Prop} {S : β → γ → Prop} : ∀ {as : List α} {bs : List β} {cs : List γ}, All2 R as bs → All2 S bs cs → All2 (fun a c => ∃ b, R a b ∧ S b c) as cs
  | _, _, _, .nil, .nil => .nil
  | _, _, _, .cons r h, .cons s k => .cons ⟨_, r, s⟩ (all_comp h k)
def Off (as : List Addr) (H H' : Hp) : Prop := ∀ b o, b ∉ as → H b = some o → H' b = some o
theorem Off.to {as : List Addr} {H H1 H2 : Hp} (h : Off as H H1) (s : Same H1 H2) : Off as H H2 := fun b o n e => s _ _ (h b o n e)
theorem Off.upd {as : List Addr} {H H1 : Hp} {a : Addr} {o : HO} (h : Off as H H1) (ha : a ∈ as) : Off as H (L2.upd H1 a o) := fun b u n e => by
  have nz : b ≠ a := fun z => n (by rw [z]; exact ha)
  rw [upd_ne nz]
  exact h b u n e
theorem LL.off {H0 H : Hp} {lo b : Addr} {as : List Addr} {xss : List (List V)} {o : HO} (h : LL H0 H lo as xss) (n1 : b ∉ as) (n2 : b ≠ lo) : LL H0 (L2.upd H b o) lo as xss :=
  ⟨by rw [upd_ne (Ne.symm n2)]; exact h.out, h.nd, h.nlo, h.fr, all2_memL (fun a xs ha z => by
    have nz : a ≠ b := fun e => n1 (by rw [← e]; exact ha)
    rw [upd_ne nz]
    exact z) h.el⟩
theorem LL.sh {B : Int} {H0 H : Hp} {lo : Addr} {as : List Addr} {uss : List (List V)} {fls : List (List Int)} (h : LL H0 H lo as uss) (u : All2 (All2 (FrB K B H)) uss fls) : All2 (ShV K B H) (as.map V.ref) fls :=
  all_mapL (fun _ _ ⟨us, e, f⟩ => ⟨_, us, rfl, SqL.of e, f⟩) (all_comp h.el u)
theorem LL.zs {H0 H : Hp} {lo : Addr} {as : List Addr} {fls : List (List Int)} (h : LL H0 H lo as (fls.map fun xs => xs.map V.int)) : All2 (ZsV H) (as.map V.ref) fls := by
  have key : ∀ {as : List Addr} {fls : List (List Int)}, All2 (fun a xs => H a = some (.lst xs)) as (fls.map fun xs => xs.map V.int) → All2 (ZsV H) (as.map V.ref) fls := by
    intro as fls
    induction fls generalizing as with
    | nil => intro h; cases h; exact .nil
    | cons f fls ih =>
      intro h
      cases h with
      | cons r t => exact .cons ⟨_, rfl, r⟩ (ih t)
  exact key h.el
theorem sh_rp {B : Int} {H0 H : Hp} {lo : Addr} {as : List Addr} {uss : List (List V)} {fls : List (List Int)} (b0 : 0 < B) (h : LL H0 H lo as uss) (u : All2 (All2 (FrB K B H)) uss fls) : Rp K H (.ref lo) (.list (fls.map fun f => .list (f.map (lowD B)))) :=
  .lst (SqL.of h.out) (rps_of (all_map (fun _ _ z => by
    obtain ⟨a, us, rfl, S, f⟩ := z
    exact fr_rp b0 S f) (h.sh u)))
theorem rd_law (h : spLaw K vs H Q E) : t_law K (EN Q) (start ["_law_script", "_law_many_here", "_law_wishes_here", "_law_roads_here", "_law_rows_here", "_law_flows_here", "_law_low", "_law_bottom", "_law_told", "_law_net", "_law_share", "_law_kept", "_law_order", "_law_which", "_law_held_here", "_law_row", "_law_other", "_law_k"] vs) H := by
  obtain ⟨a, ns, rfl, S, n63, q⟩ := h
  show t_law K (EN Q) [some (.ref a), none, none, none, none, none, none, none, none, none, none, none, none, none, none, none, none, none] H
  walk_at "rd"
  refine ⟨_, _, _, rfl, S, by decide, by decide, fun z => ?_⟩
  walk_at "rd"
  obtain ⟨n, en, n2, n6⟩ : ∃ n : Nat, 2 + z % 5 = (n : Int) ∧ 2 ≤ n ∧ n ≤ 6 := by
    have a0 := Int.emod_nonneg z (show (5 : Int) ≠ 0 by decide)
    have a1 := Int.emod_lt_of_pos z (show (0 : Int) < 5 by decide)
    obtain ⟨n, en⟩ := Int.eq_ofNat_of_zero_le (show 0 ≤ 2 + z % 5 by omega)
    exact ⟨n, en, by omega, by omega⟩
  rw [en]
  refine ⟨a, ns, n, rfl, S, n2, n6, fun lw wvs wis H1 nlw s1 elw aw w1 w3 okw => ?_⟩
  have S1 := s1.seq S
  walk_at "rd"
  refine ⟨a, lw, ns, n, wvs, wis, rfl, S1, n2, n6, SqL.of elw, aw, w1, w3, okw, fun l rvs rds H2 s2 el alr g1 g2 okr okb okc => ?_⟩
  have elw2 := s2 _ _ elw
  have aw2 : All2 (WiV H2) wvs wis := aw.imp fun _ _ z => z.mono s2.tups
  walk_at "rd"
  refine ⟨l, lw, n, rvs, wvs, rds, wis, rfl, SqL.of el, alr, g2, okr, n6, SqL.of elw2, aw2, w1, w3, okw, okc, fun lo ovs rows H3 s3 elo ao r1 r39 okro => ?_⟩
  have s03 := Same.trans s1 (Same.trans s2 s3)
  have S3 := s03.seq S
  walk_at "rd"
  refine ⟨a, lo, ns, ovs, rows, rfl, S3, n63, SqL.of elo, ao, r1, r39, fun lm ams H4 s4 elm lam bam => ?_⟩
  have s24 := Same.trans s3 s4
  have elo4 := s4 _ _ elo
  have ao4 : All2 (RowV H4) ovs rows := ao.imp fun _ _ z => z.same s4
  have Slw4 := SqL.of (K := K) (s24 _ _ elw2)
  have Sl4 := SqL.of (K := K) (s24 _ _ el)
  have lwv := aw.len
  have lrv := alr.len
  have lov := ao.len
  walk_at "rd"
  obtain ⟨ps, eps⟩ : ∃ ps, ps = rows.zip ams := ⟨_, rfl⟩
  refine ⟨lo, lm, ovs, rows, ams, wvs.length, rvs.length, rds, wis, rfl, SqL.of elo4, ao4, SqL.of elm, lam, okro, by omega, by omega, by omega, by omega, fun lf fvs H5 s5 elf af => ?_⟩
  rw [lwv, lrv, ← eps] at af
  obtain ⟨m, em⟩ : ∃ m, m = wis.length := ⟨_, rfl⟩
  obtain ⟨fls, efls⟩ : ∃ fls, fls = tab m rds.length fun w k => bring w k ps := ⟨_, rfl⟩
  rw [← em] at af
  replace af : All2 (ZsV H5) fvs fls := by rw [efls]; exact af
  have bps : ∀ p ∈ ps, 0 ≤ p.2 ∧ p.2 ≤ 2 ^ 70 ∧ p.1.w.length ≤ 7 := fun p hp => by
    rw [eps] at hp
    obtain ⟨w, _, _, l7⟩ := okro p.1 (List.of_mem_zip hp).1
    exact ⟨(bam p.2 (List.of_mem_zip hp).2).1, (bam p.2 (List.of_mem_zip hp).2).2, l7⟩
  have lps : ps.length ≤ 39 := by rw [eps, List.length_zip]; omega
  have bbd : ∀ w k, 0 ≤ bring w k ps ∧ bring w k ps ≤ 2 ^ 80 := fun w k => by
    refine ⟨bring_nn fun p hp => (bps p hp).1, ?_⟩
    have h1 := bring_le (k := w) (j := k) (M := 2 ^ 70) bps
    have h2 : (7 * 2 ^ 70 : Int) * (ps.length : Int) ≤ 7 * 2 ^ 70 * 39 := Int.mul_le_mul_of_nonneg_left (by omega) (by decide)
    omega
  have okT : ∀ G : Nat → Nat → Int, (∀ w k, 0 ≤ G w k ∧ G w k ≤ 7) → OkF rds.length (tab m rds.length fun w k => bring w k ps + G w k) := fun G hG => by
    refine ⟨by simp [tab]; omega, fun f hf => ?_⟩
    obtain ⟨w, _, rfl⟩ := List.mem_map.mp hf
    refine ⟨by simp, fun x hx => ?_⟩
    obtain ⟨k, _, rfl⟩ := List.mem_map.mp hx
    have := bbd w k
    have := hG w k
    show 0 ≤ bring w k ps + G w k ∧ bring w k ps + G w k ≤ 2 ^ 90
    omega
  have okF : OkF rds.length fls := by
    have := okT (fun _ _ => 0) fun _ _ => by omega
    rw [efls]
    simpa using this
  have s25 := Same.trans s24 s5
  have s05 := Same.trans s1 (Same.trans s2 s25)
  walk_at "rd"
  refine s_al ln4' fun lp H6 s6 e6 => ?_
  have S6 := (Same.trans s05 s6).seq S
  have s26 := Same.trans s25 s6
  walk_at "rd"
  refine ⟨_, _, _, rfl, S6, by decide, by decide, fun zl zl0 zl1 => ?_⟩
  walk_at "rd"
  have pick : ∃ lw0 : Int, atI ([.int 1, .int 2, .int 3, .int 6] : List V) (zl % 4) = some (.int lw0) ∧ 0 < lw0 ∧ lw0 ≤ 6 := by
    have a0 := Int.emod_nonneg zl (show (4 : Int) ≠ 0 by decide)
    have a1 := Int.emod_lt_of_pos zl (show (0 : Int) < 4 by decide)
    generalize zl % 4 = j at a0 a1
    rcases (by omega : j = 0 ∨ j = 1 ∨ j = 2 ∨ j = 3) with rfl | rfl | rfl | rfl
    · exact ⟨_, rfl, by decide, by decide⟩
    · exact ⟨_, rfl, by decide, by decide⟩
    · exact ⟨_, rfl, by decide, by decide⟩
    · exact ⟨_, rfl, by decide, by decide⟩
  obtain ⟨lw0, hlo, lo0, lo6⟩ := pick
  refine s_ixSL (SqL.of e6) hlo ?_
  walk_at "rd"
  refine ⟨_, _, _, rfl, S6, by decide, by decide, fun zb zb0 zb1 => ?_⟩
  have d4 : CDivB zb 4 := cd (by decide) (by decide)
  walk_at "rd"
  obtain ⟨B, eB, b0, b6⟩ : ∃ B : Int, 1 + zb.fdiv 4 % 3 = B ∧ 0 < B ∧ B ≤ 6 := by
    have a0 := Int.emod_nonneg (zb.fdiv 4) (show (3 : Int) ≠ 0 by decide)
    have a1 := Int.emod_lt_of_pos (zb.fdiv 4) (show (0 : Int) < 3 by decide)
    exact ⟨_, rfl, by omega, by omega⟩
  rw [eB]
  have sB : Sm B := (sz4 b0 (by omega)).sm
  have sL : Sm lw0 := (sz4 lo0 (by omega)).sm
  refine s_comp (σ' := [none, some (.int lw0)]) rfl ?_
  have Sl6 := SqL.of (K := K) (s26 _ _ el)
  have alr6 := rds_mono s26.tups alr
  walk_at "rd"
  intro a8 na8
  refine toldcomp lo0 sL Sl6 alr6 okb g2 na8 fun tvs H7 s7 e7 at7 => ?_
  have S87 := SqL.of (K := K) e7
  walk_at "rd"
  refine s_listL S87 fun ll H8 n8 s8 e8 => ?_
  walk_at "rd"
  refine s_al ln2 fun pn H9 s9 e9 => ?_
  have s79 := Same.trans s8 s9
  have s69 := Same.trans s7 s79
  have s29 := Same.trans s26 s69
  have s59 := Same.trans s6 s69
  have S9 := s69.seq S6
  have Sl9 := s69.seq Sl6
  have alr9 := rds_mono s69.tups alr6
  have N9 : NetV K lw0 H9 (.ref pn) n tvs rds := ⟨pn, ll, rfl, SqT.of e9, SqL.of (s9 _ _ e8), at7.imp fun _ _ z => z.mono s79.tups⟩
  have S89 := s79.seq S87
  have Sll9 := SqL.of (K := K) (s9 _ _ e8)
  have Sf9 := SqL.of (K := K) (s59 _ _ elf)
  have af9 : All2 (ZsV H9) fvs fls := af.imp fun _ _ z => ZsV.same s59 z
  have lfl : fls.length = m := by rw [efls]; simp [tab]
  have okro' : ∀ r ∈ rows, r.num < m ∧ (∀ k ∈ r.w, k < rds.length) ∧ r.w.length ≤ 7 := fun r hr => by
    have h1 := (okro r hr).lt
    obtain ⟨w, _, _, l7⟩ := okro r hr
    exact ⟨by omega, h1.2, l7⟩
  have elo9 := (Same.trans s4 (Same.trans s5 s59)) _ _ elo
  have ao9 : All2 (RowV H9) ovs rows := ao.imp fun _ _ z => z.same (Same.trans s4 (Same.trans s5 s59))
  clear okr okc okw aw aw2 elw elw2 Slw4 nlw s1 s2 s3 s4 s5 s6 s24 s25 s26 s05 s03 elo elo4 ao ao4 elm S6 Sl6 Sl4 S3 S1 e6 alr6 alr s7 s8 s9 af elf el okro
  walk_at "rd"
  refine s_comp (σ' := [none, some (.int B)]) rfl ?_
  walk_at "rd"
  intro a10 na10
  refine sharecomp b0 sB Sf9 af9 (fun f hf => ⟨by have := (okF.2 f hf).1; omega, fun x hx => ((okF.2 f hf).2 x hx).1⟩) okF.1 na10 fun as uss HA sA LA uA => ?_
  have SA := SqL.of (K := K) LA.out
  have luss := uA.len
  walk_at "rd"
  refine s_comp (σ' := [none]) rfl ?_
  walk_at "rd"
  intro a11 na11
  refine copycomp SA (all_mapL (fun _ _ z => ⟨_, rfl, SqL.of z⟩) LA.el) (by have := okF.1; omega) na11 fun ks HB sB' LB => ?_
  have sAB := Same.trans sA sB'
  have SBs := sAB.seq S9
  walk_at "rd"
  refine s_comp (σ' := [none, some (.ref a)]) rfl ?_
  walk_at "rd"
  refine s_jR1 (by decide) ?_
  intro a12 na12
  refine compR (fun i σ H' => (∃ v, σ = [v, some (.ref a)]) ∧ Same HB H' ∧ ∃ os : List Int, H' a12 = some (.lst (os.map V.int)) ∧ os.length = i) ⟨⟨_, rfl⟩, Same.new na12, [], upd_same, rfl⟩ ?_ ?_
  · rintro i σ HC hi ⟨⟨v, rfl⟩, sC, os, eo, lo'⟩
    have hi : i < 5 := hi
    refine s_gn (σ' := [some (.int (0 + i)), some (.ref a)]) rfl ?_
    refine blkN ?_
    walk_at "rd"
    refine ⟨_, _, _, rfl, sC.seq SBs, by decide, by decide, fun z _ _ => ?_⟩
    have d3 : CDivB z 3 := cd (by decide) (by decide)
    have m2 : CMulX 2 (0 + (i : Int)) := cml (by decide)
    walk_at "rd"
    refine ⟨_, eo, by rw [List.length_map]; exact Nat.lt_of_le_of_lt (show os.length ≤ 5 by omega) (by decide), ⟨_, rfl⟩, sC.updN na12, os ++ [_], by rw [upd_same, List.map_append]; rfl, by rw [List.length_append, lo']; rfl⟩
  rintro σ HC ⟨_, sC, os, eo, _⟩
  have s9C := Same.trans sAB sC
  have sAC := Same.trans sB' sC
  have So := SqL.of (K := K) eo
  have uC : All2 (All2 (FrB K B HC)) uss fls := uA.imp fun _ _ z => fr_mono sAC.tups z
  have SaC := sAC.seq SA
  have shC := (LA.same sAC).sh uC
  have SfC := s9C.seq Sf9
  have afC : All2 (ZsV HC) fvs fls := af9.imp fun _ _ z => ZsV.same s9C z
  walk_at "rd"
  refine for_list (xs := os.map V.int) (fun i σ H' => (∃ v13, σ = [some (.ref a), some (.int n), some (.ref lw), some (.ref l), some (.ref lo), some (.ref lf), some (.int lw0), some (.int B), some (.ref a8), some (.ref pn), some (.ref a10), some (.ref a11), some (.ref a12), v13, none, none, none, none]) ∧ Same HC H') ⟨⟨_, rfl⟩, Same.refl _⟩ ?_ ?_ ?_
  · rintro i σ T1 _ ⟨_, t1⟩
    exact t1.seq So
  · rintro i x σ T1 hx ⟨⟨v13, rfl⟩, t1⟩
    obtain ⟨wh, rfl⟩ : ∃ wh : Int, x = .int wh := by rw [List.getElem?_map] at hx; obtain ⟨w, _, rfl⟩ := Option.map_eq_some_iff.mp hx; exact ⟨w, rfl⟩
    refine s_gn (σ' := [some (.ref a), some (.int n), some (.ref lw), some (.ref l), some (.ref lo), some (.ref lf), some (.int lw0), some (.int B), some (.ref a8), some (.ref pn), some (.ref a10), some (.ref a11), some (.ref a12), some (.int wh), none, none, none, none]) rfl ?_
    dsimp only
    walk_at "rd"
    refine ⟨wh, lw0, B, .ref pn, a10, l, lf, n, tvs, _, rvs, _, rds, fls, rfl, lo0, lo6, b0, b6, (N9.same s9C).same t1, t1.seq SaC, shC.imp fun _ _ z => ShV.same t1 z, okF, g2, okb, t1.seq (s9C.seq Sl9), rds_mono t1.tups (rds_mono s9C.tups alr9), t1.seq SfC, afC.imp fun _ _ z => ZsV.same t1 z, fun T2 t2 => ?_⟩
    walk_at "rd"
    exact ⟨⟨_, rfl⟩, Same.trans t1 t2⟩
  · rintro σ HD ⟨⟨v13, rfl⟩, sD⟩
    have sAD := Same.trans sAC sD
    have s9D := Same.trans s9C sD
    have uD : All2 (All2 (FrB K B HD)) uss fls := uA.imp fun _ _ z => fr_mono sAD.tups z
    walk_at "rd"
    refine s_neSame (n := 3) (sh_rp b0 (LA.same sAD) uD) (sh_rp b0 (LB.same (Same.trans sC sD)) uD) (pd_map fun f => pd_map fun x => two_pd) ?_
    walk_at "rd"
    refine s_al ln2 fun p9 HE sE e9' => ?_
    have s9E := Same.trans s9D sE
    have sAE := Same.trans sAD sE
    have netR : ∀ {x : Addr}, SqL K HE x tvs → Rp K HE (.ref x) (.list (rds.map (roadD lw0))) := fun hS => .lst hS (rps_of (all_map (fun _ _ z => z.rp lo0) (at7.imp fun _ _ z => (z.mono s79.tups).mono s9E.tups)))
    refine s_neSame (d := .tuple [.int n, .list (rds.map (roadD lw0))]) (n := 4) (.tup (s9E.tup (SqT.of e9)) (.cons (.int _) (.cons (netR (s9E.seq Sll9)) .nil))) (.tup (SqT.of e9') (.cons (.int _) (.cons (netR (s9E.seq S89)) .nil))) (PD.tuple fun d hd => ?_) ?_
    · simp only [List.mem_cons, List.not_mem_nil, or_false] at hd
      rcases hd with rfl | rfl
      · exact PD.int _
      · exact pd_map fun _ => roadD_pd
    have sE9 : NetV K lw0 HE (.ref pn) n tvs rds := N9.same s9E
    have SaE := sAE.seq SA
    have shE : All2 (ShV K B HE) (as.map V.ref) fls := (LA.same sAE).sh (uA.imp fun _ _ z => fr_mono sAE.tups z)
    walk_at "rd"
    refine ⟨lw0, B, _, a10, n, tvs, _, rds, fls, rfl, lo0, lo6, b0, b6, sE9, SaE, shE, okF, g2, fun y1 ws1 F1 ny1 t1' ey1 ay1 => ?_⟩
    walk_at "rd"
    refine ⟨y1, ws1, rfl, SqL.of ey1, fun p1 q1 F2 np1 nq1 _ t2' eq1 ep1 => ?_⟩
    have u2' := Same.trans t1' t2'
    walk_at "rd"
    refine ⟨lw0, B, _, a10, n, tvs, _, rds, fls, rfl, lo0, lo6, b0, b6, sE9.same u2', u2'.seq SaE, shE.imp fun _ _ z => ShV.same u2' z, okF, g2, okb, fun y2 ws2 F3 ny2 t3 ey2 ay2 => ?_⟩
    walk_at "rd"
    refine ⟨y2, ws2, rfl, SqL.of ey2, fun p2 q2 F4 np2 nq2 _ t4 eq2 ep2 => ?_⟩
    have u4 := Same.trans u2' (Same.trans t3 t4)
    walk_at "rd"
    refine ⟨lw0, B, _, a10, n, tvs, _, rds, fls, rfl, lo0, lo6, b0, b6, sE9.same u4, u4.seq SaE, shE.imp fun _ _ z => ShV.same u4 z, okF, g2, okb, fun y3 ws3 F5 ny3 t5 ey3 ay3 => ?_⟩
    walk_at "rd"
    refine ⟨y3, ws3, rfl, SqL.of ey3, fun p3 q3 F6 np3 nq3 _ t6 eq3 ep3 => ?_⟩
    have u6 := Same.trans u4 (Same.trans t5 t6)
    walk_at "rd"
    refine s_alN ln3 fun a14 HM nM tM e14 => ?_
    have sEM := Same.trans u6 tM
    have sAM := Same.trans sAE sEM
    have s9M := Same.trans s9E sEM
    have SM := s9M.seq S9
    have SoM := s9M.seq (SqL.of (K := K) elo9)
    walk_at "rd"
    refine ⟨_, _, _, rfl, SM, by decide, by decide, fun zr _ _ => ?_⟩
    have pov : (0 : Int) < (ovs.length : Int) := by omega
    walk_at "rd"
    obtain ⟨j0, ej0, jl0⟩ : ∃ j : Nat, zr % (ovs.length : Int) = (j : Int) ∧ j < ovs.length := place (by omega)
    rw [ej0]
    obtain ⟨r, er⟩ : ∃ r, rows[j0]? = some r := ⟨_, List.getElem?_eq_getElem (by omega)⟩
    obtain ⟨rv, erv, pr, ar, rfl, hpr, har⟩ := ao9.getR er
    obtain ⟨rn, rk, r7⟩ := okro' r (List.mem_of_getElem? er)
    refine s_ixSL SoM (atI_nat erv) ?_
    have SfM := s9M.seq Sf9
    walk_at "rd"
    refine s_comp (σ' := [none]) rfl ?_
    walk_at "rd"
    intro a16 na16
    refine copycomp (xss := fls.map fun xs => xs.map V.int) SfM (all_map (fun v f z => by
      obtain ⟨a', rfl, e⟩ := z
      exact ⟨a', rfl, SqL.of (s9M _ _ e)⟩) af9) (by rw [List.length_map]; exact okF.1) na16 fun zs HN sN LN => ?_
    have nas : ∀ b, HA b = none → b ∉ as := fun b nb hb => by
      obtain ⟨xs, _, ex⟩ := LA.el.memL hb
      rw [ex] at nb
      cases nb
    have nzs : ∀ b o, HM b = some o → b ∉ zs := fun b o e hb => by
      have := LN.fr b hb
      rw [e] at this
      cases this
    have sAN := Same.trans sAM sN
    have s9N := Same.trans s9M sN
    obtain ⟨fj, efj⟩ : ∃ fj : Nat → List (List Int), fj = fun j => tab m rds.length fun w k => bring w k ps + if r.num = w then ((r.w.take j).count k : Int) else 0 := ⟨_, rfl⟩
    have okj : ∀ j, OkF rds.length (fj j) := fun j => by
      rw [efj]
      refine okT _ fun w k => ?_
      have h1 := List.count_le_length (a := k) (l := r.w.take j)
      rw [List.length_take] at h1
      split <;> omega
    have f0 : fj 0 = fls := by
      rw [efj, efls]
      simp
    have SprN := SqT.of (K := K) (s9N _ _ hpr)
    have SarN := SqL.of (K := K) (s9N _ _ har)
    walk_at "rd"
    refine for_list (xs := r.w.map fun (i : Nat) => V.int i) (fun j σ H' => (∃ v17, σ = [some (.ref a), some (.int n), some (.ref lw), some (.ref l), some (.ref lo), some (.ref lf), some (.int lw0), some (.int B), some (.ref a8), some (.ref pn), some (.ref a10), some (.ref a11), some (.ref a12), v13, some (.ref a14), some (.ref pr), some (.ref a16), v17]) ∧ Same H9 H' ∧ Off (as ++ zs) HN H' ∧ Tups HN H' ∧ (∃ us', LL H9 H' a10 as us' ∧ All2 (All2 (FrB K B H')) us' (fj j)) ∧ LL HM H' a16 zs ((fj j).map fun xs => xs.map V.int))
      ⟨⟨_, rfl⟩, s9N, fun b o _ e => e, Tups.refl _, ⟨uss, LA.same sAN, by rw [f0]; exact uA.imp fun _ _ z => fr_mono sAN.tups z⟩, by rw [f0]; exact LN⟩ ?_ ?_ ?_
    · rintro j σ T1 _ ⟨_, t1, _⟩
      exact SqL.of (t1 _ _ har)
    · rintro j x σ T1 hx ⟨⟨v17, rfl⟩, t1, of1, tp1, ⟨us', L10, u10⟩, L16⟩
      rw [List.getElem?_map] at hx
      obtain ⟨k, ek, rfl⟩ := Option.map_eq_some_iff.mp hx
      have kl := rk k (List.mem_of_getElem? ek)
      refine s_gn (σ' := [some (.ref a), some (.int n), some (.ref lw), some (.ref l), some (.ref lo), some (.ref lf), some (.int lw0), some (.int B), some (.ref a8), some (.ref pn), some (.ref a10), some (.ref a11), some (.ref a12), v13, some (.ref a14), some (.ref pr), some (.ref a16), some (.int (k : Int))]) rfl ?_
      dsimp only
      have Spr := SqT.of (K := K) (t1 _ _ hpr)
      obtain ⟨FF, eFF⟩ : ∃ FF : Nat → Nat → Int, FF = fun w k => bring w k ps + if r.num = w then ((r.w.take j).count k : Int) else 0 := ⟨_, rfl⟩
      have efF : fj j = tab m rds.length FF := by rw [efj, eFF]
      rw [efF] at L16 u10
      have FF0 : 0 ≤ FF r.num k := by
        rw [eFF]
        have := (bbd r.num k).1
        show 0 ≤ bring r.num k ps + _
        split <;> omega
      have tg : ((tab m rds.length FF).map fun xs => xs.map V.int)[r.num]? = some (((List.range rds.length).map fun k => FF r.num k).map V.int) := by
        rw [List.getElem?_map, tab_get rn]
        rfl
      obtain ⟨aw, eaw, haw, naw⟩ := L16.at tg
      have ixa : atI (zs.map V.ref) (r.num : Int) = some (.ref aw) := atI_nat (by rw [List.getElem?_map, eaw]; rfl)
      have gk : (((List.range rds.length).map fun k => FF r.num k).map V.int)[k]? = some (.int (FF r.num k)) := by
        rw [List.getElem?_map, List.getElem?_map, List.getElem?_range kl]
        rfl
      have S16 := SqL.of (K := K) L16.out
      obtain ⟨ur, eur, fur⟩ := u10.getR (tab_get (F := FF) rn)
      obtain ⟨ai, eai, hai, nai⟩ := L10.at eur
      have ixs : atI (as.map V.ref) (r.num : Int) = some (.ref ai) := atI_nat (by rw [List.getElem?_map, eai]; rfl)
      have mz : aw ∈ zs := List.mem_of_getElem? eaw
      have ms : ai ∈ as := List.mem_of_getElem? eai
      have nza : aw ∉ as := fun z => by
        obtain ⟨xs, _, ex⟩ := LA.el.memL z
        rw [sAM _ _ ex] at naw
        cases naw
      have nz10 : aw ≠ a10 := fun z => by
        rw [z, sAM _ _ LA.out] at naw
        cases naw
      have nsz : ai ∉ zs := fun z => by
        obtain ⟨xs, _, ex⟩ := LA.el.memL ms
        exact nzs _ _ (sAM _ _ ex) z
      have ns16 : ai ≠ a16 := fun z => by
        obtain ⟨xs, _, ex⟩ := LA.el.memL ms
        have := sAM _ _ ex
        rw [z, na16] at this
        cases this
      walk_at "rd"
      refine s_ixSL S16 ixa ?_
      walk_at "rd"
      refine s_ixL (SqL.of haw) (atI_nat gk) ?_
      walk_at "rd"
      refine s_setL (k := k) haw (by simp; omega) ?_
      obtain ⟨T2, eT2⟩ : ∃ T2, T2 = upd T1 aw (.lst ((((List.range rds.length).map fun k => FF r.num k).map V.int).set k (.int (FF r.num k + 1)))) := ⟨_, rfl⟩
      rw [← eT2]
      have e5' : (tab m rds.length FF).set r.num (((List.range rds.length).map fun k => FF r.num k).set k (FF r.num k + 1)) = fj (j + 1) := by
        rw [efj, eFF]
        exact tab_inc (F := fun w k => bring w k ps) rn kl ek
      have L2' : LL HM T2 a16 zs ((fj (j + 1)).map fun xs => xs.map V.int) := by
        have h := L16.set (ys := (((List.range rds.length).map fun k => FF r.num k).map V.int).set k (.int (FF r.num k + 1))) eaw
        rw [← eT2] at h
        rw [← e5', List.map_set]
        rw [ints_map] at h
        exact h
      have haw2 : T2 aw = some (.lst ((((List.range rds.length).map fun k => FF r.num k).map V.int).set k (.int (FF r.num k + 1)))) := by rw [eT2]; exact upd_same
      have L10' : LL H9 T2 a10 as us' := by rw [eT2]; exact L10.off nza nz10
      have t2 : Same H9 T2 := by rw [eT2]; exact t1.updN (s9M.free naw)
      have of2 : Off (as ++ zs) HN T2 := by rw [eT2]; exact of1.upd (List.mem_append_right _ mz)
      have tp12 : Tups T1 T2 := by rw [eT2]; exact Tups.lst haw
      have u10' : All2 (All2 (FrB K B T2)) us' (tab m rds.length FF) := u10.imp fun _ _ z => fr_mono tp12 z
      have hai2 : T2 ai = some (.lst ur) := by
        rw [eT2, upd_ne (fun z => nsz (by rw [z]; exact mz))]
        exact hai
      have tp2 := tp1.trans tp12
      clear eT2 L16 L10 u10 of1 tp1 tp12 t1 haw hai S16 Spr
      have Spr := SqT.of (K := K) (t2 _ _ hpr)
      have S16 := SqL.of (K := K) L2'.out
      walk_at "rd"
      refine s_ixSL S16 ixa ?_
      walk_at "rd"
      refine s_ixSL (SqL.of haw2) (atI_nat (v := .int (FF r.num k + 1)) (by rw [List.getElem?_set_self (by simp; omega)])) ?_
      walk_at "rd"
      refine ⟨FF r.num k + 1, B, rfl, by omega, b0, sB, fun x y w T3 t3 fw L3 => ?_⟩
      have Spr3 := t3.tup Spr
      have L10'' := L10'.same t3
      have S10'' := SqL.of (K := K) L10''.out
      walk_at "rd"
      refine s_ixSL S10'' ixs ?_
      walk_at "rd"
      have lur := fur.len
      rw [List.length_map, List.length_range] at lur
      refine s_setL (k := k) (t3 _ _ hai2) (by omega) ?_
      have t4 : Tups T3 (upd T3 ai (.lst (ur.set k w))) := Tups.lst (t3 _ _ hai2)
      refine ⟨⟨_, rfl⟩, (Same.trans t2 t3).updN nai, (of2.to t3).upd (List.mem_append_left _ ms), tp2.trans (t3.tups.trans t4), ⟨us'.set r.num (ur.set k w), L10''.set eai, ?_⟩, (L2'.same t3).off nsz ns16⟩
      rw [← e5']
      obtain ⟨ur', eur', fur'⟩ := u10'.getR (tab_get (F := FF) rn)
      rw [eur] at eur'
      cases eur'
      have fw' : FrB K B T3 w (FF r.num k + 1) := ⟨x, y, .of fw, L3⟩
      exact (all2_set (all2_set fw' (fr_mono t3.tups fur')) (u10'.imp fun _ _ z => fr_mono t3.tups z)).imp fun _ _ z => fr_mono t4 z
    · rintro σ T1 ⟨⟨v17, rfl⟩, t1, of1, tp1, ⟨us', L10, u10⟩, L16⟩
      have keep : ∀ b o, HA b = none → HM b = some o → T1 b = some o := fun b o nb e => of1 b o (fun z => by
        rcases List.mem_append.mp z with z | z
        · exact nas b nb z
        · exact nzs b o e z) (sN _ _ e)
      have okJ := okj (r.w.map fun (i : Nat) => V.int i).length
      have So1 := SqL.of (K := K) (keep _ _ (sB'.free na12) ((Same.trans (Same.trans sD sE) sEM) _ _ eo))
      have Sa1 := SqL.of (K := K) L10.out
      have sh1 := L10.sh u10
      have S161 := SqL.of (K := K) L16.out
      have z161 := L16.zs
      walk_at "rd"
      refine s_rev ?_
      walk_at "rd"
      refine s_revL So1 fun px ys T2 _ t2 e2 hm _ => ?_
      have Sx2 := SqL.of (K := K) e2
      have t92 := Same.trans t1 t2
      have Sa2 := t2.seq Sa1
      have sh2 := sh1.imp fun _ _ z => ShV.same t2 z
      have S162 := t2.seq S161
      have z162 := z161.imp fun _ _ z => ZsV.same t2 z
      walk_at "rd"
      refine for_list (xs := ys) (fun i σ H' => (∃ v13, σ = [some (.ref a), some (.int n), some (.ref lw), some (.ref l), some (.ref lo), some (.ref lf), some (.int lw0), some (.int B), some (.ref a8), some (.ref pn), some (.ref a10), some (.ref a11), some (.ref a12), v13, some (.ref a14), some (.ref pr), some (.ref a16), v17]) ∧ Same T2 H') ⟨⟨_, rfl⟩, Same.refl _⟩ ?_ ?_ ?_
      · rintro i σ X1 _ ⟨_, x1⟩
        exact x1.seq Sx2
      · rintro i x σ X1 hx ⟨⟨v13, rfl⟩, x1⟩
        obtain ⟨wh, rfl⟩ : ∃ wh : Int, x = .int wh := by obtain ⟨w, _, e⟩ := List.mem_map.mp (hm x (List.mem_of_getElem? hx)); exact ⟨w, e.symm⟩
        refine s_gn (σ' := [some (.ref a), some (.int n), some (.ref lw), some (.ref l), some (.ref lo), some (.ref lf), some (.int lw0), some (.int B), some (.ref a8), some (.ref pn), some (.ref a10), some (.ref a11), some (.ref a12), some (.int wh), some (.ref a14), some (.ref pr), some (.ref a16), v17]) rfl ?_
        dsimp only
        walk_at "rd"
        refine ⟨wh, lw0, B, .ref pn, a10, l, a16, n, tvs, _, rvs, _, rds, _, rfl, lo0, lo6, b0, b6, (N9.same t92).same x1, x1.seq Sa2, sh2.imp fun _ _ z => ShV.same x1 z, okJ, g2, okb, x1.seq (t92.seq Sl9), rds_mono x1.tups (rds_mono t92.tups alr9), x1.seq S162, z162.imp fun _ _ z => ZsV.same x1 z, fun X2 x2 => ?_⟩
        walk_at "rd"
        exact ⟨⟨_, rfl⟩, Same.trans x1 x2⟩
      · rintro σ U1 ⟨⟨v13, rfl⟩, v1⟩
        have keepU : ∀ b o, HA b = none → HM b = some o → U1 b = some o := fun b o nb e => (Same.trans t2 v1) _ _ (keep b o nb e)
        have t9U := Same.trans t92 v1
        have SoU := SqL.of (K := K) (keepU _ _ (sB'.free na12) ((Same.trans (Same.trans sD sE) sEM) _ _ eo))
        have sBM := Same.trans sC (Same.trans (Same.trans sD sE) sEM)
        have LBM := LB.same sBM
        have tNU := tp1.trans (Same.trans t2 v1).tups
        have nk : ∀ k ∈ ks, HA k = none := LB.fr
        have LBU : LL HA U1 a11 ks uss := ⟨keepU _ _ na11 LBM.out, LB.nd, LB.nlo, LB.fr, all2_memL (fun k xs hk z => keepU _ _ (nk k hk) z) LBM.el⟩
        have SkU := SqL.of (K := K) LBU.out
        have shK : All2 (ShV K B U1) (ks.map V.ref) fls := LBU.sh (uA.imp fun _ _ z => fr_mono tNU (fr_mono sAN.tups z))
        have SfU := t9U.seq Sf9
        have afU : All2 (ZsV U1) fvs fls := af9.imp fun _ _ z => ZsV.same t9U z
        walk_at "rd"
        refine for_list (xs := os.map V.int) (fun i σ H' => (∃ v13, σ = [some (.ref a), some (.int n), some (.ref lw), some (.ref l), some (.ref lo), some (.ref lf), some (.int lw0), some (.int B), some (.ref a8), some (.ref pn), some (.ref a10), some (.ref a11), some (.ref a12), v13, some (.ref a14), some (.ref pr), some (.ref a16), v17]) ∧ Same U1 H') ⟨⟨_, rfl⟩, Same.refl _⟩ ?_ ?_ ?_
        · rintro i σ X1 _ ⟨_, x1⟩
          exact x1.seq SoU
        · rintro i x σ X1 hx ⟨⟨v13, rfl⟩, x1⟩
          obtain ⟨wh, rfl⟩ : ∃ wh : Int, x = .int wh := by rw [List.getElem?_map] at hx; obtain ⟨w, _, rfl⟩ := Option.map_eq_some_iff.mp hx; exact ⟨w, rfl⟩
          refine s_gn (σ' := [some (.ref a), some (.int n), some (.ref lw), some (.ref l), some (.ref lo), some (.ref lf), some (.int lw0), some (.int B), some (.ref a8), some (.ref pn), some (.ref a10), some (.ref a11), some (.ref a12), some (.int wh), some (.ref a14), some (.ref pr), some (.ref a16), v17]) rfl ?_
          dsimp only
          walk_at "rd"
          refine ⟨wh, lw0, B, .ref pn, a11, l, lf, n, tvs, _, rvs, _, rds, fls, rfl, lo0, lo6, b0, b6, (N9.same t9U).same x1, x1.seq SkU, shK.imp fun _ _ z => ShV.same x1 z, okF, g2, okb, x1.seq (t9U.seq Sl9), rds_mono x1.tups (rds_mono t9U.tups alr9), x1.seq SfU, afU.imp fun _ _ z => ZsV.same x1 z, fun X2 x2 => ?_⟩
          walk_at "rd"
          exact ⟨⟨_, rfl⟩, Same.trans x1 x2⟩
        · rintro σ U2 ⟨⟨v13, rfl⟩, v2⟩
          have keep2 : ∀ b o, HA b = none → HM b = some o → U2 b = some o := fun b o nb e => v2 _ _ (keepU b o nb e)
          have tN2 := tNU.trans v2.tups
          have tM2 := sN.tups.trans tN2
          have fr : ∀ {b : Addr} {G : Hp}, Same HA G → G b = none → HA b = none := fun s nb => s.free nb
          have w1 := Same.trans t3 (Same.trans t4 (Same.trans t5 (Same.trans t6 tM)))
          have w2 := Same.trans t5 (Same.trans t6 tM)
          have held : ∀ x ∈ [V.ref p1, V.ref p2, V.ref p3], ∃ (C : Int) (p y q : Addr) (us : List V) (xs : List Int), x = .ref p ∧ 0 < C ∧ U2 p = some (.lst [.ref y, .ref q]) ∧ U2 y = some (.lst us) ∧ U2 q = some (.lst us) ∧ All2 (FrB K C U2) us xs := fun x hx => by
            simp only [List.mem_cons, List.not_mem_nil, or_false] at hx
            have pl := Int.mul_pos lo0 b0
            rcases hx with rfl | rfl | rfl
            · exact ⟨B, p1, y1, q1, ws1, _, rfl, b0, keep2 _ _ ((Same.trans sAE t1').free np1) (w1 _ _ ep1), keep2 _ _ (sAE.free ny1) ((Same.trans t2' w1) _ _ ey1), keep2 _ _ ((Same.trans sAE t1').free nq1) (w1 _ _ eq1), fr_mono tM2 (fr_mono (Same.trans t2' w1).tups ay1)⟩
            · exact ⟨_, p2, y2, q2, ws2, _, rfl, pl, keep2 _ _ ((Same.trans sAE (Same.trans u2' t3)).free np2) (w2 _ _ ep2), keep2 _ _ ((Same.trans sAE u2').free ny2) ((Same.trans t4 w2) _ _ ey2), keep2 _ _ ((Same.trans sAE (Same.trans u2' t3)).free nq2) (w2 _ _ eq2), fr_mono tM2 (fr_mono (Same.trans t4 w2).tups ay2)⟩
            · exact ⟨_, p3, y3, q3, ws3, _, rfl, pl, keep2 _ _ ((Same.trans sAE (Same.trans u4 t5)).free np3) (tM _ _ ep3), keep2 _ _ ((Same.trans sAE u4).free ny3) ((Same.trans t6 tM) _ _ ey3), keep2 _ _ ((Same.trans sAE (Same.trans u4 t5)).free nq3) (tM _ _ eq3), fr_mono tM2 (fr_mono (Same.trans t6 tM).tups ay3)⟩
          have S14 := SqL.of (K := K) (keep2 _ _ ((Same.trans sAE u6).free nM) e14)
          walk_at "rd"
          refine s_comp (σ' := [none]) rfl ?_
          walk_at "rd"
          intro ac nac
          refine compL (xs := [V.ref p1, V.ref p2, V.ref p3]) (fun i σ H' => (∃ v, σ = [v]) ∧ Same U2 H' ∧ H' ac = some (.lst [])) ⟨⟨_, rfl⟩, Same.new nac, upd_same⟩ ?_ ?_ ?_
          · rintro i σ X1 _ ⟨_, x1, _⟩
            exact x1.seq S14
          · rintro i x σ X1 hx ⟨⟨v, rfl⟩, x1, eac⟩
            obtain ⟨C, p, y, q', us, xs, rfl, c0, hp', hy', hq', au⟩ := held x (List.mem_of_getElem? hx)
            refine s_gn (σ' := [some (.ref p)]) rfl ?_
            refine blkC ?_
            have Sp' := SqL.of (K := K) (x1 _ _ hp')
            walk_at "rd"
            have auX := fr_mono x1.tups au
            refine s_neSame (n := 2) (fr_rp c0 (SqL.of (x1 _ _ hy')) auX) (fr_rp c0 (SqL.of (x1 _ _ hq')) auX) (pd_map fun _ => two_pd) ?_
            walk_at "rd"
            exact ⟨⟨_, rfl⟩, x1, eac⟩
          · rintro σ X1 ⟨_, x1, eac⟩
            have Sac := SqL.of (K := K) eac
            walk_at "rd"
            exact q X1
end KC

end

section
set_option maxHeartbeats 1000000
namespace KC
open PySem L2 Fr
def top (i : Nat) : Stmt := PySem.Challenge.pw_crowdroads_k12_loads_and_sums.main.body.getD i (.Pass ⟨0, 0, 0, 0⟩)
/-- what the walk asks of the text's names -/
structure Txt (K : PySem.W.Frag) (mg : Str → Option Value) (c : Cs) (aN aH aT : Addr) : Prop where
  n_isinstance : mg "isinstance" = none
  n_int : mg "int" = none
  n_bool : mg "bool" = none
  n_tuple : mg "tuple" = none
  n_list : mg "list" = none
  n_len : mg "len" = none
  n_abs : mg "abs" = none
  n_range : mg "range" = none
  n_min : mg "min" = none
  n_sum : mg "sum" = none
  n_sorted : mg "sorted" = none
  n_enumerate : mg "enumerate" = none
  n_zip : mg "zip" = none
  m_NOUGHT : mg "NOUGHT" = some (.ref aN)
  v_NOUGHT : ∀ H, Rp K H (.ref aN) (.tuple [.int 0, .int 1])
  m_HALF : mg "HALF" = some (.ref aH)
  v_HALF : ∀ H, Rp K H (.ref aH) (.tuple [.int 1, .int 2])
  m_TWO : mg "TWO" = some (.ref aT)
  v_TWO : ∀ H, Rp K H (.ref aT) (.tuple [.int 2, .int 1])
variable {P : Program} {w : World} {K : PySem.W.Frag} {mg : Str → Option Value} {base : Heap} {c : Cs} {aN aH aT : Addr}
/-! ### common_divisor -/
abbrev s_common_divisor : Stmt := top 2
theorem sc_common_divisor : FnScope ["one", "other", "left"] ["one", "other"] (defScope s_common_divisor) := ⟨rfl, rfl, rfl, by decide +kernel, rfl, by decide +kernel, by decide +kernel⟩
theorem ok_common_divisor (T : Txt K mg c aN aH aT)  {f : Addr} {fd : FuncData} (F : Fun K "common_divisor" "common_divisor" s_common_divisor f fd) : FnOk P w K mg base CX0 1 f fd ["one", "other"] spGcd := by
  refine F.ok sc_common_divisor (fun vs H Q E h => ?len) (fun cdv A outer s H vs Q E hr h => ?_)
  case len =>
    obtain ⟨_, _, rfl, _⟩ := h
    rfl
  have nd := sc_common_divisor.nd
  refine ⟨t_common_divisor K, ?_, rd_common_divisor  h⟩
  refine pss_cons ?_ ?_
  · refine ps_while ?_ ?_ ?_
    · exact PassesOwn.never
    · refine pt_cmpR ?_ ?_ ?_ ?_
      · exact op_neA hr.units
      · exact pv 1
      · exact pe_int
      exact nomark _
    refine pss_cons ?_ ?_
    · refine ps_st (i := 2) ?_
      refine pe_op ?_ ?_ ?_
      · exact op_mod
      · exact pv 0
      exact pv 1
    refine pss_cons ?_ ?_
    · refine ps_st (i := 0) ?_
      exact pv 1
    refine pss_one ?_
    refine ps_st (i := 1) ?_
    exact pv 2
  refine pss_one ?_
  refine ps_ret ?_
  exact pv 0
/-! ### lowest -/
abbrev s_lowest : Stmt := top 3
theorem sc_lowest : FnScope ["top", "bottom", "divisor"] ["top", "bottom"] (defScope s_lowest) := ⟨rfl, rfl, rfl, by decide +kernel, rfl, by decide +kernel, by decide +kernel⟩
theorem ok_lowest (T : Txt K mg c aN aH aT) (C_common_divisor : Cal P w K mg base CX0 1 "common_divisor" spGcd) {f : Addr} {fd : FuncData} (F : Fun K "lowest" "lowest" s_lowest f fd) : FnOk P w K mg base CX0 2 f fd ["top", "bottom"] (spLow K) := by
  refine F.ok sc_lowest (fun vs H Q E h => ?len) (fun cdv A outer s H vs Q E hr h => ?_)
  case len =>
    obtain ⟨_, _, rfl, _⟩ := h
    rfl
  have nd := sc_lowest.nd
  refine ⟨t_lowest K, ?_, rd_lowest  h⟩
  refine pss_cons ?_ ?_
  · refine ps_st (i := 2) ?_
    refine pe_cal (CX := CX0) (k := 1) ?_ ?_ ?_ ?_
    · exact C_common_divisor
    · exact hr.mono (by decide)
    · exact pass0
    refine pk ?_ ?_
    · refine pe_callB (id := "abs") ?_ ?_ ?_ ?_ ?_
      · exact call_abs
      · rfl
      · exact T.n_abs
      · exact bt_abs
      refine pk ?_ ?_
      · exact pv 0
      exact pa_nil
    refine pk ?_ ?_
    · refine pe_callB (id := "abs") ?_ ?_ ?_ ?_ ?_
      · exact call_abs
      · rfl
      · exact T.n_abs
      · exact bt_abs
      refine pk ?_ ?_
      · exact pv 1
      exact pa_nil
    exact pa_nil
  refine pss_cons ?_ ?_
  · refine ps_if ?_ ?_ ?_
    · refine pt_cmpR ?_ ?_ ?_ ?_
      · exact op_lt
      · exact pv 1
      · exact pe_int
      exact nomark _
    · refine pss_one ?_
      refine ps_st (i := 2) ?_
      refine pe_un ?_ ?_
      · exact un_neg
      exact pv 2
    exact pss_nil
  refine pss_one ?_
  refine ps_ret ?_
  refine pe_tup ?_
  refine pk ?_ ?_
  · refine pe_op ?_ ?_ ?_
    · exact op_fdivB
    · exact pv 0
    exact pv 2
  refine pk ?_ ?_
  · refine pe_op ?_ ?_ ?_
    · exact op_fdivB
    · exact pv 1
    exact pv 2
  exact pa_nil
/-! ### sum_of -/
abbrev s_sum_of : Stmt := top 4
theorem sc_sum_of : FnScope ["one", "other"] ["one", "other"] (defScope s_sum_of) := ⟨rfl, rfl, rfl, by decide +kernel, rfl, by decide +kernel, by decide +kernel⟩
theorem ok_sum_of (T : Txt K mg c aN aH aT) (C_lowest : Cal P w K mg base CX0 2 "lowest" (spLow K)) {f : Addr} {fd : FuncData} (F : Fun K "sum_of" "sum_of" s_sum_of f fd) : FnOk P w K mg base CX0 3 f fd ["one", "other"] (spSum K) := by
  refine F.ok sc_sum_of (fun vs H Q E h => ?len) (fun cdv A outer s H vs Q E hr h => ?_)
  case len =>
    obtain ⟨_, _, _, _, _, _, rfl, _⟩ := h
    rfl
  have nd := sc_sum_of.nd
  refine ⟨t_sum_of K, ?_, rd_sum_of  h⟩
  refine pss_one ?_
  refine ps_ret ?_
  refine pe_cal (CX := CX0) (k := 2) ?_ ?_ ?_ ?_
  · exact C_lowest
  · exact hr.mono (by decide)
  · exact pass0
  refine pk ?_ ?_
  · refine pe_op ?_ ?_ ?_
    · exact op_addA
    · refine pe_op ?_ ?_ ?_
      · exact op_mulX
      · refine pe_ix ?_ ?_ ?_ ?_
        · exact ix_seq
        · exact pv 0
        · exact pe_int
        exact fun _ _ => rfl
      refine pe_ix ?_ ?_ ?_ ?_
      · exact ix_seq
      · exact pv 1
      · exact pe_int
      exact fun _ _ => rfl
    refine pe_op ?_ ?_ ?_
    · exact op_mulX
    · refine pe_ix ?_ ?_ ?_ ?_
      · exact ix_seq
      · exact pv 1
      · exact pe_int
      exact fun _ _ => rfl
    refine pe_ix ?_ ?_ ?_ ?_
    · exact ix_seq
    · exact pv 0
    · exact pe_int
    exact fun _ _ => rfl
  refine pk ?_ ?_
  · refine pe_op ?_ ?_ ?_
    · exact op_mulX
    · refine pe_ix ?_ ?_ ?_ ?_
      · exact ix_seq
      · exact pv 0
      · exact pe_int
      exact fun _ _ => rfl
    refine pe_ix ?_ ?_ ?_ ?_
    · exact ix_seq
    · exact pv 1
    · exact pe_int
    exact fun _ _ => rfl
  exact pa_nil
/-! ### product_of -/
abbrev s_product_of : Stmt := top 5
theorem sc_product_of : FnScope ["one", "other"] ["one", "other"] (defScope s_product_of) := ⟨rfl, rfl, rfl, by decide +kernel, rfl, by decide +kernel, by decide +kernel⟩
theorem ok_product_of (T : Txt K mg c aN aH aT) (C_lowest : Cal P w K mg base CX0 2 "lowest" (spLow K)) {f : Addr} {fd : FuncData} (F : Fun K "product_of" "product_of" s_product_of f fd) : FnOk P w K mg base CX0 3 f fd ["one", "other"] (spProd K) := by
  refine F.ok sc_product_of (fun vs H Q E h => ?len) (fun cdv A outer s H vs Q E hr h => ?_)
  case len =>
    obtain ⟨_, _, _, _, _, _, rfl, _⟩ := h
    rfl
  have nd := sc_product_of.nd
  refine ⟨t_product_of K, ?_, rd_product_of  h⟩
  refine pss_one ?_
  refine ps_ret ?_
  refine pe_cal (CX := CX0) (k := 2) ?_ ?_ ?_ ?_
  · exact C_lowest
  · exact hr.mono (by decide)
  · exact pass0
  refine pk ?_ ?_
  · refine pe_op ?_ ?_ ?_
    · exact op_mulX
    · refine pe_ix ?_ ?_ ?_ ?_
      · exact ix_seq
      · exact pv 0
      · exact pe_int
      exact fun _ _ => rfl
    refine pe_ix ?_ ?_ ?_ ?_
    · exact ix_seq
    · exact pv 1
    · exact pe_int
    exact fun _ _ => rfl
  refine pk ?_ ?_
  · refine pe_op ?_ ?_ ?_
    · exact op_mulX
    · refine pe_ix ?_ ?_ ?_ ?_
      · exact ix_seq
      · exact pv 0
      · exact pe_int
      exact fun _ _ => rfl
    refine pe_ix ?_ ?_ ?_ ?_
    · exact ix_seq
    · exact pv 1
    · exact pe_int
    exact fun _ _ => rfl
  exact pa_nil
/-! ### sum_of_all -/
abbrev s_sum_of_all : Stmt := top 6
theorem sc_sum_of_all : FnScope ["amounts", "whole", "amount"] ["amounts"] (defScope s_sum_of_all) := ⟨rfl, rfl, rfl, by decide +kernel, rfl, by decide +kernel, by decide +kernel⟩
theorem ok_sum_of_all (T : Txt K mg c aN aH aT) (C_sum_of : Cal P w K mg base CX0 3 "sum_of" (spSum K)) {f : Addr} {fd : FuncData} (F : Fun K "sum_of_all" "sum_of_all" s_sum_of_all f fd) : FnOk P w K mg base CX0 4 f fd ["amounts"] (spSumAll K) := by
  refine F.ok sc_sum_of_all (fun vs H Q E h => ?len) (fun cdv A outer s H vs Q E hr h => ?_)
  case len =>
    obtain ⟨_, _, _, _, rfl, _⟩ := h
    rfl
  have nd := sc_sum_of_all.nd
  refine ⟨t_sum_of_all K aN, ?_, rd_sum_of_all T.v_NOUGHT h⟩
  refine pss_cons ?_ ?_
  · refine ps_st (i := 1) ?_
    exact pe_gr rfl T.m_NOUGHT
  refine pss_cons ?_ ?_
  · refine ps_for ?_ ?_ ?_ ?_ ?_
    · exact PassesOwn.never
    · rfl
    · refine pi_list ?_
      exact pv 0
    · exact pg_nm 2
    refine pss_one ?_
    refine ps_st (i := 1) ?_
    refine pe_cal (CX := CX0) (k := 3) ?_ ?_ ?_ ?_
    · exact C_sum_of
    · exact hr.mono (by decide)
    · exact pass0
    refine pk ?_ ?_
    · exact pv 1
    refine pk ?_ ?_
    · exact pv 2
    exact pa_nil
  refine pss_one ?_
  refine ps_ret ?_
  exact pv 1
/-! ### load_list -/
abbrev s_load_list : Stmt := top 10
theorem sc_load_list : FnScope ["net", "share", "loads", "number"] ["net", "share"] (defScope s_load_list) := ⟨rfl, rfl, rfl, by decide +kernel, rfl, by decide +kernel, by decide +kernel⟩
theorem ok_load_list (T : Txt K mg c aN aH aT) (C_sum_of_all : Cal P w K mg base CX0 4 "sum_of_all" (spSumAll K)) {f : Addr} {fd : FuncData} (F : Fun K "load_list" "load_list" s_load_list f fd) : FnOk P w K mg base CX0 5 f fd ["net", "share"] (spLoads K) := by
  refine F.ok sc_load_list (fun vs H Q E h => ?len) (fun cdv A outer s H vs Q E hr h => ?_)
  case len =>
    obtain ⟨_, _, _, _, _, _, _, _, _, rfl, _⟩ := h
    rfl
  have nd := sc_load_list.nd
  refine ⟨t_load_list K, ?_, rd_load_list  h⟩
  refine pss_cons ?_ ?_
  · refine ps_st (i := 2) ?_
    refine pe_lst ?_
    exact pa_nil
  refine pss_cons ?_ ?_
  · refine ps_for ?_ ?_ ?_ ?_ ?_
    · exact PassesOwn.never
    · rfl
    · refine pi_range1 ?_ ?_ ?_
      · rfl
      · exact T.n_range
      refine pk ?_ ?_
      · refine pe_callB (id := "len") ?_ ?_ ?_ ?_ ?_
        · exact call_len
        · rfl
        · exact T.n_len
        · exact bt_len
        refine pk ?_ ?_
        · refine pe_ix ?_ ?_ ?_ ?_
          · exact ix_seq
          · exact pv 0
          · exact pe_int
          exact fun _ _ => rfl
        exact pa_nil
      exact pa_nil
    · exact pg_nm 3
    refine pss_one ?_
    refine ps_expr ?_
    refine pe_bm PySem.F.plainAttrs_list PySem.F.slot_list_append PySem.F.type_list_append mt_append ?_ ?_
    · exact pv 2
    refine pk ?_ ?_
    · refine pe_cal (CX := CX0) (k := 4) ?_ ?_ ?_ ?_
      · exact C_sum_of_all
      · exact hr.mono (by decide)
      · exact pass0
      refine pk ?_ ?_
      · refine pe_comp (own := ["flow"]) (capt := ["number"]) (ix := [3]) ?_ ?_ ?_ ?_ ?_ ?_
        · rfl
        · refine CompScope.of rfl (by decide +kernel) (by decide +kernel) ?_ ?_ (by decide +kernel)
          · show ∀ y ∈ (_ : List (Str × NameKind)), y.2 = NameKind.free → (defScope s_load_list).names.lookup y.1 = some NameKind.cell
            decide +kernel
          · exact .cons rfl rfl (.nil)
        · refine pi_list ?_
          exact pv 1
        · intro s0 H0 C0 fp0
          exact pg_name (i := 0) (by show (["flow", "number"] : List Str).Nodup; decide +kernel) rfl (Or.inl rfl) (.inr rfl)
        · intro s0 H0 C0 fp0
          exact pf_nil
        intro s0 H0 C0 fp0
        refine pe_ix ?_ ?_ ?_ ?_
        · exact ix_seq
        · exact pv 0
        · exact pv 1
        exact fun _ _ => rfl
      exact pa_nil
    exact pa_nil
  refine pss_one ?_
  refine ps_ret ?_
  exact pv 2
/-! ### time_with -/
abbrev s_time_with : Stmt := top 11
theorem sc_time_with : FnScope ["road", "load"] ["road", "load"] (defScope s_time_with) := ⟨rfl, rfl, rfl, by decide +kernel, rfl, by decide +kernel, by decide +kernel⟩
theorem ok_time_with (T : Txt K mg c aN aH aT) (C_sum_of : Cal P w K mg base CX0 3 "sum_of" (spSum K)) (C_product_of : Cal P w K mg base CX0 3 "product_of" (spProd K)) {f : Addr} {fd : FuncData} (F : Fun K "time_with" "time_with" s_time_with f fd) : FnOk P w K mg base CX0 4 f fd ["road", "load"] (spTimeW K) := by
  refine F.ok sc_time_with (fun vs H Q E h => ?len) (fun cdv A outer s H vs Q E hr h => ?_)
  case len =>
    obtain ⟨_, _, _, _, _, _, rfl, _⟩ := h
    rfl
  have nd := sc_time_with.nd
  refine ⟨t_time_with K, ?_, rd_time_with  h⟩
  refine pss_one ?_
  refine ps_ret ?_
  refine pe_cal (CX := CX0) (k := 3) ?_ ?_ ?_ ?_
  · exact C_sum_of
  · exact hr.mono (by decide)
  · exact pass0
  refine pk ?_ ?_
  · refine pe_ix ?_ ?_ ?_ ?_
    · exact ix_seq
    · exact pv 0
    · exact pe_int
    exact fun _ _ => rfl
  refine pk ?_ ?_
  · refine pe_cal (CX := CX0) (k := 3) ?_ ?_ ?_ ?_
    · exact C_product_of
    · exact hr.mono (by decide)
    · exact pass0
    refine pk ?_ ?_
    · refine pe_ix ?_ ?_ ?_ ?_
      · exact ix_seq
      · exact pv 0
      · exact pe_int
      exact fun _ _ => rfl
    refine pk ?_ ?_
    · exact pv 1
    exact pa_nil
  exact pa_nil
/-! ### road_times -/
abbrev s_road_times : Stmt := top 12
theorem sc_road_times : FnScope ["net", "share"] ["net", "share"] (defScope s_road_times) := ⟨rfl, rfl, rfl, by decide +kernel, rfl, by decide +kernel, by decide +kernel⟩
theorem ok_road_times (T : Txt K mg c aN aH aT) (C_time_with : Cal P w K mg base CX0 4 "time_with" (spTimeW K)) (C_load_list : Cal P w K mg base CX0 5 "load_list" (spLoads K)) {f : Addr} {fd : FuncData} (F : Fun K "road_times" "road_times" s_road_times f fd) : FnOk P w K mg base CX0 6 f fd ["net", "share"] (spTimes K) := by
  refine F.ok sc_road_times (fun vs H Q E h => ?len) (fun cdv A outer s H vs Q E hr h => ?_)
  case len =>
    obtain ⟨_, _, _, _, _, _, _, _, _, rfl, _⟩ := h
    rfl
  have nd := sc_road_times.nd
  refine ⟨t_road_times K, ?_, rd_road_times  h⟩
  refine pss_one ?_
  refine ps_ret ?_
  refine pe_comp (own := ["road", "load"]) (capt := []) (ix := []) ?_ ?_ ?_ ?_ ?_ ?_
  · rfl
  · refine CompScope.of rfl (by decide +kernel) (by decide +kernel) ?_ ?_ (by decide +kernel)
    · show ∀ y ∈ (_ : List (Str × NameKind)), y.2 = NameKind.free → (defScope s_road_times).names.lookup y.1 = some NameKind.cell
      decide +kernel
    · exact .nil
  · refine pi_zip ?_ ?_ ?_
    · rfl
    · exact T.n_zip
    refine pk ?_ ?_
    · refine pe_ix ?_ ?_ ?_ ?_
      · exact ix_seq
      · exact pv 0
      · exact pe_int
      exact fun _ _ => rfl
    refine pk ?_ ?_
    · refine pe_cal (CX := CX0) (k := 5) ?_ ?_ ?_ ?_
      · exact C_load_list
      · exact hr.mono (by decide)
      · exact pass0
      refine pk ?_ ?_
      · exact pv 0
      refine pk ?_ ?_
      · exact pv 1
      exact pa_nil
    exact pa_nil
  · intro s0 H0 C0 fp0
    refine pg_tup ?_ ?_
    · rfl
    refine pgs_cons ?_ ?_
    · exact pg_name (i := 0) (by show (["road", "load"] : List Str).Nodup; decide +kernel) rfl (Or.inl rfl) (.inr rfl)
    refine pgs_cons ?_ ?_
    · exact pg_name (i := 1) (by show (["road", "load"] : List Str).Nodup; decide +kernel) rfl (Or.inl rfl) (.inr rfl)
    exact pgs_nil
  · intro s0 H0 C0 fp0
    exact pf_nil
  intro s0 H0 C0 fp0
  refine pe_cal (CX := CX0) (k := 4) ?_ ?_ ?_ ?_
  · exact C_time_with
  · exact hr.mono (by decide)
  · exact pass0
  refine pk ?_ ?_
  · exact pv 0
  refine pk ?_ ?_
  · exact pv 1
  exact pa_nil
/-! ### dear_times -/
abbrev s_dear_times : Stmt := top 13
theorem sc_dear_times : FnScope ["net", "share"] ["net", "share"] (defScope s_dear_times) := ⟨rfl, rfl, rfl, by decide +kernel, rfl, by decide +kernel, by decide +kernel⟩
theorem ok_dear_times (T : Txt K mg c aN aH aT) (C_time_with : Cal P w K mg base CX0 4 "time_with" (spTimeW K)) (C_product_of : Cal P w K mg base CX0 3 "product_of" (spProd K)) (C_load_list : Cal P w K mg base CX0 5 "load_list" (spLoads K)) {f : Addr} {fd : FuncData} (F : Fun K "dear_times" "dear_times" s_dear_times f fd) : FnOk P w K mg base CX0 6 f fd ["net", "share"] (spDear K) := by
  refine F.ok sc_dear_times (fun vs H Q E h => ?len) (fun cdv A outer s H vs Q E hr h => ?_)
  case len =>
    obtain ⟨_, _, _, _, _, _, _, _, _, rfl, _⟩ := h
    rfl
  have nd := sc_dear_times.nd
  refine ⟨t_dear_times K aT, ?_, rd_dear_times T.v_TWO h⟩
  refine pss_one ?_
  refine ps_ret ?_
  refine pe_comp (own := ["road", "load"]) (capt := []) (ix := []) ?_ ?_ ?_ ?_ ?_ ?_
  · rfl
  · refine CompScope.of rfl (by decide +kernel) (by decide +kernel) ?_ ?_ (by decide +kernel)
    · show ∀ y ∈ (_ : List (Str × NameKind)), y.2 = NameKind.free → (defScope s_dear_times).names.lookup y.1 = some NameKind.cell
      decide +kernel
    · exact .nil
  · refine pi_zip ?_ ?_ ?_
    · rfl
    · exact T.n_zip
    refine pk ?_ ?_
    · refine pe_ix ?_ ?_ ?_ ?_
      · exact ix_seq
      · exact pv 0
      · exact pe_int
      exact fun _ _ => rfl
    refine pk ?_ ?_
    · refine pe_cal (CX := CX0) (k := 5) ?_ ?_ ?_ ?_
      · exact C_load_list
      · exact hr.mono (by decide)
      · exact pass0
      refine pk ?_ ?_
      · exact pv 0
      refine pk ?_ ?_
      · exact pv 1
      exact pa_nil
    exact pa_nil
  · intro s0 H0 C0 fp0
    refine pg_tup ?_ ?_
    · rfl
    refine pgs_cons ?_ ?_
    · exact pg_name (i := 0) (by show (["road", "load"] : List Str).Nodup; decide +kernel) rfl (Or.inl rfl) (.inr rfl)
    refine pgs_cons ?_ ?_
    · exact pg_name (i := 1) (by show (["road", "load"] : List Str).Nodup; decide +kernel) rfl (Or.inl rfl) (.inr rfl)
    exact pgs_nil
  · intro s0 H0 C0 fp0
    exact pf_nil
  intro s0 H0 C0 fp0
  refine pe_cal (CX := CX0) (k := 4) ?_ ?_ ?_ ?_
  · exact C_time_with
  · exact hr.mono (by decide)
  · exact pass0
  refine pk ?_ ?_
  · exact pv 0
  refine pk ?_ ?_
  · refine pe_cal (CX := CX0) (k := 3) ?_ ?_ ?_ ?_
    · exact C_product_of
    · exact hr.mono (by decide)
    · exact pass0
    refine pk ?_ ?_
    · exact pe_gr rfl T.m_TWO
    refine pk ?_ ?_
    · exact pv 1
    exact pa_nil
  exact pa_nil
/-! ### sum_of_times -/
abbrev s_sum_of_times : Stmt := top 14
theorem sc_sum_of_times : FnScope ["net", "share", "loads"] ["net", "share"] (defScope s_sum_of_times) := ⟨rfl, rfl, rfl, by decide +kernel, rfl, by decide +kernel, by decide +kernel⟩
theorem ok_sum_of_times (T : Txt K mg c aN aH aT) (C_load_list : Cal P w K mg base CX0 5 "load_list" (spLoads K)) (C_sum_of_all : Cal P w K mg base CX0 4 "sum_of_all" (spSumAll K)) (C_product_of : Cal P w K mg base CX0 3 "product_of" (spProd K)) (C_time_with : Cal P w K mg base CX0 4 "time_with" (spTimeW K)) {f : Addr} {fd : FuncData} (F : Fun K "sum_of_times" "sum_of_times" s_sum_of_times f fd) : FnOk P w K mg base CX0 6 f fd ["net", "share"] (spTot K) := by
  refine F.ok sc_sum_of_times (fun vs H Q E h => ?len) (fun cdv A outer s H vs Q E hr h => ?_)
  case len =>
    obtain ⟨_, _, _, _, _, _, _, _, _, rfl, _⟩ := h
    rfl
  have nd := sc_sum_of_times.nd
  refine ⟨t_sum_of_times K, ?_, rd_sum_of_times  h⟩
  refine pss_cons ?_ ?_
  · refine ps_st (i := 2) ?_
    refine pe_cal (CX := CX0) (k := 5) ?_ ?_ ?_ ?_
    · exact C_load_list
    · exact hr.mono (by decide)
    · exact pass0
    refine pk ?_ ?_
    · exact pv 0
    refine pk ?_ ?_
    · exact pv 1
    exact pa_nil
  refine pss_one ?_
  refine ps_ret ?_
  refine pe_cal (CX := CX0) (k := 4) ?_ ?_ ?_ ?_
  · exact C_sum_of_all
  · exact hr.mono (by decide)
  · exact pass0
  refine pk ?_ ?_
  · refine pe_comp (own := ["road", "load"]) (capt := []) (ix := []) ?_ ?_ ?_ ?_ ?_ ?_
    · rfl
    · refine CompScope.of rfl (by decide +kernel) (by decide +kernel) ?_ ?_ (by decide +kernel)
      · show ∀ y ∈ (_ : List (Str × NameKind)), y.2 = NameKind.free → (defScope s_sum_of_times).names.lookup y.1 = some NameKind.cell
        decide +kernel
      · exact .nil
    · refine pi_zip ?_ ?_ ?_
      · rfl
      · exact T.n_zip
      refine pk ?_ ?_
      · refine pe_ix ?_ ?_ ?_ ?_
        · exact ix_seq
        · exact pv 0
        · exact pe_int
        exact fun _ _ => rfl
      refine pk ?_ ?_
      · exact pv 2
      exact pa_nil
    · intro s0 H0 C0 fp0
      refine pg_tup ?_ ?_
      · rfl
      refine pgs_cons ?_ ?_
      · exact pg_name (i := 0) (by show (["road", "load"] : List Str).Nodup; decide +kernel) rfl (Or.inl rfl) (.inr rfl)
      refine pgs_cons ?_ ?_
      · exact pg_name (i := 1) (by show (["road", "load"] : List Str).Nodup; decide +kernel) rfl (Or.inl rfl) (.inr rfl)
      exact pgs_nil
    · intro s0 H0 C0 fp0
      exact pf_nil
    intro s0 H0 C0 fp0
    refine pe_cal (CX := CX0) (k := 3) ?_ ?_ ?_ ?_
    · exact C_product_of
    · exact hr.mono (by decide)
    · exact pass0
    refine pk ?_ ?_
    · exact pv 1
    refine pk ?_ ?_
    · refine pe_cal (CX := CX0) (k := 4) ?_ ?_ ?_ ?_
      · exact C_time_with
      · exact hr.mono (by decide)
      · exact pass0
      refine pk ?_ ?_
      · exact pv 0
      refine pk ?_ ?_
      · exact pv 1
      exact pa_nil
    exact pa_nil
  exact pa_nil
/-! ### told_number -/
abbrev s_told_number : Stmt := top 15
theorem sc_told_number : FnScope ["net", "share", "loads"] ["net", "share"] (defScope s_told_number) := ⟨rfl, rfl, rfl, by decide +kernel, rfl, by decide +kernel, by decide +kernel⟩
theorem ok_told_number (T : Txt K mg c aN aH aT) (C_load_list : Cal P w K mg base CX0 5 "load_list" (spLoads K)) (C_sum_of_all : Cal P w K mg base CX0 4 "sum_of_all" (spSumAll K)) (C_product_of : Cal P w K mg base CX0 3 "product_of" (spProd K)) (C_time_with : Cal P w K mg base CX0 4 "time_with" (spTimeW K)) {f : Addr} {fd : FuncData} (F : Fun K "told_number" "told_number" s_told_number f fd) : FnOk P w K mg base CX0 6 f fd ["net", "share"] (spToldN K) := by
  refine F.ok sc_told_number (fun vs H Q E h => ?len) (fun cdv A outer s H vs Q E hr h => ?_)
  case len =>
    obtain ⟨_, _, _, _, _, _, _, _, _, rfl, _⟩ := h
    rfl
  have nd := sc_told_number.nd
  refine ⟨t_told_number K aH, ?_, rd_told_number T.v_HALF h⟩
  refine pss_cons ?_ ?_
  · refine ps_st (i := 2) ?_
    refine pe_cal (CX := CX0) (k := 5) ?_ ?_ ?_ ?_
    · exact C_load_list
    · exact hr.mono (by decide)
    · exact pass0
    refine pk ?_ ?_
    · exact pv 0
    refine pk ?_ ?_
    · exact pv 1
    exact pa_nil
  refine pss_one ?_
  refine ps_ret ?_
  refine pe_cal (CX := CX0) (k := 4) ?_ ?_ ?_ ?_
  · exact C_sum_of_all
  · exact hr.mono (by decide)
  · exact pass0
  refine pk ?_ ?_
  · refine pe_comp (own := ["road", "load"]) (capt := []) (ix := []) ?_ ?_ ?_ ?_ ?_ ?_
    · rfl
    · refine CompScope.of rfl (by decide +kernel) (by decide +kernel) ?_ ?_ (by decide +kernel)
      · show ∀ y ∈ (_ : List (Str × NameKind)), y.2 = NameKind.free → (defScope s_told_number).names.lookup y.1 = some NameKind.cell
        decide +kernel
      · exact .nil
    · refine pi_zip ?_ ?_ ?_
      · rfl
      · exact T.n_zip
      refine pk ?_ ?_
      · refine pe_ix ?_ ?_ ?_ ?_
        · exact ix_seq
        · exact pv 0
        · exact pe_int
        exact fun _ _ => rfl
      refine pk ?_ ?_
      · exact pv 2
      exact pa_nil
    · intro s0 H0 C0 fp0
      refine pg_tup ?_ ?_
      · rfl
      refine pgs_cons ?_ ?_
      · exact pg_name (i := 0) (by show (["road", "load"] : List Str).Nodup; decide +kernel) rfl (Or.inl rfl) (.inr rfl)
      refine pgs_cons ?_ ?_
      · exact pg_name (i := 1) (by show (["road", "load"] : List Str).Nodup; decide +kernel) rfl (Or.inl rfl) (.inr rfl)
      exact pgs_nil
    · intro s0 H0 C0 fp0
      exact pf_nil
    intro s0 H0 C0 fp0
    refine pe_cal (CX := CX0) (k := 3) ?_ ?_ ?_ ?_
    · exact C_product_of
    · exact hr.mono (by decide)
    · exact pass0
    refine pk ?_ ?_
    · exact pv 1
    refine pk ?_ ?_
    · refine pe_cal (CX := CX0) (k := 4) ?_ ?_ ?_ ?_
      · exact C_time_with
      · exact hr.mono (by decide)
      · exact pass0
      refine pk ?_ ?_
      · exact pv 0
      refine pk ?_ ?_
      · refine pe_cal (CX := CX0) (k := 3) ?_ ?_ ?_ ?_
        · exact C_product_of
        · exact hr.mono (by decide)
        · exact pass0
        refine pk ?_ ?_
        · exact pe_gr rfl T.m_HALF
        refine pk ?_ ?_
        · exact pv 1
        exact pa_nil
      exact pa_nil
    exact pa_nil
  exact pa_nil
/-! ### _law_whole -/
abbrev s__law_whole : Stmt := top 17
theorem sc__law_whole : FnScope ["_law_found"] ["_law_found"] (defScope s__law_whole) := ⟨rfl, rfl, rfl, by decide +kernel, rfl, by decide +kernel, by decide +kernel⟩
theorem ok__law_whole (T : Txt K mg c aN aH aT)  {f : Addr} {fd : FuncData} (F : Fun K "_law_whole" "_law_whole" s__law_whole f fd) : FnOk P w K mg base CX0 1 f fd ["_law_found"] (spWhole K) := by
  refine F.ok sc__law_whole (fun vs H Q E h => ?len) (fun cdv A outer s H vs Q E hr h => ?_)
  case len =>
    obtain ⟨_, _, rfl, _⟩ := h
    rfl
  have nd := sc__law_whole.nd
  refine ⟨t__law_whole K, ?_, rd__law_whole  h⟩
  refine pss_one ?_
  refine ps_ret ?_
  refine pe_and ?_ ?_
  · refine pe_callB (id := "isinstance") ?_ ?_ ?_ ?_ ?_
    · exact call_isiK (K := K) rfl
    · rfl
    · exact T.n_isinstance
    · exact bt_isinstance
    refine pk ?_ ?_
    · exact pv 0
    refine pk ?_ ?_
    · exact pe_bt rfl T.n_int bt_int
    exact pa_nil
  refine pe_one ?_
  refine pe_not ?_
  refine pe_callB (id := "isinstance") ?_ ?_ ?_ ?_ ?_
  · exact call_isiK (K := K) rfl
  · rfl
  · exact T.n_isinstance
  · exact bt_isinstance
  refine pk ?_ ?_
  · exact pv 0
  refine pk ?_ ?_
  · exact pe_bt rfl T.n_bool bt_bool
  exact pa_nil
/-! ### _law_cell -/
abbrev s__law_cell : Stmt := top 18
theorem sc__law_cell : FnScope ["_law_script", "_law_k", "_law_number"] ["_law_script", "_law_k"] (defScope s__law_cell) := ⟨rfl, rfl, rfl, by decide +kernel, rfl, by decide +kernel, by decide +kernel⟩
theorem ok__law_cell (T : Txt K mg c aN aH aT)  {f : Addr} {fd : FuncData} (F : Fun K "_law_cell" "_law_cell" s__law_cell f fd) : FnOk P w K mg base CX0 1 f fd ["_law_script", "_law_k"] (spCell K) := by
  refine F.ok sc__law_cell (fun vs H Q E h => ?len) (fun cdv A outer s H vs Q E hr h => ?_)
  case len =>
    obtain ⟨_, _, _, rfl, _⟩ := h
    rfl
  have nd := sc__law_cell.nd
  refine ⟨t__law_cell K, ?_, rd__law_cell  h⟩
  refine pss_cons ?_ ?_
  · refine ps_if ?_ ?_ ?_
    · refine pt_cmpR ?_ ?_ ?_ ?_
      · exact op_lt
      · exact pv 1
      · refine pe_callB (id := "len") ?_ ?_ ?_ ?_ ?_
        · exact call_len
        · rfl
        · exact T.n_len
        · exact bt_len
        refine pk ?_ ?_
        · exact pv 0
        exact pa_nil
      exact nomark _
    · refine pss_one ?_
      refine ps_ret ?_
      refine pe_ix ?_ ?_ ?_ ?_
      · exact ix_seq
      · exact pv 0
      · exact pv 1
      exact fun _ _ => rfl
    exact pss_nil
  refine pss_cons ?_ ?_
  · refine ps_st (i := 2) ?_
    refine pe_op ?_ ?_ ?_
    · exact op_addA
    · refine pe_op ?_ ?_ ?_
      · exact op_mulX
      · refine pe_op ?_ ?_ ?_
        · exact op_mulX
        · exact pv 1
        exact pv 1
      exact pe_int
    exact pe_int
  refine pss_cons ?_ ?_
  · refine ps_if ?_ ?_ ?_
    · refine pt_cmpR ?_ ?_ ?_ ?_
      · exact op_gt
      · refine pe_callB (id := "len") ?_ ?_ ?_ ?_ ?_
        · exact call_len
        · rfl
        · exact T.n_len
        · exact bt_len
        refine pk ?_ ?_
        · exact pv 0
        exact pa_nil
      · exact pe_int
      exact nomark _
    · refine pss_one ?_
      refine ps_st (i := 2) ?_
      refine pe_op ?_ ?_ ?_
      · exact op_addA
      · exact pv 2
      refine pe_op ?_ ?_ ?_
      · exact op_mulX
      · refine pe_op ?_ ?_ ?_
        · exact op_mod
        · refine pe_ix ?_ ?_ ?_ ?_
          · exact ix_seq
          · exact pv 0
          · refine pe_op ?_ ?_ ?_
            · exact op_mod
            · refine pe_op ?_ ?_ ?_
              · exact op_mulX
              · exact pv 1
              exact pe_int
            refine pe_callB (id := "len") ?_ ?_ ?_ ?_ ?_
            · exact call_len
            · rfl
            · exact T.n_len
            · exact bt_len
            refine pk ?_ ?_
            · exact pv 0
            exact pa_nil
          exact fun _ _ => rfl
        exact pe_int
      exact pe_int
    exact pss_nil
  refine pss_one ?_
  refine ps_ret ?_
  refine pe_op ?_ ?_ ?_
  · exact op_mod
  · refine pe_op ?_ ?_ ?_
    · exact op_mulX
    · exact pv 2
    exact pe_int
  exact pe_int
/-! ### _law_mixed -/
abbrev s__law_mixed : Stmt := top 19
theorem sc__law_mixed : FnScope ["_law_script", "_law_k"] ["_law_script", "_law_k"] (defScope s__law_mixed) := ⟨rfl, rfl, rfl, by decide +kernel, rfl, by decide +kernel, by decide +kernel⟩
theorem ok__law_mixed (T : Txt K mg c aN aH aT) (C__law_cell : Cal P w K mg base CX0 1 "_law_cell" (spCell K)) {f : Addr} {fd : FuncData} (F : Fun K "_law_mixed" "_law_mixed" s__law_mixed f fd) : FnOk P w K mg base CX0 2 f fd ["_law_script", "_law_k"] (spMixed K) := by
  refine F.ok sc__law_mixed (fun vs H Q E h => ?len) (fun cdv A outer s H vs Q E hr h => ?_)
  case len =>
    obtain ⟨_, _, _, rfl, _⟩ := h
    rfl
  have nd := sc__law_mixed.nd
  refine ⟨t__law_mixed K, ?_, rd__law_mixed  h⟩
  refine pss_one ?_
  refine ps_ret ?_
  refine pe_op ?_ ?_ ?_
  · exact op_mod
  · refine pe_op ?_ ?_ ?_
    · exact op_mulX
    · refine pe_op ?_ ?_ ?_
      · exact op_mod
      · refine pe_cal (CX := CX0) (k := 1) ?_ ?_ ?_ ?_
        · exact C__law_cell
        · exact hr.mono (by decide)
        · exact pass0
        refine pk ?_ ?_
        · exact pv 0
        refine pk ?_ ?_
        · exact pv 1
        exact pa_nil
      exact pe_int
    exact pe_int
  exact pe_int
/-! ### _law_divisor -/
abbrev s__law_divisor : Stmt := top 20
theorem sc__law_divisor : FnScope ["_law_one", "_law_other"] ["_law_one", "_law_other"] (defScope s__law_divisor) := ⟨rfl, rfl, rfl, by decide +kernel, rfl, by decide +kernel, by decide +kernel⟩
theorem ok__law_divisor (T : Txt K mg c aN aH aT)  {f : Addr} {fd : FuncData} (F : Fun K "_law_divisor" "_law_divisor" s__law_divisor f fd) : FnOk P w K mg base CX0 1 f fd ["_law_one", "_law_other"] spGcd := by
  refine F.ok sc__law_divisor (fun vs H Q E h => ?len) (fun cdv A outer s H vs Q E hr h => ?_)
  case len =>
    obtain ⟨_, _, rfl, _⟩ := h
    rfl
  have nd := sc__law_divisor.nd
  refine ⟨t__law_divisor K, ?_, rd__law_divisor  h⟩
  refine pss_cons ?_ ?_
  · refine ps_while ?_ ?_ ?_
    · exact PassesOwn.never
    · refine pt_cmpR ?_ ?_ ?_ ?_
      · exact op_neA hr.units
      · exact pv 1
      · exact pe_int
      exact nomark _
    refine pss_one ?_
    refine ps_pr (i := 0) (j := 1) ?_
    refine pk ?_ ?_
    · exact pv 1
    refine pk ?_ ?_
    · refine pe_op ?_ ?_ ?_
      · exact op_mod
      · exact pv 0
      exact pv 1
    exact pa_nil
  refine pss_one ?_
  refine ps_ret ?_
  refine pe_callB (id := "abs") ?_ ?_ ?_ ?_ ?_
  · exact call_abs
  · rfl
  · exact T.n_abs
  · exact bt_abs
  refine pk ?_ ?_
  · exact pv 0
  exact pa_nil
/-! ### _law_lowest -/
abbrev s__law_lowest : Stmt := top 21
theorem sc__law_lowest : FnScope ["_law_top", "_law_bottom", "_law_by"] ["_law_top", "_law_bottom"] (defScope s__law_lowest) := ⟨rfl, rfl, rfl, by decide +kernel, rfl, by decide +kernel, by decide +kernel⟩
theorem ok__law_lowest (T : Txt K mg c aN aH aT) (C__law_divisor : Cal P w K mg base CX0 1 "_law_divisor" spGcd) {f : Addr} {fd : FuncData} (F : Fun K "_law_lowest" "_law_lowest" s__law_lowest f fd) : FnOk P w K mg base CX0 2 f fd ["_law_top", "_law_bottom"] (spLLow K) := by
  refine F.ok sc__law_lowest (fun vs H Q E h => ?len) (fun cdv A outer s H vs Q E hr h => ?_)
  case len =>
    obtain ⟨_, _, rfl, _⟩ := h
    rfl
  have nd := sc__law_lowest.nd
  refine ⟨t__law_lowest K, ?_, rd__law_lowest  h⟩
  refine pss_cons ?_ ?_
  · refine ps_st (i := 2) ?_
    refine pe_cal (CX := CX0) (k := 1) ?_ ?_ ?_ ?_
    · exact C__law_divisor
    · exact hr.mono (by decide)
    · exact pass0
    refine pk ?_ ?_
    · exact pv 0
    refine pk ?_ ?_
    · exact pv 1
    exact pa_nil
  refine pss_one ?_
  refine ps_ret ?_
  refine pe_tup ?_
  refine pk ?_ ?_
  · refine pe_op ?_ ?_ ?_
    · exact op_fdivB
    · exact pv 0
    exact pv 2
  refine pk ?_ ?_
  · refine pe_op ?_ ?_ ?_
    · exact op_fdivB
    · exact pv 1
    exact pv 2
  exact pa_nil
/-! ### _law_ways -/
abbrev s__law_ways : Stmt := top 22
theorem sc__law_ways : FnScope ["_law_roads_here", "_law_start", "_law_end", "_law_lane", "_law_above", "_law_found", "_law_begun_here", "_law_way", "_law_seen", "_law_k", "_law_road"] ["_law_roads_here", "_law_start", "_law_end", "_law_lane", "_law_above"] (defScope s__law_ways) := ⟨rfl, rfl, rfl, by decide +kernel, rfl, by decide +kernel, by decide +kernel⟩
theorem ok__law_ways (T : Txt K mg c aN aH aT)  {f : Addr} {fd : FuncData} (F : Fun K "_law_ways" "_law_ways" s__law_ways f fd) : FnOk P w K mg base CX0 1 f fd ["_law_roads_here", "_law_start", "_law_end", "_law_lane", "_law_above"] (spWays K) := by
  refine F.ok sc__law_ways (fun vs H Q E h => ?len) (fun cdv A outer s H vs Q E hr h => ?_)
  case len =>
    obtain ⟨_, _, _, _, _, _, _, _, rfl, _⟩ := h
    rfl
  have nd := sc__law_ways.nd
  refine ⟨t__law_ways K, ?_, rd__law_ways  h⟩
  refine pss_cons ?_ ?_
  · refine ps_st (i := 5) ?_
    refine pe_lst ?_
    exact pa_nil
  refine pss_cons ?_ ?_
  · refine ps_st (i := 6) ?_
    refine pe_lst ?_
    refine pk ?_ ?_
    · refine pe_tup ?_
      refine pk ?_ ?_
      · refine pe_lst ?_
        exact pa_nil
      refine pk ?_ ?_
      · refine pe_lst ?_
        refine pk ?_ ?_
        · exact pv 1
        exact pa_nil
      exact pa_nil
    exact pa_nil
  refine pss_cons ?_ ?_
  · refine ps_while ?_ ?_ ?_
    · exact PassesOwn.never
    · refine pt_cmpR ?_ ?_ ?_ ?_
      · exact op_neA hr.units
      · exact pv 6
      · refine pe_lst ?_
        exact pa_nil
      exact nomark _
    refine pss_cons ?_ ?_
    · refine ps_asg ?_ ?_
      · refine pe_bm0 PySem.F.plainAttrs_list PySem.F.slot_list_pop PySem.F.type_list_pop mt_pop ?_
        exact pv 6
      refine pg_tup ?_ ?_
      · rfl
      refine pgs_cons ?_ ?_
      · exact pg_nm 7
      refine pgs_cons ?_ ?_
      · exact pg_nm 8
      exact pgs_nil
    refine pss_one ?_
    refine ps_for ?_ ?_ ?_ ?_ ?_
    · exact PassesOwn.never
    · rfl
    · refine pi_enum ?_ ?_ ?_
      · rfl
      · exact T.n_enumerate
      refine pk ?_ ?_
      · exact pv 0
      exact pa_nil
    · refine pg_tup ?_ ?_
      · rfl
      refine pgs_cons ?_ ?_
      · exact pg_nm 9
      refine pgs_cons ?_ ?_
      · exact pg_nm 10
      exact pgs_nil
    refine pss_one ?_
    refine ps_if ?_ ?_ ?_
    · refine PW.pt ?_
      refine pw_and ?_ ?_
      · refine pt_cmpR ?_ ?_ ?_ ?_
        · exact op_gt
        · exact pv 9
        · exact pv 4
        exact nomark _
      refine pw_and ?_ ?_
      · refine pt_cmpR ?_ ?_ ?_ ?_
        · exact op_eqA hr.units
        · refine pe_ix ?_ ?_ ?_ ?_
          · exact ix_seq
          · exact pv 10
          · exact pe_int
          exact fun _ _ => rfl
        · refine pe_ix ?_ ?_ ?_ ?_
          · exact ix_seq
          · exact pv 8
          · refine pe_un ?_ ?_
            · exact un_neg
            exact pe_int
          exact fun _ _ => rfl
        exact nomark _
      refine pw_and1 ?_
      refine PW.pt ?_
      refine pw_or ?_ ?_
      · refine pt_val ?_
        exact pv 3
      refine pw_or1 ?_
      refine pt_not ?_
      refine pt_val ?_
      refine pe_ix ?_ ?_ ?_ ?_
      · exact ix_seq
      · exact pv 10
      · exact pe_int
      exact fun _ _ => rfl
    · refine pss_one ?_
      refine ps_if ?_ ?_ ?_
      · refine pt_cmpR ?_ ?_ ?_ ?_
        · exact op_eqA hr.units
        · refine pe_ix ?_ ?_ ?_ ?_
          · exact ix_seq
          · exact pv 10
          · exact pe_int
          exact fun _ _ => rfl
        · exact pv 2
        exact nomark _
      · refine pss_one ?_
        refine ps_expr ?_
        refine pe_bm PySem.F.plainAttrs_list PySem.F.slot_list_append PySem.F.type_list_append mt_append ?_ ?_
        · exact pv 5
        refine pk ?_ ?_
        · refine pe_op ?_ ?_ ?_
          · exact op_addA
          · exact pv 7
          refine pe_lst ?_
          refine pk ?_ ?_
          · exact pv 9
          exact pa_nil
        exact pa_nil
      refine pss_one ?_
      refine ps_if ?_ ?_ ?_
      · refine pt_cmpR ?_ ?_ ?_ ?_
        · exact op_notIn_seq
        · refine pe_ix ?_ ?_ ?_ ?_
          · exact ix_seq
          · exact pv 10
          · exact pe_int
          exact fun _ _ => rfl
        · exact pv 8
        exact rfl
      · refine pss_one ?_
        refine ps_expr ?_
        refine pe_bm PySem.F.plainAttrs_list PySem.F.slot_list_append PySem.F.type_list_append mt_append ?_ ?_
        · exact pv 6
        refine pk ?_ ?_
        · refine pe_tup ?_
          refine pk ?_ ?_
          · refine pe_op ?_ ?_ ?_
            · exact op_addA
            · exact pv 7
            refine pe_lst ?_
            refine pk ?_ ?_
            · exact pv 9
            exact pa_nil
          refine pk ?_ ?_
          · refine pe_op ?_ ?_ ?_
            · exact op_addA
            · exact pv 8
            refine pe_lst ?_
            refine pk ?_ ?_
            · refine pe_ix ?_ ?_ ?_ ?_
              · exact ix_seq
              · exact pv 10
              · exact pe_int
              exact fun _ _ => rfl
            exact pa_nil
          exact pa_nil
        exact pa_nil
      exact pss_nil
    exact pss_nil
  refine pss_one ?_
  refine ps_ret ?_
  refine pe_callB (id := "sorted") ?_ ?_ ?_ ?_ ?_
  · exact call_sortedL hr.units
  · rfl
  · exact T.n_sorted
  · exact bt_sorted
  refine pk ?_ ?_
  · exact pv 5
  exact pa_nil
/-! ### _law_rings -/
abbrev s__law_rings : Stmt := top 23
theorem sc__law_rings : FnScope ["_law_roads_here", "_law_lane", "_law_found", "_law_k", "_law_road"] ["_law_roads_here", "_law_lane"] (defScope s__law_rings) := ⟨rfl, rfl, rfl, by decide +kernel, rfl, by decide +kernel, by decide +kernel⟩
theorem ok__law_rings (T : Txt K mg c aN aH aT) (C__law_ways : Cal P w K mg base CX0 1 "_law_ways" (spWays K)) {f : Addr} {fd : FuncData} (F : Fun K "_law_rings" "_law_rings" s__law_rings f fd) : FnOk P w K mg base CX0 2 f fd ["_law_roads_here", "_law_lane"] (spRings K) := by
  refine F.ok sc__law_rings (fun vs H Q E h => ?len) (fun cdv A outer s H vs Q E hr h => ?_)
  case len =>
    obtain ⟨_, _, _, _, _, rfl, _⟩ := h
    rfl
  have nd := sc__law_rings.nd
  refine ⟨t__law_rings K, ?_, rd__law_rings  h⟩
  refine pss_cons ?_ ?_
  · refine ps_st (i := 2) ?_
    refine pe_lst ?_
    exact pa_nil
  refine pss_cons ?_ ?_
  · refine ps_for ?_ ?_ ?_ ?_ ?_
    · exact PassesOwn.never
    · rfl
    · refine pi_enum ?_ ?_ ?_
      · rfl
      · exact T.n_enumerate
      refine pk ?_ ?_
      · exact pv 0
      exact pa_nil
    · refine pg_tup ?_ ?_
      · rfl
      refine pgs_cons ?_ ?_
      · exact pg_nm 3
      refine pgs_cons ?_ ?_
      · exact pg_nm 4
      exact pgs_nil
    refine pss_one ?_
    refine ps_if ?_ ?_ ?_
    · refine PW.pt ?_
      refine pw_or ?_ ?_
      · refine pt_val ?_
        exact pv 1
      refine pw_or1 ?_
      refine pt_not ?_
      refine pt_val ?_
      refine pe_ix ?_ ?_ ?_ ?_
      · exact ix_seq
      · exact pv 4
      · exact pe_int
      exact fun _ _ => rfl
    · refine pss_one ?_
      refine ps_st (i := 2) ?_
      refine pe_op ?_ ?_ ?_
      · exact op_addA
      · exact pv 2
      refine pe_comp (own := ["_law_way"]) (capt := ["_law_k"]) (ix := [3]) ?_ ?_ ?_ ?_ ?_ ?_
      · rfl
      · refine CompScope.of rfl (by decide +kernel) (by decide +kernel) ?_ ?_ (by decide +kernel)
        · show ∀ y ∈ (_ : List (Str × NameKind)), y.2 = NameKind.free → (defScope s__law_rings).names.lookup y.1 = some NameKind.cell
          decide +kernel
        · exact .cons rfl rfl (.nil)
      · refine pi_list ?_
        refine pe_cal (CX := CX0) (k := 1) ?_ ?_ ?_ ?_
        · exact C__law_ways
        · exact hr.mono (by decide)
        · exact pass0
        refine pk ?_ ?_
        · exact pv 0
        refine pk ?_ ?_
        · refine pe_ix ?_ ?_ ?_ ?_
          · exact ix_seq
          · exact pv 4
          · exact pe_int
          exact fun _ _ => rfl
        refine pk ?_ ?_
        · refine pe_ix ?_ ?_ ?_ ?_
          · exact ix_seq
          · exact pv 4
          · exact pe_int
          exact fun _ _ => rfl
        refine pk ?_ ?_
        · exact pv 1
        refine pk ?_ ?_
        · exact pv 3
        exact pa_nil
      · intro s0 H0 C0 fp0
        exact pg_name (i := 0) (by show (["_law_way", "_law_k"] : List Str).Nodup; decide +kernel) rfl (Or.inl rfl) (.inr rfl)
      · intro s0 H0 C0 fp0
        exact pf_nil
      intro s0 H0 C0 fp0
      refine pe_op ?_ ?_ ?_
      · exact op_addA
      · refine pe_lst ?_
        refine pk ?_ ?_
        · exact pv 1
        exact pa_nil
      exact pv 0
    exact pss_nil
  refine pss_one ?_
  refine ps_ret ?_
  exact pv 2
/-! ### _law_many -/
abbrev s__law_many : Stmt := top 24
theorem sc__law_many : FnScope ["_law_roads_here", "_law_wishes_here"] ["_law_roads_here", "_law_wishes_here"] (defScope s__law_many) := ⟨rfl, rfl, rfl, by decide +kernel, rfl, by decide +kernel, by decide +kernel⟩
theorem ok__law_many (T : Txt K mg c aN aH aT) (C__law_ways : Cal P w K mg base CX0 1 "_law_ways" (spWays K)) {f : Addr} {fd : FuncData} (F : Fun K "_law_many" "_law_many" s__law_many f fd) : FnOk P w K mg base CX0 2 f fd ["_law_roads_here", "_law_wishes_here"] (spMany K) := by
  refine F.ok sc__law_many (fun vs H Q E h => ?len) (fun cdv A outer s H vs Q E hr h => ?_)
  case len =>
    obtain ⟨_, _, _, _, _, _, _, rfl, _⟩ := h
    rfl
  have nd := sc__law_many.nd
  refine ⟨t__law_many K, ?_, rd__law_many  h⟩
  refine pss_one ?_
  refine ps_ret ?_
  refine pe_callB (id := "sum") ?_ ?_ ?_ ?_ ?_
  · exact call_sum rfl
  · rfl
  · exact T.n_sum
  · exact bt_sum
  refine pk ?_ ?_
  · refine pe_comp (own := ["_law_wish"]) (capt := ["_law_roads_here"]) (ix := [0]) ?_ ?_ ?_ ?_ ?_ ?_
    · rfl
    · refine CompScope.of rfl (by decide +kernel) (by decide +kernel) ?_ ?_ (by decide +kernel)
      · show ∀ y ∈ (_ : List (Str × NameKind)), y.2 = NameKind.free → (defScope s__law_many).names.lookup y.1 = some NameKind.cell
        decide +kernel
      · exact .cons rfl rfl (.nil)
    · refine pi_list ?_
      exact pv 1
    · intro s0 H0 C0 fp0
      exact pg_name (i := 0) (by show (["_law_wish", "_law_roads_here"] : List Str).Nodup; decide +kernel) rfl (Or.inl rfl) (.inr rfl)
    · intro s0 H0 C0 fp0
      exact pf_nil
    intro s0 H0 C0 fp0
    refine pe_callB (id := "len") ?_ ?_ ?_ ?_ ?_
    · exact call_len
    · rfl
    · exact T.n_len
    · exact bt_len
    refine pk ?_ ?_
    · refine pe_cal (CX := CX0) (k := 1) ?_ ?_ ?_ ?_
      · exact C__law_ways
      · exact hr.mono (by decide)
      · exact pass0
      refine pk ?_ ?_
      · exact pv 1
      refine pk ?_ ?_
      · refine pe_ix ?_ ?_ ?_ ?_
        · exact ix_seq
        · exact pv 0
        · exact pe_int
        exact fun _ _ => rfl
      refine pk ?_ ?_
      · refine pe_ix ?_ ?_ ?_ ?_
        · exact ix_seq
        · exact pv 0
        · exact pe_int
        exact fun _ _ => rfl
      refine pk ?_ ?_
      · refine pe_ix ?_ ?_ ?_ ?_
        · exact ix_seq
        · exact pv 0
        · exact pe_int
        exact fun _ _ => rfl
      refine pk ?_ ?_
      · refine pe_un ?_ ?_
        · exact un_neg
        exact pe_int
      exact pa_nil
    exact pa_nil
  exact pa_nil
/-! ### _law_wishes -/
abbrev s__law_wishes : Stmt := top 25
theorem sc__law_wishes : FnScope ["_law_script", "_law_many_here", "_law_wishes_here", "_law_k", "_law_cell_here", "_law_start"] ["_law_script", "_law_many_here"] (defScope s__law_wishes) := ⟨rfl, rfl, rfl, by decide +kernel, rfl, by decide +kernel, by decide +kernel⟩
theorem ok__law_wishes (T : Txt K mg c aN aH aT) (C__law_mixed : Cal P w K mg base CX0 2 "_law_mixed" (spMixed K)) (C__law_cell : Cal P w K mg base CX0 1 "_law_cell" (spCell K)) {f : Addr} {fd : FuncData} (F : Fun K "_law_wishes" "_law_wishes" s__law_wishes f fd) : FnOk P w K mg base CX0 3 f fd ["_law_script", "_law_many_here"] (spWishes K) := by
  refine F.ok sc__law_wishes (fun vs H Q E h => ?len) (fun cdv A outer s H vs Q E hr h => ?_)
  case len =>
    obtain ⟨_, _, _, rfl, _⟩ := h
    rfl
  have nd := sc__law_wishes.nd
  refine ⟨t__law_wishes K, ?_, rd__law_wishes  h⟩
  refine pss_cons ?_ ?_
  · refine ps_st (i := 2) ?_
    refine pe_lst ?_
    exact pa_nil
  refine pss_cons ?_ ?_
  · refine ps_for ?_ ?_ ?_ ?_ ?_
    · exact PassesOwn.never
    · rfl
    · refine pi_range1 ?_ ?_ ?_
      · rfl
      · exact T.n_range
      refine pk ?_ ?_
      · refine pe_op ?_ ?_ ?_
        · exact op_addA
        · exact pe_int
        refine pe_op ?_ ?_ ?_
        · exact op_mod
        · refine pe_op ?_ ?_ ?_
          · exact op_fdivB
          · refine pe_cal (CX := CX0) (k := 1) ?_ ?_ ?_ ?_
            · exact C__law_cell
            · exact hr.mono (by decide)
            · exact pass0
            refine pk ?_ ?_
            · exact pv 0
            refine pk ?_ ?_
            · exact pe_int
            exact pa_nil
          exact pe_int
        exact pe_int
      exact pa_nil
    · exact pg_nm 3
    refine pss_cons ?_ ?_
    · refine ps_st (i := 4) ?_
      refine pe_cal (CX := CX0) (k := 2) ?_ ?_ ?_ ?_
      · exact C__law_mixed
      · exact hr.mono (by decide)
      · exact pass0
      refine pk ?_ ?_
      · exact pv 0
      refine pk ?_ ?_
      · refine pe_op ?_ ?_ ?_
        · exact op_addA
        · exact pe_int
        exact pv 3
      exact pa_nil
    refine pss_cons ?_ ?_
    · refine ps_st (i := 5) ?_
      refine pe_op ?_ ?_ ?_
      · exact op_mod
      · exact pv 4
      exact pv 1
    refine pss_one ?_
    refine ps_expr ?_
    refine pe_bm PySem.F.plainAttrs_list PySem.F.slot_list_append PySem.F.type_list_append mt_append ?_ ?_
    · exact pv 2
    refine pk ?_ ?_
    · refine pe_tup ?_
      refine pk ?_ ?_
      · exact pv 5
      refine pk ?_ ?_
      · refine pe_op ?_ ?_ ?_
        · exact op_mod
        · refine pe_op ?_ ?_ ?_
          · exact op_addA
          · refine pe_op ?_ ?_ ?_
            · exact op_addA
            · exact pv 5
            exact pe_int
          refine pe_op ?_ ?_ ?_
          · exact op_mod
          · refine pe_op ?_ ?_ ?_
            · exact op_fdivB
            · exact pv 4
            exact pe_int
          refine pe_op ?_ ?_ ?_
          · exact op_sub
          · exact pv 1
          exact pe_int
        exact pv 1
      refine pk ?_ ?_
      · refine pe_cmpR ?_ ?_ ?_ ?_
        · exact op_eqA hr.units
        · refine pe_op ?_ ?_ ?_
          · exact op_mod
          · refine pe_op ?_ ?_ ?_
            · exact op_fdivB
            · exact pv 4
            exact pe_int
          exact pe_int
        · exact pe_int
        exact nomark _
      exact pa_nil
    exact pa_nil
  refine pss_one ?_
  refine ps_ret ?_
  exact pv 2
/-! ### _law_begun -/
abbrev s__law_begun : Stmt := top 26
theorem sc__law_begun : FnScope ["_law_script", "_law_many_here", "_law_wishes_here", "_law_straight", "_law_roads_here", "_law_k", "_law_wish", "_law_over"] ["_law_script", "_law_many_here", "_law_wishes_here", "_law_straight"] (defScope s__law_begun) := ⟨rfl, rfl, rfl, by decide +kernel, rfl, by decide +kernel, by decide +kernel⟩
theorem ok__law_begun (T : Txt K mg c aN aH aT) (C__law_mixed : Cal P w K mg base CX0 2 "_law_mixed" (spMixed K)) (C__law_many : Cal P w K mg base CX0 2 "_law_many" (spMany K)) {f : Addr} {fd : FuncData} (F : Fun K "_law_begun" "_law_begun" s__law_begun f fd) : FnOk P w K mg base CX0 3 f fd ["_law_script", "_law_many_here", "_law_wishes_here", "_law_straight"] (spBegun K) := by
  refine F.ok sc__law_begun (fun vs H Q E h => ?len) (fun cdv A outer s H vs Q E hr h => ?_)
  case len =>
    obtain ⟨_, _, _, _, _, _, _, rfl, _⟩ := h
    rfl
  have nd := sc__law_begun.nd
  refine ⟨t__law_begun K, ?_, rd__law_begun  h⟩
  refine pss_cons ?_ ?_
  · refine ps_st (i := 4) ?_
    refine pe_lst ?_
    exact pa_nil
  refine pss_cons ?_ ?_
  · refine ps_for ?_ ?_ ?_ ?_ ?_
    · exact PassesOwn.never
    · rfl
    · refine pi_enum ?_ ?_ ?_
      · rfl
      · exact T.n_enumerate
      refine pk ?_ ?_
      · exact pv 2
      exact pa_nil
    · refine pg_tup ?_ ?_
      · rfl
      refine pgs_cons ?_ ?_
      · exact pg_nm 5
      refine pgs_cons ?_ ?_
      · exact pg_nm 6
      exact pgs_nil
    refine pss_cons ?_ ?_
    · refine ps_st (i := 7) ?_
      refine pe_op ?_ ?_ ?_
      · exact op_mod
      · refine pe_cal (CX := CX0) (k := 2) ?_ ?_ ?_ ?_
        · exact C__law_mixed
        · exact hr.mono (by decide)
        · exact pass0
        refine pk ?_ ?_
        · exact pv 0
        refine pk ?_ ?_
        · refine pe_op ?_ ?_ ?_
          · exact op_addA
          · exact pe_int
          exact pv 5
        exact pa_nil
      exact pv 1
    refine pss_one ?_
    refine ps_if ?_ ?_ ?_
    · refine pt_cmpR ?_ ?_ ?_ ?_
      · exact op_eqA hr.units
      · refine pe_cal (CX := CX0) (k := 2) ?_ ?_ ?_ ?_
        · exact C__law_many
        · exact hr.mono (by decide)
        · exact pass0
        refine pk ?_ ?_
        · exact pv 4
        refine pk ?_ ?_
        · refine pe_lst ?_
          refine pk ?_ ?_
          · exact pv 6
          exact pa_nil
        exact pa_nil
      · exact pe_int
      exact nomark _
    · refine pss_one ?_
      refine ps_if ?_ ?_ ?_
      · refine PW.pt ?_
        refine pw_or ?_ ?_
        · refine pt_val ?_
          exact pv 3
        refine pw_or ?_ ?_
        · refine pt_cmpR ?_ ?_ ?_ ?_
          · exact op_eqA hr.units
          · exact pv 7
          · refine pe_ix ?_ ?_ ?_ ?_
            · exact ix_seq
            · exact pv 6
            · exact pe_int
            exact fun _ _ => rfl
          exact nomark _
        refine pw_or1 ?_
        refine pt_cmpR ?_ ?_ ?_ ?_
        · exact op_eqA hr.units
        · exact pv 7
        · refine pe_ix ?_ ?_ ?_ ?_
          · exact ix_seq
          · exact pv 6
          · exact pe_int
          exact fun _ _ => rfl
        exact nomark _
      · refine pss_one ?_
        refine ps_expr ?_
        refine pe_bm PySem.F.plainAttrs_list PySem.F.slot_list_append PySem.F.type_list_append mt_append ?_ ?_
        · exact pv 4
        refine pk ?_ ?_
        · refine pe_tup ?_
          refine pk ?_ ?_
          · refine pe_ix ?_ ?_ ?_ ?_
            · exact ix_seq
            · exact pv 6
            · exact pe_int
            exact fun _ _ => rfl
          refine pk ?_ ?_
          · refine pe_ix ?_ ?_ ?_ ?_
            · exact ix_seq
            · exact pv 6
            · exact pe_int
            exact fun _ _ => rfl
          refine pk ?_ ?_
          · exact pe_int
          refine pk ?_ ?_
          · exact pv 5
          refine pk ?_ ?_
          · exact pe_bl
          exact pa_nil
        exact pa_nil
      refine pss_cons ?_ ?_
      · refine ps_expr ?_
        refine pe_bm PySem.F.plainAttrs_list PySem.F.slot_list_append PySem.F.type_list_append mt_append ?_ ?_
        · exact pv 4
        refine pk ?_ ?_
        · refine pe_tup ?_
          refine pk ?_ ?_
          · refine pe_ix ?_ ?_ ?_ ?_
            · exact ix_seq
            · exact pv 6
            · exact pe_int
            exact fun _ _ => rfl
          refine pk ?_ ?_
          · exact pv 7
          refine pk ?_ ?_
          · exact pv 5
          refine pk ?_ ?_
          · exact pe_int
          refine pk ?_ ?_
          · exact pe_bl
          exact pa_nil
        exact pa_nil
      refine pss_one ?_
      refine ps_expr ?_
      refine pe_bm PySem.F.plainAttrs_list PySem.F.slot_list_append PySem.F.type_list_append mt_append ?_ ?_
      · exact pv 4
      refine pk ?_ ?_
      · refine pe_tup ?_
        refine pk ?_ ?_
        · exact pv 7
        refine pk ?_ ?_
        · refine pe_ix ?_ ?_ ?_ ?_
          · exact ix_seq
          · exact pv 6
          · exact pe_int
          exact fun _ _ => rfl
        refine pk ?_ ?_
        · exact pe_int
        refine pk ?_ ?_
        · exact pe_int
        refine pk ?_ ?_
        · exact pe_bl
        exact pa_nil
      exact pa_nil
    exact pss_nil
  refine pss_one ?_
  refine ps_ret ?_
  exact pv 4
/-! ### _law_roads -/
abbrev s__law_roads : Stmt := top 27
theorem sc__law_roads : FnScope ["_law_script", "_law_many_here", "_law_wishes_here", "_law_roads_here", "_law_k", "_law_far", "_law_found", "_law_cell_here", "_law_start", "_law_end", "_law_at", "_law_more", "_law_road", "_law_base", "_law_slope"] ["_law_script", "_law_many_here", "_law_wishes_here"] (defScope s__law_roads) := ⟨rfl, rfl, rfl, by decide +kernel, rfl, by decide +kernel, by decide +kernel⟩
theorem ok__law_roads (T : Txt K mg c aN aH aT) (C__law_begun : Cal P w K mg base CX0 3 "_law_begun" (spBegun K)) (C__law_many : Cal P w K mg base CX0 2 "_law_many" (spMany K)) (C__law_mixed : Cal P w K mg base CX0 2 "_law_mixed" (spMixed K)) (C__law_cell : Cal P w K mg base CX0 1 "_law_cell" (spCell K)) {f : Addr} {fd : FuncData} (F : Fun K "_law_roads" "_law_roads" s__law_roads f fd) : FnOk P w K mg base CX0 4 f fd ["_law_script", "_law_many_here", "_law_wishes_here"] (spRoads K) := by
  refine F.ok sc__law_roads (fun vs H Q E h => ?len) (fun cdv A outer s H vs Q E hr h => ?_)
  case len =>
    obtain ⟨_, _, _, _, _, _, rfl, _⟩ := h
    rfl
  have nd := sc__law_roads.nd
  refine ⟨t__law_roads K, ?_, rd__law_roads  h⟩
  refine pss_cons ?_ ?_
  · refine ps_st (i := 3) ?_
    refine pe_cal (CX := CX0) (k := 3) ?_ ?_ ?_ ?_
    · exact C__law_begun
    · exact hr.mono (by decide)
    · exact pass0
    refine pk ?_ ?_
    · exact pv 0
    refine pk ?_ ?_
    · exact pv 1
    refine pk ?_ ?_
    · exact pv 2
    refine pk ?_ ?_
    · exact pe_bl
    exact pa_nil
  refine pss_cons ?_ ?_
  · refine ps_if ?_ ?_ ?_
    · refine pt_cmpR ?_ ?_ ?_ ?_
      · exact op_gt
      · refine pe_cal (CX := CX0) (k := 2) ?_ ?_ ?_ ?_
        · exact C__law_many
        · exact hr.mono (by decide)
        · exact pass0
        refine pk ?_ ?_
        · exact pv 3
        refine pk ?_ ?_
        · exact pv 2
        exact pa_nil
      · exact pe_int
      exact nomark _
    · refine pss_one ?_
      refine ps_st (i := 3) ?_
      refine pe_cal (CX := CX0) (k := 3) ?_ ?_ ?_ ?_
      · exact C__law_begun
      · exact hr.mono (by decide)
      · exact pass0
      refine pk ?_ ?_
      · exact pv 0
      refine pk ?_ ?_
      · exact pv 1
      refine pk ?_ ?_
      · exact pv 2
      refine pk ?_ ?_
      · exact pe_bl
      exact pa_nil
    exact pss_nil
  refine pss_cons ?_ ?_
  · refine ps_for ?_ ?_ ?_ ?_ ?_
    · exact PassesOwn.never
    · rfl
    · refine pi_range1 ?_ ?_ ?_
      · rfl
      · exact T.n_range
      refine pk ?_ ?_
      · exact pe_int
      exact pa_nil
    · exact pg_nm 4
    refine pss_cons ?_ ?_
    · refine ps_st (i := 7) ?_
      refine pe_cal (CX := CX0) (k := 2) ?_ ?_ ?_ ?_
      · exact C__law_mixed
      · exact hr.mono (by decide)
      · exact pass0
      refine pk ?_ ?_
      · exact pv 0
      refine pk ?_ ?_
      · refine pe_op ?_ ?_ ?_
        · exact op_addA
        · exact pe_int
        exact pv 4
      exact pa_nil
    refine pss_cons ?_ ?_
    · refine ps_st (i := 8) ?_
      refine pe_op ?_ ?_ ?_
      · exact op_mod
      · refine pe_op ?_ ?_ ?_
        · exact op_fdivB
        · exact pv 7
        exact pe_int
      exact pv 1
    refine pss_cons ?_ ?_
    · refine ps_st (i := 9) ?_
      refine pe_op ?_ ?_ ?_
      · exact op_mod
      · refine pe_op ?_ ?_ ?_
        · exact op_addA
        · refine pe_op ?_ ?_ ?_
          · exact op_addA
          · exact pv 8
          exact pe_int
        refine pe_op ?_ ?_ ?_
        · exact op_mod
        · refine pe_op ?_ ?_ ?_
          · exact op_fdivB
          · exact pv 7
          exact pe_int
        refine pe_op ?_ ?_ ?_
        · exact op_sub
        · exact pv 1
        exact pe_int
      exact pv 1
    refine pss_cons ?_ ?_
    · refine ps_if ?_ ?_ ?_
      · refine pt_cmpR ?_ ?_ ?_ ?_
        · exact op_eqA hr.units
        · refine pe_op ?_ ?_ ?_
          · exact op_mod
          · refine pe_op ?_ ?_ ?_
            · exact op_fdivB
            · exact pv 7
            exact pe_int
          exact pe_int
        · exact pe_int
        exact nomark _
      · refine pss_one ?_
        refine ps_asg ?_ ?_
        · refine pe_slice ?_ ?_ ?_ ?_
          · exact sl_tup
          · refine pe_ix ?_ ?_ ?_ ?_
            · exact ix_seq
            · exact pv 3
            · refine pe_op ?_ ?_ ?_
              · exact op_mod
              · refine pe_op ?_ ?_ ?_
                · exact op_fdivB
                · exact pv 7
                exact pe_int
              refine pe_callB (id := "len") ?_ ?_ ?_ ?_ ?_
              · exact call_len
              · rfl
              · exact T.n_len
              · exact bt_len
              refine pk ?_ ?_
              · exact pv 3
              exact pa_nil
            exact fun _ _ => rfl
          · exact po_none
          · refine po_some ?_
            exact pe_int
        refine pg_tup ?_ ?_
        · rfl
        refine pgs_cons ?_ ?_
        · exact pg_nm 9
        refine pgs_cons ?_ ?_
        · exact pg_nm 8
        exact pgs_nil
      exact pss_nil
    refine pss_cons ?_ ?_
    · refine ps_st (i := 10) ?_
      refine pe_op ?_ ?_ ?_
      · exact op_mod
      · refine pe_op ?_ ?_ ?_
        · exact op_fdivB
        · exact pv 7
        exact pe_int
      refine pe_op ?_ ?_ ?_
      · exact op_addA
      · refine pe_callB (id := "len") ?_ ?_ ?_ ?_ ?_
        · exact call_len
        · rfl
        · exact T.n_len
        · exact bt_len
        refine pk ?_ ?_
        · exact pv 3
        exact pa_nil
      exact pe_int
    refine pss_cons ?_ ?_
    · refine ps_st (i := 11) ?_
      refine pe_op ?_ ?_ ?_
      · exact op_addA
      · refine pe_op ?_ ?_ ?_
        · exact op_addA
        · refine pe_slice ?_ ?_ ?_ ?_
          · exact sl_list
          · exact pv 3
          · exact po_none
          · refine po_some ?_
            exact pv 10
        refine pe_lst ?_
        refine pk ?_ ?_
        · refine pe_tup ?_
          refine pk ?_ ?_
          · exact pv 8
          refine pk ?_ ?_
          · exact pv 9
          refine pk ?_ ?_
          · exact pe_int
          refine pk ?_ ?_
          · exact pe_int
          refine pk ?_ ?_
          · refine pe_cmpR ?_ ?_ ?_ ?_
            · exact op_eqA hr.units
            · refine pe_op ?_ ?_ ?_
              · exact op_mod
              · refine pe_op ?_ ?_ ?_
                · exact op_fdivB
                · exact pv 7
                exact pe_int
              exact pe_int
            · exact pe_int
            exact nomark _
          exact pa_nil
        exact pa_nil
      refine pe_slice ?_ ?_ ?_ ?_
      · exact sl_list
      · exact pv 3
      · refine po_some ?_
        exact pv 10
      · exact po_none
    refine pss_one ?_
    refine ps_if ?_ ?_ ?_
    · refine PW.pt ?_
      refine pw_and ?_ ?_
      · refine pt_cmpR ?_ ?_ ?_ ?_
        · exact op_lt
        · refine pe_callB (id := "len") ?_ ?_ ?_ ?_ ?_
          · exact call_len
          · rfl
          · exact T.n_len
          · exact bt_len
          refine pk ?_ ?_
          · exact pv 11
          exact pa_nil
        · exact pe_int
        exact nomark _
      refine pw_and1 ?_
      refine pt_cmpR ?_ ?_ ?_ ?_
      · exact op_lt
      · refine pe_cal (CX := CX0) (k := 2) ?_ ?_ ?_ ?_
        · exact C__law_many
        · exact hr.mono (by decide)
        · exact pass0
        refine pk ?_ ?_
        · exact pv 11
        refine pk ?_ ?_
        · exact pv 2
        exact pa_nil
      · exact pe_int
      exact nomark _
    · refine pss_one ?_
      refine ps_st (i := 3) ?_
      exact pv 11
    exact pss_nil
  refine pss_cons ?_ ?_
  · refine ps_st (i := 5) ?_
    refine pe_ix ?_ ?_ ?_ ?_
    · exact ix_seq
    · refine pe_lst ?_
      refine pk ?_ ?_
      · exact pe_int
      refine pk ?_ ?_
      · refine pe_op ?_ ?_ ?_
        · exact op_pow
        · exact pe_int
        exact pe_int
      refine pk ?_ ?_
      · refine pe_op ?_ ?_ ?_
        · exact op_pow
        · exact pe_int
        exact pe_int
      exact pa_nil
    · refine pe_op ?_ ?_ ?_
      · exact op_mod
      · refine pe_cal (CX := CX0) (k := 2) ?_ ?_ ?_ ?_
        · exact C__law_mixed
        · exact hr.mono (by decide)
        · exact pass0
        refine pk ?_ ?_
        · exact pv 0
        refine pk ?_ ?_
        · exact pe_int
        exact pa_nil
      exact pe_int
    exact fun _ _ => rfl
  refine pss_cons ?_ ?_
  · refine ps_st (i := 6) ?_
    refine pe_lst ?_
    exact pa_nil
  refine pss_cons ?_ ?_
  · refine ps_for ?_ ?_ ?_ ?_ ?_
    · exact PassesOwn.never
    · rfl
    · refine pi_enum ?_ ?_ ?_
      · rfl
      · exact T.n_enumerate
      refine pk ?_ ?_
      · exact pv 3
      exact pa_nil
    · refine pg_tup ?_ ?_
      · rfl
      refine pgs_cons ?_ ?_
      · exact pg_nm 4
      refine pgs_cons ?_ ?_
      · exact pg_nm 12
      exact pgs_nil
    refine pss_cons ?_ ?_
    · refine ps_st (i := 13) ?_
      refine pe_op ?_ ?_ ?_
      · exact op_mulX
      · refine pe_op ?_ ?_ ?_
        · exact op_mod
        · refine pe_op ?_ ?_ ?_
          · exact op_mulX
          · refine pe_op ?_ ?_ ?_
            · exact op_fdivB
            · refine pe_cal (CX := CX0) (k := 1) ?_ ?_ ?_ ?_
              · exact C__law_cell
              · exact hr.mono (by decide)
              · exact pass0
              refine pk ?_ ?_
              · exact pv 0
              refine pk ?_ ?_
              · refine pe_op ?_ ?_ ?_
                · exact op_addA
                · exact pe_int
                exact pv 4
              exact pa_nil
            exact pe_int
          exact pe_int
        exact pv 5
      refine pe_callTy (T := "int") ?_ ?_ ?_ ?_ ?_
      · exact call_int1
      · rfl
      · exact T.n_int
      · exact bt_int
      refine pk ?_ ?_
      · refine pe_cmpR ?_ ?_ ?_ ?_
        · exact op_gt
        · refine pe_op ?_ ?_ ?_
          · exact op_mod
          · refine pe_cal (CX := CX0) (k := 2) ?_ ?_ ?_ ?_
            · exact C__law_mixed
            · exact hr.mono (by decide)
            · exact pass0
            refine pk ?_ ?_
            · exact pv 0
            refine pk ?_ ?_
            · refine pe_op ?_ ?_ ?_
              · exact op_addA
              · exact pe_int
              exact pv 4
            exact pa_nil
          exact pe_int
        · exact pe_int
        exact nomark _
      exact pa_nil
    refine pss_cons ?_ ?_
    · refine ps_st (i := 14) ?_
      refine pe_op ?_ ?_ ?_
      · exact op_mulX
      · refine pe_op ?_ ?_ ?_
        · exact op_mod
        · refine pe_op ?_ ?_ ?_
          · exact op_mulX
          · refine pe_op ?_ ?_ ?_
            · exact op_fdivB
            · refine pe_cal (CX := CX0) (k := 1) ?_ ?_ ?_ ?_
              · exact C__law_cell
              · exact hr.mono (by decide)
              · exact pass0
              refine pk ?_ ?_
              · exact pv 0
              refine pk ?_ ?_
              · refine pe_op ?_ ?_ ?_
                · exact op_sub
                · exact pe_int
                exact pv 4
              exact pa_nil
            exact pe_int
          exact pe_int
        exact pv 5
      refine pe_callTy (T := "int") ?_ ?_ ?_ ?_ ?_
      · exact call_int1
      · rfl
      · exact T.n_int
      · exact bt_int
      refine pk ?_ ?_
      · refine pe_cmpR ?_ ?_ ?_ ?_
        · exact op_gt
        · refine pe_op ?_ ?_ ?_
          · exact op_mod
          · refine pe_op ?_ ?_ ?_
            · exact op_fdivB
            · refine pe_cal (CX := CX0) (k := 2) ?_ ?_ ?_ ?_
              · exact C__law_mixed
              · exact hr.mono (by decide)
              · exact pass0
              refine pk ?_ ?_
              · exact pv 0
              refine pk ?_ ?_
              · refine pe_op ?_ ?_ ?_
                · exact op_sub
                · exact pe_int
                exact pv 4
              exact pa_nil
            exact pe_int
          exact pe_int
        · exact pe_int
        exact nomark _
      exact pa_nil
    refine pss_one ?_
    refine ps_expr ?_
    refine pe_bm PySem.F.plainAttrs_list PySem.F.slot_list_append PySem.F.type_list_append mt_append ?_ ?_
    · exact pv 6
    refine pk ?_ ?_
    · refine pe_op ?_ ?_ ?_
      · exact op_addA
      · refine pe_slice ?_ ?_ ?_ ?_
        · exact sl_tup
        · exact pv 12
        · exact po_none
        · refine po_some ?_
          exact pe_int
      refine pe_tup ?_
      refine pk ?_ ?_
      · exact pv 13
      refine pk ?_ ?_
      · exact pv 14
      refine pk ?_ ?_
      · refine pe_ix ?_ ?_ ?_ ?_
        · exact ix_seq
        · exact pv 12
        · exact pe_int
        exact fun _ _ => rfl
      exact pa_nil
    exact pa_nil
  refine pss_one ?_
  refine ps_ret ?_
  exact pv 6
/-! ### _law_rows -/
abbrev s__law_rows : Stmt := top 28
theorem sc__law_rows : FnScope ["_law_roads_here", "_law_wishes_here", "_law_rows_here", "_law_number", "_law_wish"] ["_law_roads_here", "_law_wishes_here"] (defScope s__law_rows) := ⟨rfl, rfl, rfl, by decide +kernel, rfl, by decide +kernel, by decide +kernel⟩
theorem ok__law_rows (T : Txt K mg c aN aH aT) (C__law_ways : Cal P w K mg base CX0 1 "_law_ways" (spWays K)) (C__law_rings : Cal P w K mg base CX0 2 "_law_rings" (spRings K)) {f : Addr} {fd : FuncData} (F : Fun K "_law_rows" "_law_rows" s__law_rows f fd) : FnOk P w K mg base CX0 3 f fd ["_law_roads_here", "_law_wishes_here"] (spRows K) := by
  refine F.ok sc__law_rows (fun vs H Q E h => ?len) (fun cdv A outer s H vs Q E hr h => ?_)
  case len =>
    obtain ⟨_, _, _, _, _, _, _, rfl, _⟩ := h
    rfl
  have nd := sc__law_rows.nd
  refine ⟨t__law_rows K, ?_, rd__law_rows  h⟩
  refine pss_cons ?_ ?_
  · refine ps_st (i := 2) ?_
    refine pe_lst ?_
    exact pa_nil
  refine pss_cons ?_ ?_
  · refine ps_for ?_ ?_ ?_ ?_ ?_
    · exact PassesOwn.never
    · rfl
    · refine pi_enum ?_ ?_ ?_
      · rfl
      · exact T.n_enumerate
      refine pk ?_ ?_
      · exact pv 1
      exact pa_nil
    · refine pg_tup ?_ ?_
      · rfl
      refine pgs_cons ?_ ?_
      · exact pg_nm 3
      refine pgs_cons ?_ ?_
      · exact pg_nm 4
      exact pgs_nil
    refine pss_cons ?_ ?_
    · refine ps_st (i := 2) ?_
      refine pe_op ?_ ?_ ?_
      · exact op_addA
      · exact pv 2
      refine pe_comp (own := ["_law_way"]) (capt := ["_law_number"]) (ix := [3]) ?_ ?_ ?_ ?_ ?_ ?_
      · rfl
      · refine CompScope.of rfl (by decide +kernel) (by decide +kernel) ?_ ?_ (by decide +kernel)
        · show ∀ y ∈ (_ : List (Str × NameKind)), y.2 = NameKind.free → (defScope s__law_rows).names.lookup y.1 = some NameKind.cell
          decide +kernel
        · exact .cons rfl rfl (.nil)
      · refine pi_list ?_
        refine pe_cal (CX := CX0) (k := 1) ?_ ?_ ?_ ?_
        · exact C__law_ways
        · exact hr.mono (by decide)
        · exact pass0
        refine pk ?_ ?_
        · exact pv 0
        refine pk ?_ ?_
        · refine pe_ix ?_ ?_ ?_ ?_
          · exact ix_seq
          · exact pv 4
          · exact pe_int
          exact fun _ _ => rfl
        refine pk ?_ ?_
        · refine pe_ix ?_ ?_ ?_ ?_
          · exact ix_seq
          · exact pv 4
          · exact pe_int
          exact fun _ _ => rfl
        refine pk ?_ ?_
        · refine pe_ix ?_ ?_ ?_ ?_
          · exact ix_seq
          · exact pv 4
          · exact pe_int
          exact fun _ _ => rfl
        refine pk ?_ ?_
        · refine pe_un ?_ ?_
          · exact un_neg
          exact pe_int
        exact pa_nil
      · intro s0 H0 C0 fp0
        exact pg_name (i := 0) (by show (["_law_way", "_law_number"] : List Str).Nodup; decide +kernel) rfl (Or.inl rfl) (.inr rfl)
      · intro s0 H0 C0 fp0
        exact pf_nil
      intro s0 H0 C0 fp0
      refine pe_tup ?_
      refine pk ?_ ?_
      · exact pv 1
      refine pk ?_ ?_
      · exact pv 0
      exact pa_nil
    refine pss_one ?_
    refine ps_st (i := 2) ?_
    refine pe_op ?_ ?_ ?_
    · exact op_addA
    · exact pv 2
    refine pe_comp (own := ["_law_ring"]) (capt := ["_law_number"]) (ix := [3]) ?_ ?_ ?_ ?_ ?_ ?_
    · rfl
    · refine CompScope.of rfl (by decide +kernel) (by decide +kernel) ?_ ?_ (by decide +kernel)
      · show ∀ y ∈ (_ : List (Str × NameKind)), y.2 = NameKind.free → (defScope s__law_rows).names.lookup y.1 = some NameKind.cell
        decide +kernel
      · exact .cons rfl rfl (.nil)
    · refine pi_list ?_
      refine pe_slice ?_ ?_ ?_ ?_
      · exact sl_list
      · refine pe_cal (CX := CX0) (k := 2) ?_ ?_ ?_ ?_
        · exact C__law_rings
        · exact hr.mono (by decide)
        · exact pass0
        refine pk ?_ ?_
        · exact pv 0
        refine pk ?_ ?_
        · refine pe_ix ?_ ?_ ?_ ?_
          · exact ix_seq
          · exact pv 4
          · exact pe_int
          exact fun _ _ => rfl
        exact pa_nil
      · exact po_none
      · refine po_some ?_
        exact pe_int
    · intro s0 H0 C0 fp0
      exact pg_name (i := 0) (by show (["_law_ring", "_law_number"] : List Str).Nodup; decide +kernel) rfl (Or.inl rfl) (.inr rfl)
    · intro s0 H0 C0 fp0
      exact pf_nil
    intro s0 H0 C0 fp0
    refine pe_tup ?_
    refine pk ?_ ?_
    · exact pv 1
    refine pk ?_ ?_
    · exact pv 0
    exact pa_nil
  refine pss_one ?_
  refine ps_ret ?_
  exact pv 2
/-! ### _law_amounts -/
abbrev s__law_amounts : Stmt := top 29
theorem sc__law_amounts : FnScope ["_law_script", "_law_rows_here", "_law_far", "_law_amounts_here", "_law_k", "_law_j", "_law_row"] ["_law_script", "_law_rows_here"] (defScope s__law_amounts) := ⟨rfl, rfl, rfl, by decide +kernel, rfl, by decide +kernel, by decide +kernel⟩
theorem ok__law_amounts (T : Txt K mg c aN aH aT) (C__law_mixed : Cal P w K mg base CX0 2 "_law_mixed" (spMixed K)) {f : Addr} {fd : FuncData} (F : Fun K "_law_amounts" "_law_amounts" s__law_amounts f fd) : FnOk P w K mg base CX0 3 f fd ["_law_script", "_law_rows_here"] (spAmounts K) := by
  refine F.ok sc__law_amounts (fun vs H Q E h => ?len) (fun cdv A outer s H vs Q E hr h => ?_)
  case len =>
    obtain ⟨_, _, _, _, _, rfl, _⟩ := h
    rfl
  have nd := sc__law_amounts.nd
  refine ⟨t__law_amounts K, ?_, rd__law_amounts  h⟩
  refine pss_cons ?_ ?_
  · refine ps_st (i := 2) ?_
    refine pe_ix ?_ ?_ ?_ ?_
    · exact ix_seq
    · refine pe_lst ?_
      refine pk ?_ ?_
      · exact pe_int
      refine pk ?_ ?_
      · refine pe_op ?_ ?_ ?_
        · exact op_pow
        · exact pe_int
        exact pe_int
      refine pk ?_ ?_
      · refine pe_op ?_ ?_ ?_
        · exact op_pow
        · exact pe_int
        exact pe_int
      exact pa_nil
    · refine pe_op ?_ ?_ ?_
      · exact op_mod
      · refine pe_cal (CX := CX0) (k := 2) ?_ ?_ ?_ ?_
        · exact C__law_mixed
        · exact hr.mono (by decide)
        · exact pass0
        refine pk ?_ ?_
        · exact pv 0
        refine pk ?_ ?_
        · exact pe_int
        exact pa_nil
      exact pe_int
    exact fun _ _ => rfl
  refine pss_cons ?_ ?_
  · refine ps_comp (i := 3) (own := ["_law_j"]) (capt := ["_law_far", "_law_script"]) (ix := [2, 0]) ?_ ?_ ?_ ?_ ?_ ?_
    · rfl
    · refine CompScope.of rfl (by decide +kernel) (by decide +kernel) ?_ ?_ (by decide +kernel)
      · show ∀ y ∈ (_ : List (Str × NameKind)), y.2 = NameKind.free → (defScope s__law_amounts).names.lookup y.1 = some NameKind.cell
        decide +kernel
      · exact .cons rfl rfl (.cons rfl rfl (.nil))
    · refine pi_range1 ?_ ?_ ?_
      · rfl
      · exact T.n_range
      refine pk ?_ ?_
      · refine pe_callB (id := "len") ?_ ?_ ?_ ?_ ?_
        · exact call_len
        · rfl
        · exact T.n_len
        · exact bt_len
        refine pk ?_ ?_
        · exact pv 1
        exact pa_nil
      exact pa_nil
    · intro s0 H0 C0 fp0
      exact pg_name (i := 0) (by show (["_law_j", "_law_far", "_law_script"] : List Str).Nodup; decide +kernel) rfl (Or.inl rfl) (.inr rfl)
    · intro s0 H0 C0 fp0
      exact pf_nil
    intro s0 H0 C0 fp0
    refine pe_op ?_ ?_ ?_
    · exact op_mulX
    · refine pe_op ?_ ?_ ?_
      · exact op_mod
      · refine pe_op ?_ ?_ ?_
        · exact op_fdivB
        · refine pe_cal (CX := CX0) (k := 2) ?_ ?_ ?_ ?_
          · exact C__law_mixed
          · exact hr.mono (by decide)
          · exact pass0
          refine pk ?_ ?_
          · exact pv 2
          refine pk ?_ ?_
          · refine pe_op ?_ ?_ ?_
            · exact op_addA
            · exact pe_int
            exact pv 0
          exact pa_nil
        exact pe_int
      exact pv 1
    refine pe_op ?_ ?_ ?_
    · exact op_mod
    · refine pe_op ?_ ?_ ?_
      · exact op_mod
      · refine pe_cal (CX := CX0) (k := 2) ?_ ?_ ?_ ?_
        · exact C__law_mixed
        · exact hr.mono (by decide)
        · exact pass0
        refine pk ?_ ?_
        · exact pv 2
        refine pk ?_ ?_
        · refine pe_op ?_ ?_ ?_
          · exact op_addA
          · exact pe_int
          exact pv 0
        exact pa_nil
      exact pe_int
    exact pe_int
  refine pss_cons ?_ ?_
  · refine ps_for ?_ ?_ ?_ ?_ ?_
    · exact PassesOwn.never
    · rfl
    · refine pi_range2 ?_ ?_ ?_
      · rfl
      · exact T.n_range
      refine pk ?_ ?_
      · exact pe_int
      refine pk ?_ ?_
      · refine pe_callB (id := "min") ?_ ?_ ?_ ?_ ?_
        · exact call_min2 rfl
        · rfl
        · exact T.n_min
        · exact bt_min
        refine pk ?_ ?_
        · refine pe_callB (id := "len") ?_ ?_ ?_ ?_ ?_
          · exact call_len
          · rfl
          · exact T.n_len
          · exact bt_len
          refine pk ?_ ?_
          · exact pv 0
          exact pa_nil
        refine pk ?_ ?_
        · exact pe_int
        exact pa_nil
      exact pa_nil
    · exact pg_nm 4
    refine pss_one ?_
    refine ps_agS ?_ ?_ ?_ ?_ ?_ ?_
    · exact pv 3
    · refine pe_op ?_ ?_ ?_
      · exact op_mod
      · exact pv 4
      refine pe_callB (id := "len") ?_ ?_ ?_ ?_ ?_
      · exact call_len
      · rfl
      · exact T.n_len
      · exact bt_len
      refine pk ?_ ?_
      · exact pv 1
      exact pa_nil
    · exact get_list
    · refine pe_op ?_ ?_ ?_
      · exact op_mod
      · refine pe_ix ?_ ?_ ?_ ?_
        · exact ix_seq
        · exact pv 0
        · exact pv 4
        exact fun _ _ => rfl
      exact pv 2
    · exact ip_add
    exact set_list
  refine pss_cons ?_ ?_
  · refine ps_for ?_ ?_ ?_ ?_ ?_
    · exact PassesOwn.never
    · rfl
    · refine pi_enum ?_ ?_ ?_
      · rfl
      · exact T.n_enumerate
      refine pk ?_ ?_
      · exact pv 1
      exact pa_nil
    · refine pg_tup ?_ ?_
      · rfl
      refine pgs_cons ?_ ?_
      · exact pg_nm 5
      refine pgs_cons ?_ ?_
      · exact pg_nm 6
      exact pgs_nil
    refine pss_one ?_
    refine ps_if ?_ ?_ ?_
    · refine PW.pt ?_
      refine pw_or ?_ ?_
      · refine pt_cmpR ?_ ?_ ?_ ?_
        · exact op_eqA hr.units
        · exact pv 5
        · exact pe_int
        exact nomark _
      refine pw_or1 ?_
      refine pt_cmpR ?_ ?_ ?_ ?_
      · exact op_neA hr.units
      · refine pe_ix ?_ ?_ ?_ ?_
        · exact ix_seq
        · refine pe_ix ?_ ?_ ?_ ?_
          · exact ix_seq
          · exact pv 1
          · refine pe_op ?_ ?_ ?_
            · exact op_sub
            · exact pv 5
            exact pe_int
          exact fun _ _ => rfl
        · exact pe_int
        exact fun _ _ => rfl
      · refine pe_ix ?_ ?_ ?_ ?_
        · exact ix_seq
        · exact pv 6
        · exact pe_int
        exact fun _ _ => rfl
      exact nomark _
    · refine pss_one ?_
      refine ps_agS ?_ ?_ ?_ ?_ ?_ ?_
      · exact pv 3
      · exact pv 5
      · exact get_list
      · exact pe_int
      · exact ip_add
      exact set_list
    exact pss_nil
  refine pss_one ?_
  refine ps_ret ?_
  exact pv 3
/-! ### _law_flows -/
abbrev s__law_flows : Stmt := top 30
theorem sc__law_flows : FnScope ["_law_rows_here", "_law_amounts_here", "_law_many_here", "_law_size", "_law_flows_here", "_law_row", "_law_amount", "_law_k"] ["_law_rows_here", "_law_amounts_here", "_law_many_here", "_law_size"] (defScope s__law_flows) := ⟨rfl, rfl, rfl, by decide +kernel, rfl, by decide +kernel, by decide +kernel⟩
theorem ok__law_flows (T : Txt K mg c aN aH aT)  {f : Addr} {fd : FuncData} (F : Fun K "_law_flows" "_law_flows" s__law_flows f fd) : FnOk P w K mg base CX0 1 f fd ["_law_rows_here", "_law_amounts_here", "_law_many_here", "_law_size"] (spFlows K) := by
  refine F.ok sc__law_flows (fun vs H Q E h => ?len) (fun cdv A outer s H vs Q E hr h => ?_)
  case len =>
    obtain ⟨_, _, _, _, _, _, _, _, _, rfl, _⟩ := h
    rfl
  have nd := sc__law_flows.nd
  refine ⟨t__law_flows K, ?_, rd__law_flows  h⟩
  refine pss_cons ?_ ?_
  · refine ps_comp (i := 4) (own := ["_law_k"]) (capt := ["_law_size"]) (ix := [3]) ?_ ?_ ?_ ?_ ?_ ?_
    · rfl
    · refine CompScope.of rfl (by decide +kernel) (by decide +kernel) ?_ ?_ (by decide +kernel)
      · show ∀ y ∈ (_ : List (Str × NameKind)), y.2 = NameKind.free → (defScope s__law_flows).names.lookup y.1 = some NameKind.cell
        decide +kernel
      · exact .cons rfl rfl (.nil)
    · refine pi_range1 ?_ ?_ ?_
      · rfl
      · exact T.n_range
      refine pk ?_ ?_
      · exact pv 2
      exact pa_nil
    · intro s0 H0 C0 fp0
      exact pg_name (i := 0) (by show (["_law_k", "_law_size"] : List Str).Nodup; decide +kernel) rfl (Or.inl rfl) (.inr rfl)
    · intro s0 H0 C0 fp0
      exact pf_nil
    intro s0 H0 C0 fp0
    refine pe_op ?_ ?_ ?_
    · exact op_rep
    · refine pe_lst ?_
      refine pk ?_ ?_
      · exact pe_int
      exact pa_nil
    exact pv 1
  refine pss_cons ?_ ?_
  · refine ps_for ?_ ?_ ?_ ?_ ?_
    · exact PassesOwn.never
    · rfl
    · refine pi_zip ?_ ?_ ?_
      · rfl
      · exact T.n_zip
      refine pk ?_ ?_
      · exact pv 0
      refine pk ?_ ?_
      · exact pv 1
      exact pa_nil
    · refine pg_tup ?_ ?_
      · rfl
      refine pgs_cons ?_ ?_
      · exact pg_nm 5
      refine pgs_cons ?_ ?_
      · exact pg_nm 6
      exact pgs_nil
    refine pss_one ?_
    refine ps_for ?_ ?_ ?_ ?_ ?_
    · exact PassesOwn.never
    · rfl
    · refine pi_list ?_
      refine pe_ix ?_ ?_ ?_ ?_
      · exact ix_seq
      · exact pv 5
      · exact pe_int
      exact fun _ _ => rfl
    · exact pg_nm 7
    refine pss_one ?_
    refine ps_agS ?_ ?_ ?_ ?_ ?_ ?_
    · refine pe_ix ?_ ?_ ?_ ?_
      · exact ix_seq
      · exact pv 4
      · refine pe_ix ?_ ?_ ?_ ?_
        · exact ix_seq
        · exact pv 5
        · exact pe_int
        exact fun _ _ => rfl
      exact fun _ _ => rfl
    · exact pv 7
    · exact get_list
    · exact pv 6
    · exact ip_add
    exact set_list
  refine pss_one ?_
  refine ps_ret ?_
  exact pv 4
/-! ### _law_equal -/
abbrev s__law_equal : Stmt := top 31
theorem sc__law_equal : FnScope ["_law_found", "_law_top", "_law_bottom"] ["_law_found", "_law_top", "_law_bottom"] (defScope s__law_equal) := ⟨rfl, rfl, rfl, by decide +kernel, rfl, by decide +kernel, by decide +kernel⟩
theorem ok__law_equal (T : Txt K mg c aN aH aT) (C__law_whole : Cal P w K mg base CX0 1 "_law_whole" (spWhole K)) (C__law_divisor : Cal P w K mg base CX0 1 "_law_divisor" spGcd) {f : Addr} {fd : FuncData} (F : Fun K "_law_equal" "_law_equal" s__law_equal f fd) : FnOk P w K mg base CX0 2 f fd ["_law_found", "_law_top", "_law_bottom"] (spEqual K) := by
  refine F.ok sc__law_equal (fun vs H Q E h => ?len) (fun cdv A outer s H vs Q E hr h => ?_)
  case len =>
    obtain ⟨_, _, _, _, _, rfl, _⟩ := h
    rfl
  have nd := sc__law_equal.nd
  refine ⟨t__law_equal K, ?_, rd__law_equal  h⟩
  refine pss_cons ?_ ?_
  · refine ps_if ?_ ?_ ?_
    · refine PW.pt ?_
      refine pw_or ?_ ?_
      · refine pt_not ?_
        refine pt_val ?_
        refine pe_callB (id := "isinstance") ?_ ?_ ?_ ?_ ?_
        · exact call_isiSK (K := K) rfl
        · rfl
        · exact T.n_isinstance
        · exact bt_isinstance
        refine pk ?_ ?_
        · exact pv 0
        refine pk ?_ ?_
        · exact pe_bt rfl T.n_tuple bt_tuple
        exact pa_nil
      refine pw_or ?_ ?_
      · refine pt_cmpR ?_ ?_ ?_ ?_
        · exact op_neA hr.units
        · refine pe_callB (id := "len") ?_ ?_ ?_ ?_ ?_
          · exact call_len
          · rfl
          · exact T.n_len
          · exact bt_len
          refine pk ?_ ?_
          · exact pv 0
          exact pa_nil
        · exact pe_int
        exact nomark _
      refine pw_or ?_ ?_
      · refine pt_not ?_
        refine pt_val ?_
        refine pe_cal (CX := CX0) (k := 1) ?_ ?_ ?_ ?_
        · exact C__law_whole
        · exact hr.mono (by decide)
        · exact pass0
        refine pk ?_ ?_
        · refine pe_ix ?_ ?_ ?_ ?_
          · exact ix_seq
          · exact pv 0
          · exact pe_int
          exact fun _ _ => rfl
        exact pa_nil
      refine pw_or1 ?_
      refine pt_not ?_
      refine pt_val ?_
      refine pe_cal (CX := CX0) (k := 1) ?_ ?_ ?_ ?_
      · exact C__law_whole
      · exact hr.mono (by decide)
      · exact pass0
      refine pk ?_ ?_
      · refine pe_ix ?_ ?_ ?_ ?_
        · exact ix_seq
        · exact pv 0
        · exact pe_int
        exact fun _ _ => rfl
      exact pa_nil
    · refine pss_one ?_
      refine ps_ret ?_
      exact pe_bl
    exact pss_nil
  refine pss_cons ?_ ?_
  · refine ps_if ?_ ?_ ?_
    · refine PW.pt ?_
      refine pw_or ?_ ?_
      · refine pt_cmpR ?_ ?_ ?_ ?_
        · exact op_lt
        · refine pe_ix ?_ ?_ ?_ ?_
          · exact ix_seq
          · exact pv 0
          · exact pe_int
          exact fun _ _ => rfl
        · exact pe_int
        exact nomark _
      refine pw_or1 ?_
      refine pt_cmpR ?_ ?_ ?_ ?_
      · exact op_neA hr.units
      · refine pe_cal (CX := CX0) (k := 1) ?_ ?_ ?_ ?_
        · exact C__law_divisor
        · exact hr.mono (by decide)
        · exact pass0
        refine pk ?_ ?_
        · refine pe_ix ?_ ?_ ?_ ?_
          · exact ix_seq
          · exact pv 0
          · exact pe_int
          exact fun _ _ => rfl
        refine pk ?_ ?_
        · refine pe_ix ?_ ?_ ?_ ?_
          · exact ix_seq
          · exact pv 0
          · exact pe_int
          exact fun _ _ => rfl
        exact pa_nil
      · exact pe_int
      exact nomark _
    · refine pss_one ?_
      refine ps_ret ?_
      exact pe_bl
    exact pss_nil
  refine pss_one ?_
  refine ps_ret ?_
  refine pe_cmpR ?_ ?_ ?_ ?_
  · exact op_eqA hr.units
  · refine pe_op ?_ ?_ ?_
    · exact op_mulX
    · refine pe_ix ?_ ?_ ?_ ?_
      · exact ix_seq
      · exact pv 0
      · exact pe_int
      exact fun _ _ => rfl
    exact pv 2
  · refine pe_op ?_ ?_ ?_
    · exact op_mulX
    · exact pv 1
    refine pe_ix ?_ ?_ ?_ ?_
    · exact ix_seq
    · exact pv 0
    · exact pe_int
    exact fun _ _ => rfl
  exact nomark _
/-! ### _law_list -/
abbrev s__law_list : Stmt := top 32
theorem sc__law_list : FnScope ["_law_found", "_law_tops", "_law_bottom", "_law_number", "_law_top"] ["_law_found", "_law_tops", "_law_bottom"] (defScope s__law_list) := ⟨rfl, rfl, rfl, by decide +kernel, rfl, by decide +kernel, by decide +kernel⟩
theorem ok__law_list (T : Txt K mg c aN aH aT) (C__law_equal : Cal P w K mg base CX0 2 "_law_equal" (spEqual K)) {f : Addr} {fd : FuncData} (F : Fun K "_law_list" "_law_list" s__law_list f fd) : FnOk P w K mg base CX0 3 f fd ["_law_found", "_law_tops", "_law_bottom"] (spListE K) := by
  refine F.ok sc__law_list (fun vs H Q E h => ?len) (fun cdv A outer s H vs Q E hr h => ?_)
  case len =>
    obtain ⟨_, _, _, _, _, _, _, rfl, _⟩ := h
    rfl
  have nd := sc__law_list.nd
  refine ⟨t__law_list K, ?_, rd__law_list  h⟩
  refine pss_cons ?_ ?_
  · refine ps_if ?_ ?_ ?_
    · refine PW.pt ?_
      refine pw_or ?_ ?_
      · refine pt_not ?_
        refine pt_val ?_
        refine pe_callB (id := "isinstance") ?_ ?_ ?_ ?_ ?_
        · exact call_isiK (K := K) rfl
        · rfl
        · exact T.n_isinstance
        · exact bt_isinstance
        refine pk ?_ ?_
        · exact pv 0
        refine pk ?_ ?_
        · exact pe_bt rfl T.n_list bt_list
        exact pa_nil
      refine pw_or1 ?_
      refine pt_cmpR ?_ ?_ ?_ ?_
      · exact op_neA hr.units
      · refine pe_callB (id := "len") ?_ ?_ ?_ ?_ ?_
        · exact call_len
        · rfl
        · exact T.n_len
        · exact bt_len
        refine pk ?_ ?_
        · exact pv 0
        exact pa_nil
      · refine pe_callB (id := "len") ?_ ?_ ?_ ?_ ?_
        · exact call_len
        · rfl
        · exact T.n_len
        · exact bt_len
        refine pk ?_ ?_
        · exact pv 1
        exact pa_nil
      exact nomark _
    · refine pss_one ?_
      refine ps_ret ?_
      exact pe_bl
    exact pss_nil
  refine pss_cons ?_ ?_
  · refine ps_for ?_ ?_ ?_ ?_ ?_
    · exact PassesOwn.never
    · rfl
    · refine pi_zip ?_ ?_ ?_
      · rfl
      · exact T.n_zip
      refine pk ?_ ?_
      · exact pv 0
      refine pk ?_ ?_
      · exact pv 1
      exact pa_nil
    · refine pg_tup ?_ ?_
      · rfl
      refine pgs_cons ?_ ?_
      · exact pg_nm 3
      refine pgs_cons ?_ ?_
      · exact pg_nm 4
      exact pgs_nil
    refine pss_one ?_
    refine ps_if ?_ ?_ ?_
    · refine pt_not ?_
      refine pt_val ?_
      refine pe_cal (CX := CX0) (k := 2) ?_ ?_ ?_ ?_
      · exact C__law_equal
      · exact hr.mono (by decide)
      · exact pass0
      refine pk ?_ ?_
      · exact pv 3
      refine pk ?_ ?_
      · exact pv 4
      refine pk ?_ ?_
      · exact pv 2
      exact pa_nil
    · refine pss_one ?_
      refine ps_ret ?_
      exact pe_bl
    exact pss_nil
  refine pss_one ?_
  refine ps_ret ?_
  exact pe_bl
/-! ### _law_asked -/
abbrev s__law_asked : Stmt := top 33
theorem sc__law_asked : FnScope ["_law_which", "_law_net", "_law_share", "_law_roads_here", "_law_flows_here", "_law_low", "_law_bottom", "_law_loads", "_law_times", "_law_total", "_law_half", "_law_dear"] ["_law_which", "_law_net", "_law_share", "_law_roads_here", "_law_flows_here", "_law_low", "_law_bottom"] (defScope s__law_asked) := ⟨rfl, rfl, rfl, by decide +kernel, rfl, by decide +kernel, by decide +kernel⟩
theorem ok__law_asked (T : Txt K mg c aN aH aT) (C__law_equal : Cal P w K mg base CX0 2 "_law_equal" (spEqual K)) (C__law_list : Cal P w K mg base CX0 3 "_law_list" (spListE K)) (C_told_number : Cal P w K mg base CX0 6 "told_number" (spToldN K)) (C_load_list : Cal P w K mg base CX0 5 "load_list" (spLoads K)) (C_road_times : Cal P w K mg base CX0 6 "road_times" (spTimes K)) (C_dear_times : Cal P w K mg base CX0 6 "dear_times" (spDear K)) (C_sum_of_times : Cal P w K mg base CX0 6 "sum_of_times" (spTot K)) {f : Addr} {fd : FuncData} (F : Fun K "_law_asked" "_law_asked" s__law_asked f fd) : FnOk P w K mg base CX0 7 f fd ["_law_which", "_law_net", "_law_share", "_law_roads_here", "_law_flows_here", "_law_low", "_law_bottom"] (spAsked K) := by
  refine F.ok sc__law_asked (fun vs H Q E h => ?len) (fun cdv A outer s H vs Q E hr h => ?_)
  case len =>
    obtain ⟨_, _, _, _, _, _, _, _, _, _, _, _, _, _, rfl, _⟩ := h
    rfl
  have nd := sc__law_asked.nd
  refine ⟨t__law_asked K, ?_, rd__law_asked  h⟩
  refine pss_cons ?_ ?_
  · refine ps_compC (i := 7) (own := ["_law_k"]) (capt := ["_law_flows_here"]) (ix := [4]) ?_ ?_ ?_ ?_ ?_ ?_
    · rfl
    · refine CompScopeC.of rfl (by decide +kernel) ?_ ?_ (by decide +kernel)
      · show ∀ y ∈ (_ : List (Str × NameKind)), y.2 = NameKind.free → (defScope s__law_asked).names.lookup y.1 = some NameKind.cell
        decide +kernel
      · exact .cons rfl rfl (.nil)
    · refine pi_range1 ?_ ?_ ?_
      · rfl
      · exact T.n_range
      refine pk ?_ ?_
      · refine pe_callB (id := "len") ?_ ?_ ?_ ?_ ?_
        · exact call_len
        · rfl
        · exact T.n_len
        · exact bt_len
        refine pk ?_ ?_
        · exact pv 3
        exact pa_nil
      exact pa_nil
    · intro s0 H0 C0 fp0
      exact pg_name (i := 0) (by show (["_law_k", "_law_flows_here"] : List Str).Nodup; decide +kernel) rfl (Or.inr rfl) (.inl rfl)
    · intro s0 H0 C0 fp0
      exact pf_nil
    intro s0 H0 C0 fp0
    refine pe_callB (id := "sum") ?_ ?_ ?_ ?_ ?_
    · exact call_sum rfl
    · rfl
    · exact T.n_sum
    · exact bt_sum
    refine pk ?_ ?_
    · refine pe_comp (own := ["_law_flow"]) (capt := ["_law_k"]) (ix := [0]) ?_ ?_ ?_ ?_ ?_ ?_
      · rfl
      · refine CompScope.of rfl (by decide +kernel) (by decide +kernel) ?_ ?_ (by decide +kernel)
        · show ∀ y ∈ (_ : List (Str × NameKind)), y.2 = NameKind.free → (relN _ (defScope s__law_asked)).lookup y.1 = some NameKind.cell
          decide +kernel
        · exact .cons rfl rfl (.nil)
      · refine pi_list ?_
        exact pv 1
      · intro s0 H0 C0 fp0
        exact pg_name (i := 0) (by show (["_law_flow", "_law_k"] : List Str).Nodup; decide +kernel) rfl (Or.inl rfl) (.inr rfl)
      · intro s0 H0 C0 fp0
        exact pf_nil
      intro s0 H0 C0 fp0
      refine pe_ix ?_ ?_ ?_ ?_
      · exact ix_seq
      · exact pv 0
      · exact pv 1
      exact fun _ _ => rfl
    exact pa_nil
  refine pss_cons ?_ ?_
  · refine ps_if ?_ ?_ ?_
    · refine pt_cmpR ?_ ?_ ?_ ?_
      · exact op_eqA hr.units
      · exact pv 0
      · exact pe_int
      exact nomark _
    · refine pss_one ?_
      refine ps_ret ?_
      refine pe_cal (CX := CX0) (k := 3) ?_ ?_ ?_ ?_
      · exact C__law_list
      · exact hr.mono (by decide)
      · exact pass0
      refine pk ?_ ?_
      · refine pe_cal (CX := CX0) (k := 5) ?_ ?_ ?_ ?_
        · exact C_load_list
        · exact hr.mono (by decide)
        · exact pass0
        refine pk ?_ ?_
        · exact pv 1
        refine pk ?_ ?_
        · exact pv 2
        exact pa_nil
      refine pk ?_ ?_
      · exact pv 7
      refine pk ?_ ?_
      · exact pv 6
      exact pa_nil
    exact pss_nil
  refine pss_cons ?_ ?_
  · refine ps_comp (i := 8) (own := ["_law_road", "_law_load"]) (capt := ["_law_bottom"]) (ix := [6]) ?_ ?_ ?_ ?_ ?_ ?_
    · rfl
    · refine CompScope.of rfl (by decide +kernel) (by decide +kernel) ?_ ?_ (by decide +kernel)
      · show ∀ y ∈ (_ : List (Str × NameKind)), y.2 = NameKind.free → (defScope s__law_asked).names.lookup y.1 = some NameKind.cell
        decide +kernel
      · exact .cons rfl rfl (.nil)
    · refine pi_zip ?_ ?_ ?_
      · rfl
      · exact T.n_zip
      refine pk ?_ ?_
      · exact pv 3
      refine pk ?_ ?_
      · exact pv 7
      exact pa_nil
    · intro s0 H0 C0 fp0
      refine pg_tup ?_ ?_
      · rfl
      refine pgs_cons ?_ ?_
      · exact pg_name (i := 0) (by show (["_law_road", "_law_load", "_law_bottom"] : List Str).Nodup; decide +kernel) rfl (Or.inl rfl) (.inr rfl)
      refine pgs_cons ?_ ?_
      · exact pg_name (i := 1) (by show (["_law_road", "_law_load", "_law_bottom"] : List Str).Nodup; decide +kernel) rfl (Or.inl rfl) (.inr rfl)
      exact pgs_nil
    · intro s0 H0 C0 fp0
      exact pf_nil
    intro s0 H0 C0 fp0
    refine pe_op ?_ ?_ ?_
    · exact op_addA
    · refine pe_op ?_ ?_ ?_
      · exact op_mulX
      · refine pe_ix ?_ ?_ ?_ ?_
        · exact ix_seq
        · exact pv 0
        · exact pe_int
        exact fun _ _ => rfl
      exact pv 2
    refine pe_op ?_ ?_ ?_
    · exact op_mulX
    · refine pe_ix ?_ ?_ ?_ ?_
      · exact ix_seq
      · exact pv 0
      · exact pe_int
      exact fun _ _ => rfl
    exact pv 1
  refine pss_cons ?_ ?_
  · refine ps_if ?_ ?_ ?_
    · refine pt_cmpR ?_ ?_ ?_ ?_
      · exact op_eqA hr.units
      · exact pv 0
      · exact pe_int
      exact nomark _
    · refine pss_one ?_
      refine ps_ret ?_
      refine pe_cal (CX := CX0) (k := 3) ?_ ?_ ?_ ?_
      · exact C__law_list
      · exact hr.mono (by decide)
      · exact pass0
      refine pk ?_ ?_
      · refine pe_cal (CX := CX0) (k := 6) ?_ ?_ ?_ ?_
        · exact C_road_times
        · exact hr.mono (by decide)
        · exact pass0
        refine pk ?_ ?_
        · exact pv 1
        refine pk ?_ ?_
        · exact pv 2
        exact pa_nil
      refine pk ?_ ?_
      · exact pv 8
      refine pk ?_ ?_
      · refine pe_op ?_ ?_ ?_
        · exact op_mulX
        · exact pv 5
        exact pv 6
      exact pa_nil
    exact pss_nil
  refine pss_cons ?_ ?_
  · refine ps_if ?_ ?_ ?_
    · refine pt_cmpR ?_ ?_ ?_ ?_
      · exact op_eqA hr.units
      · exact pv 0
      · exact pe_int
      exact nomark _
    · refine pss_cons ?_ ?_
      · refine ps_comp (i := 11) (own := ["_law_time", "_law_road", "_law_load"]) (capt := []) (ix := []) ?_ ?_ ?_ ?_ ?_ ?_
        · rfl
        · refine CompScope.of rfl (by decide +kernel) (by decide +kernel) ?_ ?_ (by decide +kernel)
          · show ∀ y ∈ (_ : List (Str × NameKind)), y.2 = NameKind.free → (defScope s__law_asked).names.lookup y.1 = some NameKind.cell
            decide +kernel
          · exact .nil
        · refine pi_zip3 ?_ ?_ ?_
          · rfl
          · exact T.n_zip
          refine pk ?_ ?_
          · exact pv 8
          refine pk ?_ ?_
          · exact pv 3
          refine pk ?_ ?_
          · exact pv 7
          exact pa_nil
        · intro s0 H0 C0 fp0
          refine pg_tup ?_ ?_
          · rfl
          refine pgs_cons ?_ ?_
          · exact pg_name (i := 0) (by show (["_law_time", "_law_road", "_law_load"] : List Str).Nodup; decide +kernel) rfl (Or.inl rfl) (.inr rfl)
          refine pgs_cons ?_ ?_
          · exact pg_name (i := 1) (by show (["_law_time", "_law_road", "_law_load"] : List Str).Nodup; decide +kernel) rfl (Or.inl rfl) (.inr rfl)
          refine pgs_cons ?_ ?_
          · exact pg_name (i := 2) (by show (["_law_time", "_law_road", "_law_load"] : List Str).Nodup; decide +kernel) rfl (Or.inl rfl) (.inr rfl)
          exact pgs_nil
        · intro s0 H0 C0 fp0
          exact pf_nil
        intro s0 H0 C0 fp0
        refine pe_op ?_ ?_ ?_
        · exact op_addA
        · exact pv 0
        refine pe_op ?_ ?_ ?_
        · exact op_mulX
        · refine pe_ix ?_ ?_ ?_ ?_
          · exact ix_seq
          · exact pv 1
          · exact pe_int
          exact fun _ _ => rfl
        exact pv 2
      refine pss_one ?_
      refine ps_ret ?_
      refine pe_cal (CX := CX0) (k := 3) ?_ ?_ ?_ ?_
      · exact C__law_list
      · exact hr.mono (by decide)
      · exact pass0
      refine pk ?_ ?_
      · refine pe_cal (CX := CX0) (k := 6) ?_ ?_ ?_ ?_
        · exact C_dear_times
        · exact hr.mono (by decide)
        · exact pass0
        refine pk ?_ ?_
        · exact pv 1
        refine pk ?_ ?_
        · exact pv 2
        exact pa_nil
      refine pk ?_ ?_
      · exact pv 11
      refine pk ?_ ?_
      · refine pe_op ?_ ?_ ?_
        · exact op_mulX
        · exact pv 5
        exact pv 6
      exact pa_nil
    exact pss_nil
  refine pss_cons ?_ ?_
  · refine ps_st (i := 9) ?_
    refine pe_callB (id := "sum") ?_ ?_ ?_ ?_ ?_
    · exact call_sum rfl
    · rfl
    · exact T.n_sum
    · exact bt_sum
    refine pk ?_ ?_
    · refine pe_comp (own := ["_law_time", "_law_load"]) (capt := []) (ix := []) ?_ ?_ ?_ ?_ ?_ ?_
      · rfl
      · refine CompScope.of rfl (by decide +kernel) (by decide +kernel) ?_ ?_ (by decide +kernel)
        · show ∀ y ∈ (_ : List (Str × NameKind)), y.2 = NameKind.free → (defScope s__law_asked).names.lookup y.1 = some NameKind.cell
          decide +kernel
        · exact .nil
      · refine pi_zip ?_ ?_ ?_
        · rfl
        · exact T.n_zip
        refine pk ?_ ?_
        · exact pv 8
        refine pk ?_ ?_
        · exact pv 7
        exact pa_nil
      · intro s0 H0 C0 fp0
        refine pg_tup ?_ ?_
        · rfl
        refine pgs_cons ?_ ?_
        · exact pg_name (i := 0) (by show (["_law_time", "_law_load"] : List Str).Nodup; decide +kernel) rfl (Or.inl rfl) (.inr rfl)
        refine pgs_cons ?_ ?_
        · exact pg_name (i := 1) (by show (["_law_time", "_law_load"] : List Str).Nodup; decide +kernel) rfl (Or.inl rfl) (.inr rfl)
        exact pgs_nil
      · intro s0 H0 C0 fp0
        exact pf_nil
      intro s0 H0 C0 fp0
      refine pe_op ?_ ?_ ?_
      · exact op_mulX
      · exact pv 0
      exact pv 1
    exact pa_nil
  refine pss_cons ?_ ?_
  · refine ps_if ?_ ?_ ?_
    · refine pt_cmpR ?_ ?_ ?_ ?_
      · exact op_eqA hr.units
      · exact pv 0
      · exact pe_int
      exact nomark _
    · refine pss_one ?_
      refine ps_ret ?_
      refine pe_cal (CX := CX0) (k := 2) ?_ ?_ ?_ ?_
      · exact C__law_equal
      · exact hr.mono (by decide)
      · exact pass0
      refine pk ?_ ?_
      · refine pe_cal (CX := CX0) (k := 6) ?_ ?_ ?_ ?_
        · exact C_sum_of_times
        · exact hr.mono (by decide)
        · exact pass0
        refine pk ?_ ?_
        · exact pv 1
        refine pk ?_ ?_
        · exact pv 2
        exact pa_nil
      refine pk ?_ ?_
      · exact pv 9
      refine pk ?_ ?_
      · refine pe_op ?_ ?_ ?_
        · exact op_mulX
        · refine pe_op ?_ ?_ ?_
          · exact op_mulX
          · exact pv 5
          exact pv 6
        exact pv 6
      exact pa_nil
    exact pss_nil
  refine pss_cons ?_ ?_
  · refine ps_st (i := 10) ?_
    refine pe_callB (id := "sum") ?_ ?_ ?_ ?_ ?_
    · exact call_sum rfl
    · rfl
    · exact T.n_sum
    · exact bt_sum
    refine pk ?_ ?_
    · refine pe_comp (own := ["_law_road", "_law_load"]) (capt := ["_law_bottom"]) (ix := [6]) ?_ ?_ ?_ ?_ ?_ ?_
      · rfl
      · refine CompScope.of rfl (by decide +kernel) (by decide +kernel) ?_ ?_ (by decide +kernel)
        · show ∀ y ∈ (_ : List (Str × NameKind)), y.2 = NameKind.free → (defScope s__law_asked).names.lookup y.1 = some NameKind.cell
          decide +kernel
        · exact .cons rfl rfl (.nil)
      · refine pi_zip ?_ ?_ ?_
        · rfl
        · exact T.n_zip
        refine pk ?_ ?_
        · exact pv 3
        refine pk ?_ ?_
        · exact pv 7
        exact pa_nil
      · intro s0 H0 C0 fp0
        refine pg_tup ?_ ?_
        · rfl
        refine pgs_cons ?_ ?_
        · exact pg_name (i := 0) (by show (["_law_road", "_law_load", "_law_bottom"] : List Str).Nodup; decide +kernel) rfl (Or.inl rfl) (.inr rfl)
        refine pgs_cons ?_ ?_
        · exact pg_name (i := 1) (by show (["_law_road", "_law_load", "_law_bottom"] : List Str).Nodup; decide +kernel) rfl (Or.inl rfl) (.inr rfl)
        exact pgs_nil
      · intro s0 H0 C0 fp0
        exact pf_nil
      intro s0 H0 C0 fp0
      refine pe_op ?_ ?_ ?_
      · exact op_mulX
      · refine pe_op ?_ ?_ ?_
        · exact op_mulX
        · refine pe_ix ?_ ?_ ?_ ?_
          · exact ix_seq
          · exact pv 0
          · exact pe_int
          exact fun _ _ => rfl
        exact pv 2
      exact pv 1
    exact pa_nil
  refine pss_one ?_
  refine ps_ret ?_
  refine pe_cal (CX := CX0) (k := 2) ?_ ?_ ?_ ?_
  · exact C__law_equal
  · exact hr.mono (by decide)
  · exact pass0
  refine pk ?_ ?_
  · refine pe_cal (CX := CX0) (k := 6) ?_ ?_ ?_ ?_
    · exact C_told_number
    · exact hr.mono (by decide)
    · exact pass0
    refine pk ?_ ?_
    · exact pv 1
    refine pk ?_ ?_
    · exact pv 2
    exact pa_nil
  refine pk ?_ ?_
  · refine pe_op ?_ ?_ ?_
    · exact op_addA
    · exact pv 9
    exact pv 10
  refine pk ?_ ?_
  · refine pe_op ?_ ?_ ?_
    · exact op_mulX
    · refine pe_op ?_ ?_ ?_
      · exact op_mulX
      · refine pe_op ?_ ?_ ?_
        · exact op_mulX
        · exact pe_int
        exact pv 5
      exact pv 6
    exact pv 6
  exact pa_nil
/-! ### _law_held -/
abbrev s__law_held : Stmt := top 34
theorem sc__law_held : FnScope ["_law_found"] ["_law_found"] (defScope s__law_held) := ⟨rfl, rfl, rfl, by decide +kernel, rfl, by decide +kernel, by decide +kernel⟩
theorem ok__law_held (T : Txt K mg c aN aH aT)  {f : Addr} {fd : FuncData} (F : Fun K "_law_held" "_law_held" s__law_held f fd) : FnOk P w K mg base CX0 1 f fd ["_law_found"] (spHeld K) := by
  refine F.ok sc__law_held (fun vs H Q E h => ?len) (fun cdv A outer s H vs Q E hr h => ?_)
  case len =>
    obtain ⟨_, _, rfl, _⟩ := h
    rfl
  have nd := sc__law_held.nd
  refine ⟨t__law_held K, ?_, rd__law_held  h⟩
  refine pss_one ?_
  refine ps_ret ?_
  refine pe_lst ?_
  refine pk ?_ ?_
  · exact pv 0
  refine pk ?_ ?_
  · refine pe_callTy (T := "list") ?_ ?_ ?_ ?_ ?_
    · exact call_list_of
    · rfl
    · exact T.n_list
    · exact bt_list
    refine pk ?_ ?_
    · exact pv 0
    exact pa_nil
  exact pa_nil
/-! ### law -/
abbrev s_law : Stmt := top 35
theorem sc_law : FnScope ["_law_script", "_law_many_here", "_law_wishes_here", "_law_roads_here", "_law_rows_here", "_law_flows_here", "_law_low", "_law_bottom", "_law_told", "_law_net", "_law_share", "_law_kept", "_law_order", "_law_which", "_law_held_here", "_law_row", "_law_other", "_law_k"] ["_law_script"] (defScope s_law) := ⟨rfl, rfl, rfl, by decide +kernel, rfl, by decide +kernel, by decide +kernel⟩
theorem ok_law (T : Txt K mg c aN aH aT) (C__law_wishes : Cal P w K mg base CX0 3 "_law_wishes" (spWishes K)) (C__law_roads : Cal P w K mg base CX0 4 "_law_roads" (spRoads K)) (C__law_rows : Cal P w K mg base CX0 3 "_law_rows" (spRows K)) (C__law_flows : Cal P w K mg base CX0 1 "_law_flows" (spFlows K)) (C__law_amounts : Cal P w K mg base CX0 3 "_law_amounts" (spAmounts K)) (C__law_held : Cal P w K mg base CX0 1 "_law_held" (spHeld K)) (C__law_lowest : Cal P w K mg base CX0 2 "_law_lowest" (spLLow K)) (C__law_cell : Cal P w K mg base CX0 1 "_law_cell" (spCell K)) (C__law_mixed : Cal P w K mg base CX0 2 "_law_mixed" (spMixed K)) (C__law_asked : Cal P w K mg base CX0 7 "_law_asked" (spAsked K)) (C_load_list : Cal P w K mg base CX0 5 "load_list" (spLoads K)) (C_road_times : Cal P w K mg base CX0 6 "road_times" (spTimes K)) (C_dear_times : Cal P w K mg base CX0 6 "dear_times" (spDear K)) {f : Addr} {fd : FuncData} (F : Fun K "law" "law" s_law f fd) : FnOk P w K mg base CX0 8 f fd ["_law_script"] (spLaw K) := by
  refine F.ok sc_law (fun vs H Q E h => ?len) (fun cdv A outer s H vs Q E hr h => ?_)
  case len =>
    obtain ⟨_, _, rfl, _⟩ := h
    rfl
  have nd := sc_law.nd
  refine ⟨t_law K, ?_, rd_law  h⟩
  refine pss_cons ?_ ?_
  · refine ps_st (i := 1) ?_
    refine pe_op ?_ ?_ ?_
    · exact op_addA
    · exact pe_int
    refine pe_op ?_ ?_ ?_
    · exact op_mod
    · refine pe_cal (CX := CX0) (k := 1) ?_ ?_ ?_ ?_
      · exact C__law_cell
      · exact hr.mono (by decide)
      · exact pass0
      refine pk ?_ ?_
      · exact pv 0
      refine pk ?_ ?_
      · exact pe_int
      exact pa_nil
    exact pe_int
  refine pss_cons ?_ ?_
  · refine ps_st (i := 2) ?_
    refine pe_cal (CX := CX0) (k := 3) ?_ ?_ ?_ ?_
    · exact C__law_wishes
    · exact hr.mono (by decide)
    · exact pass0
    refine pk ?_ ?_
    · exact pv 0
    refine pk ?_ ?_
    · exact pv 1
    exact pa_nil
  refine pss_cons ?_ ?_
  · refine ps_st (i := 3) ?_
    refine pe_cal (CX := CX0) (k := 4) ?_ ?_ ?_ ?_
    · exact C__law_roads
    · exact hr.mono (by decide)
    · exact pass0
    refine pk ?_ ?_
    · exact pv 0
    refine pk ?_ ?_
    · exact pv 1
    refine pk ?_ ?_
    · exact pv 2
    exact pa_nil
  refine pss_cons ?_ ?_
  · refine ps_st (i := 4) ?_
    refine pe_cal (CX := CX0) (k := 3) ?_ ?_ ?_ ?_
    · exact C__law_rows
    · exact hr.mono (by decide)
    · exact pass0
    refine pk ?_ ?_
    · exact pv 3
    refine pk ?_ ?_
    · exact pv 2
    exact pa_nil
  refine pss_cons ?_ ?_
  · refine ps_st (i := 5) ?_
    refine pe_cal (CX := CX0) (k := 1) ?_ ?_ ?_ ?_
    · exact C__law_flows
    · exact hr.mono (by decide)
    · exact pass0
    refine pk ?_ ?_
    · exact pv 4
    refine pk ?_ ?_
    · refine pe_cal (CX := CX0) (k := 3) ?_ ?_ ?_ ?_
      · exact C__law_amounts
      · exact hr.mono (by decide)
      · exact pass0
      refine pk ?_ ?_
      · exact pv 0
      refine pk ?_ ?_
      · exact pv 4
      exact pa_nil
    refine pk ?_ ?_
    · refine pe_callB (id := "len") ?_ ?_ ?_ ?_ ?_
      · exact call_len
      · rfl
      · exact T.n_len
      · exact bt_len
      refine pk ?_ ?_
      · exact pv 2
      exact pa_nil
    refine pk ?_ ?_
    · refine pe_callB (id := "len") ?_ ?_ ?_ ?_ ?_
      · exact call_len
      · rfl
      · exact T.n_len
      · exact bt_len
      refine pk ?_ ?_
      · exact pv 3
      exact pa_nil
    exact pa_nil
  refine pss_cons ?_ ?_
  · refine ps_st (i := 6) ?_
    refine pe_ix ?_ ?_ ?_ ?_
    · exact ix_seq
    · refine pe_lst ?_
      refine pk ?_ ?_
      · exact pe_int
      refine pk ?_ ?_
      · exact pe_int
      refine pk ?_ ?_
      · exact pe_int
      refine pk ?_ ?_
      · exact pe_int
      exact pa_nil
    · refine pe_op ?_ ?_ ?_
      · exact op_mod
      · refine pe_cal (CX := CX0) (k := 2) ?_ ?_ ?_ ?_
        · exact C__law_mixed
        · exact hr.mono (by decide)
        · exact pass0
        refine pk ?_ ?_
        · exact pv 0
        refine pk ?_ ?_
        · exact pe_int
        exact pa_nil
      exact pe_int
    exact fun _ _ => rfl
  refine pss_cons ?_ ?_
  · refine ps_st (i := 7) ?_
    refine pe_op ?_ ?_ ?_
    · exact op_addA
    · exact pe_int
    refine pe_op ?_ ?_ ?_
    · exact op_mod
    · refine pe_op ?_ ?_ ?_
      · exact op_fdivB
      · refine pe_cal (CX := CX0) (k := 2) ?_ ?_ ?_ ?_
        · exact C__law_mixed
        · exact hr.mono (by decide)
        · exact pass0
        refine pk ?_ ?_
        · exact pv 0
        refine pk ?_ ?_
        · exact pe_int
        exact pa_nil
      exact pe_int
    exact pe_int
  refine pss_cons ?_ ?_
  · refine ps_comp (i := 8) (own := ["_law_road"]) (capt := ["_law_low"]) (ix := [6]) ?_ ?_ ?_ ?_ ?_ ?_
    · rfl
    · refine CompScope.of rfl (by decide +kernel) (by decide +kernel) ?_ ?_ (by decide +kernel)
      · show ∀ y ∈ (_ : List (Str × NameKind)), y.2 = NameKind.free → (defScope s_law).names.lookup y.1 = some NameKind.cell
        decide +kernel
      · exact .cons rfl rfl (.nil)
    · refine pi_list ?_
      exact pv 3
    · intro s0 H0 C0 fp0
      exact pg_name (i := 0) (by show (["_law_road", "_law_low"] : List Str).Nodup; decide +kernel) rfl (Or.inl rfl) (.inr rfl)
    · intro s0 H0 C0 fp0
      exact pf_nil
    intro s0 H0 C0 fp0
    refine pe_op ?_ ?_ ?_
    · exact op_addA
    · refine pe_slice ?_ ?_ ?_ ?_
      · exact sl_tup
      · exact pv 0
      · exact po_none
      · refine po_some ?_
        exact pe_int
    refine pe_tup ?_
    refine pk ?_ ?_
    · refine pe_cal (CX := CX0) (k := 2) ?_ ?_ ?_ ?_
      · exact C__law_lowest
      · exact hr.mono (by decide)
      · exact pass0
      refine pk ?_ ?_
      · refine pe_ix ?_ ?_ ?_ ?_
        · exact ix_seq
        · exact pv 0
        · exact pe_int
        exact fun _ _ => rfl
      refine pk ?_ ?_
      · exact pv 1
      exact pa_nil
    refine pk ?_ ?_
    · refine pe_cal (CX := CX0) (k := 2) ?_ ?_ ?_ ?_
      · exact C__law_lowest
      · exact hr.mono (by decide)
      · exact pass0
      refine pk ?_ ?_
      · refine pe_ix ?_ ?_ ?_ ?_
        · exact ix_seq
        · exact pv 0
        · exact pe_int
        exact fun _ _ => rfl
      refine pk ?_ ?_
      · exact pv 1
      exact pa_nil
    refine pk ?_ ?_
    · refine pe_ix ?_ ?_ ?_ ?_
      · exact ix_seq
      · exact pv 0
      · exact pe_int
      exact fun _ _ => rfl
    exact pa_nil
  refine pss_cons ?_ ?_
  · refine ps_st (i := 9) ?_
    refine pe_tup ?_
    refine pk ?_ ?_
    · exact pv 1
    refine pk ?_ ?_
    · refine pe_callTy (T := "list") ?_ ?_ ?_ ?_ ?_
      · exact call_list_of
      · rfl
      · exact T.n_list
      · exact bt_list
      refine pk ?_ ?_
      · exact pv 8
      exact pa_nil
    exact pa_nil
  refine pss_cons ?_ ?_
  · refine ps_comp (i := 10) (own := ["_law_flow"]) (capt := ["_law_bottom"]) (ix := [7]) ?_ ?_ ?_ ?_ ?_ ?_
    · rfl
    · refine CompScope.of rfl (by decide +kernel) (by decide +kernel) ?_ ?_ (by decide +kernel)
      · show ∀ y ∈ (_ : List (Str × NameKind)), y.2 = NameKind.free → (defScope s_law).names.lookup y.1 = some NameKind.cell
        decide +kernel
      · exact .cons rfl rfl (.nil)
    · refine pi_list ?_
      exact pv 5
    · intro s0 H0 C0 fp0
      exact pg_name (i := 0) (by show (["_law_flow", "_law_bottom"] : List Str).Nodup; decide +kernel) rfl (Or.inl rfl) (.inr rfl)
    · intro s0 H0 C0 fp0
      exact pf_nil
    intro s0 H0 C0 fp0
    refine pe_comp (own := ["_law_amount"]) (capt := ["_law_bottom"]) (ix := [1]) ?_ ?_ ?_ ?_ ?_ ?_
    · rfl
    · refine CompScope.of rfl (by decide +kernel) (by decide +kernel) ?_ ?_ (by decide +kernel)
      · show ∀ y ∈ (_ : List (Str × NameKind)), y.2 = NameKind.free → (relN _ (defScope s_law)).lookup y.1 = some NameKind.cell
        decide +kernel
      · exact .cons rfl rfl (.nil)
    · refine pi_list ?_
      exact pv 0
    · intro s0 H0 C0 fp0
      exact pg_name (i := 0) (by show (["_law_amount", "_law_bottom"] : List Str).Nodup; decide +kernel) rfl (Or.inl rfl) (.inr rfl)
    · intro s0 H0 C0 fp0
      exact pf_nil
    intro s0 H0 C0 fp0
    refine pe_cal (CX := CX0) (k := 2) ?_ ?_ ?_ ?_
    · exact C__law_lowest
    · exact hr.mono (by decide)
    · exact pass0
    refine pk ?_ ?_
    · exact pv 0
    refine pk ?_ ?_
    · exact pv 1
    exact pa_nil
  refine pss_cons ?_ ?_
  · refine ps_comp (i := 11) (own := ["_law_flow"]) (capt := []) (ix := []) ?_ ?_ ?_ ?_ ?_ ?_
    · rfl
    · refine CompScope.of rfl (by decide +kernel) (by decide +kernel) ?_ ?_ (by decide +kernel)
      · show ∀ y ∈ (_ : List (Str × NameKind)), y.2 = NameKind.free → (defScope s_law).names.lookup y.1 = some NameKind.cell
        decide +kernel
      · exact .nil
    · refine pi_list ?_
      exact pv 10
    · intro s0 H0 C0 fp0
      exact pg_name (i := 0) (by show (["_law_flow"] : List Str).Nodup; decide +kernel) rfl (Or.inl rfl) (.inr rfl)
    · intro s0 H0 C0 fp0
      exact pf_nil
    intro s0 H0 C0 fp0
    refine pe_callTy (T := "list") ?_ ?_ ?_ ?_ ?_
    · exact call_list_of
    · rfl
    · exact T.n_list
    · exact bt_list
    refine pk ?_ ?_
    · exact pv 0
    exact pa_nil
  refine pss_cons ?_ ?_
  · refine ps_comp (i := 12) (own := ["_law_k"]) (capt := ["_law_script"]) (ix := [0]) ?_ ?_ ?_ ?_ ?_ ?_
    · rfl
    · refine CompScope.of rfl (by decide +kernel) (by decide +kernel) ?_ ?_ (by decide +kernel)
      · show ∀ y ∈ (_ : List (Str × NameKind)), y.2 = NameKind.free → (defScope s_law).names.lookup y.1 = some NameKind.cell
        decide +kernel
      · exact .cons rfl rfl (.nil)
    · refine pi_range1 ?_ ?_ ?_
      · rfl
      · exact T.n_range
      refine pk ?_ ?_
      · exact pe_int
      exact pa_nil
    · intro s0 H0 C0 fp0
      exact pg_name (i := 0) (by show (["_law_k", "_law_script"] : List Str).Nodup; decide +kernel) rfl (Or.inl rfl) (.inr rfl)
    · intro s0 H0 C0 fp0
      exact pf_nil
    intro s0 H0 C0 fp0
    refine pe_op ?_ ?_ ?_
    · exact op_mod
    · refine pe_op ?_ ?_ ?_
      · exact op_addA
      · refine pe_op ?_ ?_ ?_
        · exact op_fdivB
        · refine pe_cal (CX := CX0) (k := 2) ?_ ?_ ?_ ?_
          · exact C__law_mixed
          · exact hr.mono (by decide)
          · exact pass0
          refine pk ?_ ?_
          · exact pv 1
          refine pk ?_ ?_
          · exact pe_int
          exact pa_nil
        exact pe_int
      refine pe_op ?_ ?_ ?_
      · exact op_mulX
      · exact pe_int
      exact pv 0
    exact pe_int
  refine pss_cons ?_ ?_
  · refine ps_for ?_ ?_ ?_ ?_ ?_
    · exact PassesOwn.never
    · rfl
    · refine pi_list ?_
      exact pv 12
    · exact pg_nm 13
    refine pss_one ?_
    refine ps_if ?_ ?_ ?_
    · refine pt_not ?_
      refine pt_val ?_
      refine pe_cal (CX := CX0) (k := 7) ?_ ?_ ?_ ?_
      · exact C__law_asked
      · exact hr.mono (by decide)
      · exact pass0
      refine pk ?_ ?_
      · exact pv 13
      refine pk ?_ ?_
      · exact pv 9
      refine pk ?_ ?_
      · exact pv 10
      refine pk ?_ ?_
      · exact pv 3
      refine pk ?_ ?_
      · exact pv 5
      refine pk ?_ ?_
      · exact pv 6
      refine pk ?_ ?_
      · exact pv 7
      exact pa_nil
    · refine pss_one ?_
      refine ps_ret ?_
      exact pe_bl
    exact pss_nil
  refine pss_cons ?_ ?_
  · refine ps_if ?_ ?_ ?_
    · refine PW.pt ?_
      refine pw_or ?_ ?_
      · refine pt_cmpR ?_ ?_ ?_ ?_
        · exact op_neA hr.units
        · exact pv 10
        · exact pv 11
        exact nomark _
      refine pw_or1 ?_
      refine pt_cmpR ?_ ?_ ?_ ?_
      · exact op_neA hr.units
      · exact pv 9
      · refine pe_tup ?_
        refine pk ?_ ?_
        · exact pv 1
        refine pk ?_ ?_
        · exact pv 8
        exact pa_nil
      exact nomark _
    · refine pss_one ?_
      refine ps_ret ?_
      exact pe_bl
    exact pss_nil
  refine pss_cons ?_ ?_
  · refine ps_st (i := 14) ?_
    refine pe_lst ?_
    refine pk ?_ ?_
    · refine pe_cal (CX := CX0) (k := 1) ?_ ?_ ?_ ?_
      · exact C__law_held
      · exact hr.mono (by decide)
      · exact pass0
      refine pk ?_ ?_
      · refine pe_cal (CX := CX0) (k := 5) ?_ ?_ ?_ ?_
        · exact C_load_list
        · exact hr.mono (by decide)
        · exact pass0
        refine pk ?_ ?_
        · exact pv 9
        refine pk ?_ ?_
        · exact pv 10
        exact pa_nil
      exact pa_nil
    refine pk ?_ ?_
    · refine pe_cal (CX := CX0) (k := 1) ?_ ?_ ?_ ?_
      · exact C__law_held
      · exact hr.mono (by decide)
      · exact pass0
      refine pk ?_ ?_
      · refine pe_cal (CX := CX0) (k := 6) ?_ ?_ ?_ ?_
        · exact C_road_times
        · exact hr.mono (by decide)
        · exact pass0
        refine pk ?_ ?_
        · exact pv 9
        refine pk ?_ ?_
        · exact pv 10
        exact pa_nil
      exact pa_nil
    refine pk ?_ ?_
    · refine pe_cal (CX := CX0) (k := 1) ?_ ?_ ?_ ?_
      · exact C__law_held
      · exact hr.mono (by decide)
      · exact pass0
      refine pk ?_ ?_
      · refine pe_cal (CX := CX0) (k := 6) ?_ ?_ ?_ ?_
        · exact C_dear_times
        · exact hr.mono (by decide)
        · exact pass0
        refine pk ?_ ?_
        · exact pv 9
        refine pk ?_ ?_
        · exact pv 10
        exact pa_nil
      exact pa_nil
    exact pa_nil
  refine pss_cons ?_ ?_
  · refine ps_st (i := 15) ?_
    refine pe_ix ?_ ?_ ?_ ?_
    · exact ix_seq
    · exact pv 4
    · refine pe_op ?_ ?_ ?_
      · exact op_mod
      · refine pe_cal (CX := CX0) (k := 2) ?_ ?_ ?_ ?_
        · exact C__law_mixed
        · exact hr.mono (by decide)
        · exact pass0
        refine pk ?_ ?_
        · exact pv 0
        refine pk ?_ ?_
        · exact pe_int
        exact pa_nil
      refine pe_callB (id := "len") ?_ ?_ ?_ ?_ ?_
      · exact call_len
      · rfl
      · exact T.n_len
      · exact bt_len
      refine pk ?_ ?_
      · exact pv 4
      exact pa_nil
    exact fun _ _ => rfl
  refine pss_cons ?_ ?_
  · refine ps_comp (i := 16) (own := ["_law_flow"]) (capt := []) (ix := []) ?_ ?_ ?_ ?_ ?_ ?_
    · rfl
    · refine CompScope.of rfl (by decide +kernel) (by decide +kernel) ?_ ?_ (by decide +kernel)
      · show ∀ y ∈ (_ : List (Str × NameKind)), y.2 = NameKind.free → (defScope s_law).names.lookup y.1 = some NameKind.cell
        decide +kernel
      · exact .nil
    · refine pi_list ?_
      exact pv 5
    · intro s0 H0 C0 fp0
      exact pg_name (i := 0) (by show (["_law_flow"] : List Str).Nodup; decide +kernel) rfl (Or.inl rfl) (.inr rfl)
    · intro s0 H0 C0 fp0
      exact pf_nil
    intro s0 H0 C0 fp0
    refine pe_callTy (T := "list") ?_ ?_ ?_ ?_ ?_
    · exact call_list_of
    · rfl
    · exact T.n_list
    · exact bt_list
    refine pk ?_ ?_
    · exact pv 0
    exact pa_nil
  refine pss_cons ?_ ?_
  · refine ps_for ?_ ?_ ?_ ?_ ?_
    · exact PassesOwn.never
    · rfl
    · refine pi_list ?_
      refine pe_ix ?_ ?_ ?_ ?_
      · exact ix_seq
      · exact pv 15
      · exact pe_int
      exact fun _ _ => rfl
    · exact pg_nm 17
    refine pss_cons ?_ ?_
    · refine ps_agS ?_ ?_ ?_ ?_ ?_ ?_
      · refine pe_ix ?_ ?_ ?_ ?_
        · exact ix_seq
        · exact pv 16
        · refine pe_ix ?_ ?_ ?_ ?_
          · exact ix_seq
          · exact pv 15
          · exact pe_int
          exact fun _ _ => rfl
        exact fun _ _ => rfl
      · exact pv 17
      · exact get_list
      · exact pe_int
      · exact ip_add
      exact set_list
    refine pss_one ?_
    refine ps_asg ?_ ?_
    · refine pe_cal (CX := CX0) (k := 2) ?_ ?_ ?_ ?_
      · exact C__law_lowest
      · exact hr.mono (by decide)
      · exact pass0
      refine pk ?_ ?_
      · refine pe_ix ?_ ?_ ?_ ?_
        · exact ix_seq
        · refine pe_ix ?_ ?_ ?_ ?_
          · exact ix_seq
          · exact pv 16
          · refine pe_ix ?_ ?_ ?_ ?_
            · exact ix_seq
            · exact pv 15
            · exact pe_int
            exact fun _ _ => rfl
          exact fun _ _ => rfl
        · exact pv 17
        exact fun _ _ => rfl
      refine pk ?_ ?_
      · exact pv 7
      exact pa_nil
    refine pg_sub ?_ ?_ ?_
    · refine pe_ix ?_ ?_ ?_ ?_
      · exact ix_seq
      · exact pv 10
      · refine pe_ix ?_ ?_ ?_ ?_
        · exact ix_seq
        · exact pv 15
        · exact pe_int
        exact fun _ _ => rfl
      exact fun _ _ => rfl
    · exact pv 17
    exact set_list
  refine pss_cons ?_ ?_
  · refine ps_for ?_ ?_ ?_ ?_ ?_
    · exact PassesOwn.never
    · rfl
    · refine pi_list ?_
      refine pe_rev ?_ ?_
      · exact pv 12
      refine po_some ?_
      refine pe_un ?_ ?_
      · exact un_neg
      exact pe_int
    · exact pg_nm 13
    refine pss_one ?_
    refine ps_if ?_ ?_ ?_
    · refine pt_not ?_
      refine pt_val ?_
      refine pe_cal (CX := CX0) (k := 7) ?_ ?_ ?_ ?_
      · exact C__law_asked
      · exact hr.mono (by decide)
      · exact pass0
      refine pk ?_ ?_
      · exact pv 13
      refine pk ?_ ?_
      · exact pv 9
      refine pk ?_ ?_
      · exact pv 10
      refine pk ?_ ?_
      · exact pv 3
      refine pk ?_ ?_
      · exact pv 16
      refine pk ?_ ?_
      · exact pv 6
      refine pk ?_ ?_
      · exact pv 7
      exact pa_nil
    · refine pss_one ?_
      refine ps_ret ?_
      exact pe_bl
    exact pss_nil
  refine pss_cons ?_ ?_
  · refine ps_for ?_ ?_ ?_ ?_ ?_
    · exact PassesOwn.never
    · rfl
    · refine pi_list ?_
      exact pv 12
    · exact pg_nm 13
    refine pss_one ?_
    refine ps_if ?_ ?_ ?_
    · refine pt_not ?_
      refine pt_val ?_
      refine pe_cal (CX := CX0) (k := 7) ?_ ?_ ?_ ?_
      · exact C__law_asked
      · exact hr.mono (by decide)
      · exact pass0
      refine pk ?_ ?_
      · exact pv 13
      refine pk ?_ ?_
      · exact pv 9
      refine pk ?_ ?_
      · exact pv 11
      refine pk ?_ ?_
      · exact pv 3
      refine pk ?_ ?_
      · exact pv 5
      refine pk ?_ ?_
      · exact pv 6
      refine pk ?_ ?_
      · exact pv 7
      exact pa_nil
    · refine pss_one ?_
      refine ps_ret ?_
      exact pe_bl
    exact pss_nil
  refine pss_one ?_
  refine ps_ret ?_
  refine pe_cmpR ?_ ?_ ?_ ?_
  · exact op_eqA hr.units
  · refine pe_callB (id := "len") ?_ ?_ ?_ ?_ ?_
    · exact call_len
    · rfl
    · exact T.n_len
    · exact bt_len
    refine pk ?_ ?_
    · refine pe_comp (own := ["_law_one"]) (capt := []) (ix := []) ?_ ?_ ?_ ?_ ?_ ?_
      · rfl
      · refine CompScope.of rfl (by decide +kernel) (by decide +kernel) ?_ ?_ (by decide +kernel)
        · show ∀ y ∈ (_ : List (Str × NameKind)), y.2 = NameKind.free → (defScope s_law).names.lookup y.1 = some NameKind.cell
          decide +kernel
        · exact .nil
      · refine pi_list ?_
        exact pv 14
      · intro s0 H0 C0 fp0
        exact pg_name (i := 0) (by show (["_law_one"] : List Str).Nodup; decide +kernel) rfl (Or.inl rfl) (.inr rfl)
      · intro s0 H0 C0 fp0
        refine pf_one ?_
        refine pt_cmpR ?_ ?_ ?_ ?_
        · exact op_neA hr.units
        · refine pe_ix ?_ ?_ ?_ ?_
          · exact ix_seq
          · exact pv 0
          · exact pe_int
          exact fun _ _ => rfl
        · refine pe_ix ?_ ?_ ?_ ?_
          · exact ix_seq
          · exact pv 0
          · exact pe_int
          exact fun _ _ => rfl
        exact nomark _
      intro s0 H0 C0 fp0
      exact pv 0
    exact pa_nil
  · exact pe_int
  exact nomark _
end KC

end

section
set_option maxHeartbeats 4000000
namespace KC
open PySem L2 Fr
theorem all_mk {l : PySem.W.OpenLaw} {w : World} {K : PySem.W.Frag} {h : Heap} {mg : Str → Option Value} {fa a_common_divisor a_lowest a_sum_of a_product_of a_sum_of_all a_load_list a_time_with a_road_times a_dear_times a_sum_of_times a_told_number a__law_whole a__law_cell a__law_mixed a__law_divisor a__law_lowest a__law_ways a__law_rings a__law_many a__law_wishes a__law_begun a__law_roads a__law_rows a__law_amounts a__law_flows a__law_equal a__law_list a__law_asked a__law_held a_law  aN aH aT : Addr} (X : K.In h) (G : h.Ns mainGlobals mg) (hfa : mg "law" = some (.ref fa))
    {od0 an0 : Option Addr} {sl0 : Array (Option Value)} {oc0 kV0 dc0 pm0 cd0 ct0 : Value}
    (a0 : PySem.W.nsIn K mainGlobals "common_divisor" = some (some (.ref a_common_divisor))) (l0 : K.lookup a_common_divisor = some ⟨oc0, od0, .func (PySem.W.fnOf "common_divisor" "common_divisor" (defArgs s_common_divisor) (defBody s_common_divisor) (defScope s_common_divisor) .none kV0 dc0 pm0 an0 cd0 ct0), sl0⟩) (c0 : PySem.W.codeIn K cd0 "common_divisor" = true) (k0 : PySem.W.keepIn K (.ref a_common_divisor) = true)
    {od1 an1 : Option Addr} {sl1 : Array (Option Value)} {oc1 kV1 dc1 pm1 cd1 ct1 : Value}
    (a1 : PySem.W.nsIn K mainGlobals "lowest" = some (some (.ref a_lowest))) (l1 : K.lookup a_lowest = some ⟨oc1, od1, .func (PySem.W.fnOf "lowest" "lowest" (defArgs s_lowest) (defBody s_lowest) (defScope s_lowest) .none kV1 dc1 pm1 an1 cd1 ct1), sl1⟩) (c1 : PySem.W.codeIn K cd1 "lowest" = true) (k1 : PySem.W.keepIn K (.ref a_lowest) = true)
    {od2 an2 : Option Addr} {sl2 : Array (Option Value)} {oc2 kV2 dc2 pm2 cd2 ct2 : Value}
    (a2 : PySem.W.nsIn K mainGlobals "sum_of" = some (some (.ref a_sum_of))) (l2 : K.lookup a_sum_of = some ⟨oc2, od2, .func (PySem.W.fnOf "sum_of" "sum_of" (defArgs s_sum_of) (defBody s_sum_of) (defScope s_sum_of) .none kV2 dc2 pm2 an2 cd2 ct2), sl2⟩) (c2 : PySem.W.codeIn K cd2 "sum_of" = true) (k2 : PySem.W.keepIn K (.ref a_sum_of) = true)
    {od3 an3 : Option Addr} {sl3 : Array (Option Value)} {oc3 kV3 dc3 pm3 cd3 ct3 : Value}
    (a3 : PySem.W.nsIn K mainGlobals "product_of" = some (some (.ref a_product_of))) (l3 : K.lookup a_product_of = some ⟨oc3, od3, .func (PySem.W.fnOf "product_of" "product_of" (defArgs s_product_of) (defBody s_product_of) (defScope s_product_of) .none kV3 dc3 pm3 an3 cd3 ct3), sl3⟩) (c3 : PySem.W.codeIn K cd3 "product_of" = true) (k3 : PySem.W.keepIn K (.ref a_product_of) = true)
    {od4 an4 : Option Addr} {sl4 : Array (Option Value)} {oc4 kV4 dc4 pm4 cd4 ct4 : Value}
    (a4 : PySem.W.nsIn K mainGlobals "sum_of_all" = some (some (.ref a_sum_of_all))) (l4 : K.lookup a_sum_of_all = some ⟨oc4, od4, .func (PySem.W.fnOf "sum_of_all" "sum_of_all" (defArgs s_sum_of_all) (defBody s_sum_of_all) (defScope s_sum_of_all) .none kV4 dc4 pm4 an4 cd4 ct4), sl4⟩) (c4 : PySem.W.codeIn K cd4 "sum_of_all" = true) (k4 : PySem.W.keepIn K (.ref a_sum_of_all) = true)
    {od5 an5 : Option Addr} {sl5 : Array (Option Value)} {oc5 kV5 dc5 pm5 cd5 ct5 : Value}
    (a5 : PySem.W.nsIn K mainGlobals "load_list" = some (some (.ref a_load_list))) (l5 : K.lookup a_load_list = some ⟨oc5, od5, .func (PySem.W.fnOf "load_list" "load_list" (defArgs s_load_list) (defBody s_load_list) (defScope s_load_list) .none kV5 dc5 pm5 an5 cd5 ct5), sl5⟩) (c5 : PySem.W.codeIn K cd5 "load_list" = true) (k5 : PySem.W.keepIn K (.ref a_load_list) = true)
    {od6 an6 : Option Addr} {sl6 : Array (Option Value)} {oc6 kV6 dc6 pm6 cd6 ct6 : Value}
    (a6 : PySem.W.nsIn K mainGlobals "time_with" = some (some (.ref a_time_with))) (l6 : K.lookup a_time_with = some ⟨oc6, od6, .func (PySem.W.fnOf "time_with" "time_with" (defArgs s_time_with) (defBody s_time_with) (defScope s_time_with) .none kV6 dc6 pm6 an6 cd6 ct6), sl6⟩) (c6 : PySem.W.codeIn K cd6 "time_with" = true) (k6 : PySem.W.keepIn K (.ref a_time_with) = true)
    {od7 an7 : Option Addr} {sl7 : Array (Option Value)} {oc7 kV7 dc7 pm7 cd7 ct7 : Value}
    (a7 : PySem.W.nsIn K mainGlobals "road_times" = some (some (.ref a_road_times))) (l7 : K.lookup a_road_times = some ⟨oc7, od7, .func (PySem.W.fnOf "road_times" "road_times" (defArgs s_road_times) (defBody s_road_times) (defScope s_road_times) .none kV7 dc7 pm7 an7 cd7 ct7), sl7⟩) (c7 : PySem.W.codeIn K cd7 "road_times" = true) (k7 : PySem.W.keepIn K (.ref a_road_times) = true)
    {od8 an8 : Option Addr} {sl8 : Array (Option Value)} {oc8 kV8 dc8 pm8 cd8 ct8 : Value}
    (a8 : PySem.W.nsIn K mainGlobals "dear_times" = some (some (.ref a_dear_times))) (l8 : K.lookup a_dear_times = some ⟨oc8, od8, .func (PySem.W.fnOf "dear_times" "dear_times" (defArgs s_dear_times) (defBody s_dear_times) (defScope s_dear_times) .none kV8 dc8 pm8 an8 cd8 ct8), sl8⟩) (c8 : PySem.W.codeIn K cd8 "dear_times" = true) (k8 : PySem.W.keepIn K (.ref a_dear_times) = true)
    {od9 an9 : Option Addr} {sl9 : Array (Option Value)} {oc9 kV9 dc9 pm9 cd9 ct9 : Value}
    (a9 : PySem.W.nsIn K mainGlobals "sum_of_times" = some (some (.ref a_sum_of_times))) (l9 : K.lookup a_sum_of_times = some ⟨oc9, od9, .func (PySem.W.fnOf "sum_of_times" "sum_of_times" (defArgs s_sum_of_times) (defBody s_sum_of_times) (defScope s_sum_of_times) .none kV9 dc9 pm9 an9 cd9 ct9), sl9⟩) (c9 : PySem.W.codeIn K cd9 "sum_of_times" = true) (k9 : PySem.W.keepIn K (.ref a_sum_of_times) = true)
    {od10 an10 : Option Addr} {sl10 : Array (Option Value)} {oc10 kV10 dc10 pm10 cd10 ct10 : Value}
    (a10 : PySem.W.nsIn K mainGlobals "told_number" = some (some (.ref a_told_number))) (l10 : K.lookup a_told_number = some ⟨oc10, od10, .func (PySem.W.fnOf "told_number" "told_number" (defArgs s_told_number) (defBody s_told_number) (defScope s_told_number) .none kV10 dc10 pm10 an10 cd10 ct10), sl10⟩) (c10 : PySem.W.codeIn K cd10 "told_number" = true) (k10 : PySem.W.keepIn K (.ref a_told_number) = true)
    {od11 an11 : Option Addr} {sl11 : Array (Option Value)} {oc11 kV11 dc11 pm11 cd11 ct11 : Value}
    (a11 : PySem.W.nsIn K mainGlobals "_law_whole" = some (some (.ref a__law_whole))) (l11 : K.lookup a__law_whole = some ⟨oc11, od11, .func (PySem.W.fnOf "_law_whole" "_law_whole" (defArgs s__law_whole) (defBody s__law_whole) (defScope s__law_whole) .none kV11 dc11 pm11 an11 cd11 ct11), sl11⟩) (c11 : PySem.W.codeIn K cd11 "_law_whole" = true) (k11 : PySem.W.keepIn K (.ref a__law_whole) = true)
    {od12 an12 : Option Addr} {sl12 : Array (Option Value)} {oc12 kV12 dc12 pm12 cd12 ct12 : Value}
    (a12 : PySem.W.nsIn K mainGlobals "_law_cell" = some (some (.ref a__law_cell))) (l12 : K.lookup a__law_cell = some ⟨oc12, od12, .func (PySem.W.fnOf "_law_cell" "_law_cell" (defArgs s__law_cell) (defBody s__law_cell) (defScope s__law_cell) .none kV12 dc12 pm12 an12 cd12 ct12), sl12⟩) (c12 : PySem.W.codeIn K cd12 "_law_cell" = true) (k12 : PySem.W.keepIn K (.ref a__law_cell) = true)
    {od13 an13 : Option Addr} {sl13 : Array (Option Value)} {oc13 kV13 dc13 pm13 cd13 ct13 : Value}
    (a13 : PySem.W.nsIn K mainGlobals "_law_mixed" = some (some (.ref a__law_mixed))) (l13 : K.lookup a__law_mixed = some ⟨oc13, od13, .func (PySem.W.fnOf "_law_mixed" "_law_mixed" (defArgs s__law_mixed) (defBody s__law_mixed) (defScope s__law_mixed) .none kV13 dc13 pm13 an13 cd13 ct13), sl13⟩) (c13 : PySem.W.codeIn K cd13 "_law_mixed" = true) (k13 : PySem.W.keepIn K (.ref a__law_mixed) = true)
    {od14 an14 : Option Addr} {sl14 : Array (Option Value)} {oc14 kV14 dc14 pm14 cd14 ct14 : Value}
    (a14 : PySem.W.nsIn K mainGlobals "_law_divisor" = some (some (.ref a__law_divisor))) (l14 : K.lookup a__law_divisor = some ⟨oc14, od14, .func (PySem.W.fnOf "_law_divisor" "_law_divisor" (defArgs s__law_divisor) (defBody s__law_divisor) (defScope s__law_divisor) .none kV14 dc14 pm14 an14 cd14 ct14), sl14⟩) (c14 : PySem.W.codeIn K cd14 "_law_divisor" = true) (k14 : PySem.W.keepIn K (.ref a__law_divisor) = true)
    {od15 an15 : Option Addr} {sl15 : Array (Option Value)} {oc15 kV15 dc15 pm15 cd15 ct15 : Value}
    (a15 : PySem.W.nsIn K mainGlobals "_law_lowest" = some (some (.ref a__law_lowest))) (l15 : K.lookup a__law_lowest = some ⟨oc15, od15, .func (PySem.W.fnOf "_law_lowest" "_law_lowest" (defArgs s__law_lowest) (defBody s__law_lowest) (defScope s__law_lowest) .none kV15 dc15 pm15 an15 cd15 ct15), sl15⟩) (c15 : PySem.W.codeIn K cd15 "_law_lowest" = true) (k15 : PySem.W.keepIn K (.ref a__law_lowest) = true)
    {od16 an16 : Option Addr} {sl16 : Array (Option Value)} {oc16 kV16 dc16 pm16 cd16 ct16 : Value}
    (a16 : PySem.W.nsIn K mainGlobals "_law_ways" = some (some (.ref a__law_ways))) (l16 : K.lookup a__law_ways = some ⟨oc16, od16, .func (PySem.W.fnOf "_law_ways" "_law_ways" (defArgs s__law_ways) (defBody s__law_ways) (defScope s__law_ways) .none kV16 dc16 pm16 an16 cd16 ct16), sl16⟩) (c16 : PySem.W.codeIn K cd16 "_law_ways" = true) (k16 : PySem.W.keepIn K (.ref a__law_ways) = true)
    {od17 an17 : Option Addr} {sl17 : Array (Option Value)} {oc17 kV17 dc17 pm17 cd17 ct17 : Value}
    (a17 : PySem.W.nsIn K mainGlobals "_law_rings" = some (some (.ref a__law_rings))) (l17 : K.lookup a__law_rings = some ⟨oc17, od17, .func (PySem.W.fnOf "_law_rings" "_law_rings" (defArgs s__law_rings) (defBody s__law_rings) (defScope s__law_rings) .none kV17 dc17 pm17 an17 cd17 ct17), sl17⟩) (c17 : PySem.W.codeIn K cd17 "_law_rings" = true) (k17 : PySem.W.keepIn K (.ref a__law_rings) = true)
    {od18 an18 : Option Addr} {sl18 : Array (Option Value)} {oc18 kV18 dc18 pm18 cd18 ct18 : Value}
    (a18 : PySem.W.nsIn K mainGlobals "_law_many" = some (some (.ref a__law_many))) (l18 : K.lookup a__law_many = some ⟨oc18, od18, .func (PySem.W.fnOf "_law_many" "_law_many" (defArgs s__law_many) (defBody s__law_many) (defScope s__law_many) .none kV18 dc18 pm18 an18 cd18 ct18), sl18⟩) (c18 : PySem.W.codeIn K cd18 "_law_many" = true) (k18 : PySem.W.keepIn K (.ref a__law_many) = true)
    {od19 an19 : Option Addr} {sl19 : Array (Option Value)} {oc19 kV19 dc19 pm19 cd19 ct19 : Value}
    (a19 : PySem.W.nsIn K mainGlobals "_law_wishes" = some (some (.ref a__law_wishes))) (l19 : K.lookup a__law_wishes = some ⟨oc19, od19, .func (PySem.W.fnOf "_law_wishes" "_law_wishes" (defArgs s__law_wishes) (defBody s__law_wishes) (defScope s__law_wishes) .none kV19 dc19 pm19 an19 cd19 ct19), sl19⟩) (c19 : PySem.W.codeIn K cd19 "_law_wishes" = true) (k19 : PySem.W.keepIn K (.ref a__law_wishes) = true)
    {od20 an20 : Option Addr} {sl20 : Array (Option Value)} {oc20 kV20 dc20 pm20 cd20 ct20 : Value}
    (a20 : PySem.W.nsIn K mainGlobals "_law_begun" = some (some (.ref a__law_begun))) (l20 : K.lookup a__law_begun = some ⟨oc20, od20, .func (PySem.W.fnOf "_law_begun" "_law_begun" (defArgs s__law_begun) (defBody s__law_begun) (defScope s__law_begun) .none kV20 dc20 pm20 an20 cd20 ct20), sl20⟩) (c20 : PySem.W.codeIn K cd20 "_law_begun" = true) (k20 : PySem.W.keepIn K (.ref a__law_begun) = true)
    {od21 an21 : Option Addr} {sl21 : Array (Option Value)} {oc21 kV21 dc21 pm21 cd21 ct21 : Value}
    (a21 : PySem.W.nsIn K mainGlobals "_law_roads" = some (some (.ref a__law_roads))) (l21 : K.lookup a__law_roads = some ⟨oc21, od21, .func (PySem.W.fnOf "_law_roads" "_law_roads" (defArgs s__law_roads) (defBody s__law_roads) (defScope s__law_roads) .none kV21 dc21 pm21 an21 cd21 ct21), sl21⟩) (c21 : PySem.W.codeIn K cd21 "_law_roads" = true) (k21 : PySem.W.keepIn K (.ref a__law_roads) = true)
    {od22 an22 : Option Addr} {sl22 : Array (Option Value)} {oc22 kV22 dc22 pm22 cd22 ct22 : Value}
    (a22 : PySem.W.nsIn K mainGlobals "_law_rows" = some (some (.ref a__law_rows))) (l22 : K.lookup a__law_rows = some ⟨oc22, od22, .func (PySem.W.fnOf "_law_rows" "_law_rows" (defArgs s__law_rows) (defBody s__law_rows) (defScope s__law_rows) .none kV22 dc22 pm22 an22 cd22 ct22), sl22⟩) (c22 : PySem.W.codeIn K cd22 "_law_rows" = true) (k22 : PySem.W.keepIn K (.ref a__law_rows) = true)
    {od23 an23 : Option Addr} {sl23 : Array (Option Value)} {oc23 kV23 dc23 pm23 cd23 ct23 : Value}
    (a23 : PySem.W.nsIn K mainGlobals "_law_amounts" = some (some (.ref a__law_amounts))) (l23 : K.lookup a__law_amounts = some ⟨oc23, od23, .func (PySem.W.fnOf "_law_amounts" "_law_amounts" (defArgs s__law_amounts) (defBody s__law_amounts) (defScope s__law_amounts) .none kV23 dc23 pm23 an23 cd23 ct23), sl23⟩) (c23 : PySem.W.codeIn K cd23 "_law_amounts" = true) (k23 : PySem.W.keepIn K (.ref a__law_amounts) = true)
    {od24 an24 : Option Addr} {sl24 : Array (Option Value)} {oc24 kV24 dc24 pm24 cd24 ct24 : Value}
    (a24 : PySem.W.nsIn K mainGlobals "_law_flows" = some (some (.ref a__law_flows))) (l24 : K.lookup a__law_flows = some ⟨oc24, od24, .func (PySem.W.fnOf "_law_flows" "_law_flows" (defArgs s__law_flows) (defBody s__law_flows) (defScope s__law_flows) .none kV24 dc24 pm24 an24 cd24 ct24), sl24⟩) (c24 : PySem.W.codeIn K cd24 "_law_flows" = true) (k24 : PySem.W.keepIn K (.ref a__law_flows) = true)
    {od25 an25 : Option Addr} {sl25 : Array (Option Value)} {oc25 kV25 dc25 pm25 cd25 ct25 : Value}
    (a25 : PySem.W.nsIn K mainGlobals "_law_equal" = some (some (.ref a__law_equal))) (l25 : K.lookup a__law_equal = some ⟨oc25, od25, .func (PySem.W.fnOf "_law_equal" "_law_equal" (defArgs s__law_equal) (defBody s__law_equal) (defScope s__law_equal) .none kV25 dc25 pm25 an25 cd25 ct25), sl25⟩) (c25 : PySem.W.codeIn K cd25 "_law_equal" = true) (k25 : PySem.W.keepIn K (.ref a__law_equal) = true)
    {od26 an26 : Option Addr} {sl26 : Array (Option Value)} {oc26 kV26 dc26 pm26 cd26 ct26 : Value}
    (a26 : PySem.W.nsIn K mainGlobals "_law_list" = some (some (.ref a__law_list))) (l26 : K.lookup a__law_list = some ⟨oc26, od26, .func (PySem.W.fnOf "_law_list" "_law_list" (defArgs s__law_list) (defBody s__law_list) (defScope s__law_list) .none kV26 dc26 pm26 an26 cd26 ct26), sl26⟩) (c26 : PySem.W.codeIn K cd26 "_law_list" = true) (k26 : PySem.W.keepIn K (.ref a__law_list) = true)
    {od27 an27 : Option Addr} {sl27 : Array (Option Value)} {oc27 kV27 dc27 pm27 cd27 ct27 : Value}
    (a27 : PySem.W.nsIn K mainGlobals "_law_asked" = some (some (.ref a__law_asked))) (l27 : K.lookup a__law_asked = some ⟨oc27, od27, .func (PySem.W.fnOf "_law_asked" "_law_asked" (defArgs s__law_asked) (defBody s__law_asked) (defScope s__law_asked) .none kV27 dc27 pm27 an27 cd27 ct27), sl27⟩) (c27 : PySem.W.codeIn K cd27 "_law_asked" = true) (k27 : PySem.W.keepIn K (.ref a__law_asked) = true)
    {od28 an28 : Option Addr} {sl28 : Array (Option Value)} {oc28 kV28 dc28 pm28 cd28 ct28 : Value}
    (a28 : PySem.W.nsIn K mainGlobals "_law_held" = some (some (.ref a__law_held))) (l28 : K.lookup a__law_held = some ⟨oc28, od28, .func (PySem.W.fnOf "_law_held" "_law_held" (defArgs s__law_held) (defBody s__law_held) (defScope s__law_held) .none kV28 dc28 pm28 an28 cd28 ct28), sl28⟩) (c28 : PySem.W.codeIn K cd28 "_law_held" = true) (k28 : PySem.W.keepIn K (.ref a__law_held) = true)
    {od29 an29 : Option Addr} {sl29 : Array (Option Value)} {oc29 kV29 dc29 pm29 cd29 ct29 : Value}
    (a29 : PySem.W.nsIn K mainGlobals "law" = some (some (.ref a_law))) (l29 : K.lookup a_law = some ⟨oc29, od29, .func (PySem.W.fnOf "law" "law" (defArgs s_law) (defBody s_law) (defScope s_law) .none kV29 dc29 pm29 an29 cd29 ct29), sl29⟩) (c29 : PySem.W.codeIn K cd29 "law" = true) (k29 : PySem.W.keepIn K (.ref a_law) = true)
    (z_isinstance : PySem.W.nsIn K mainGlobals "isinstance" = some none)
    (z_int : PySem.W.nsIn K mainGlobals "int" = some none)
    (z_bool : PySem.W.nsIn K mainGlobals "bool" = some none)
    (z_tuple : PySem.W.nsIn K mainGlobals "tuple" = some none)
    (z_list : PySem.W.nsIn K mainGlobals "list" = some none)
    (z_len : PySem.W.nsIn K mainGlobals "len" = some none)
    (z_abs : PySem.W.nsIn K mainGlobals "abs" = some none)
    (z_range : PySem.W.nsIn K mainGlobals "range" = some none)
    (z_min : PySem.W.nsIn K mainGlobals "min" = some none)
    (z_sum : PySem.W.nsIn K mainGlobals "sum" = some none)
    (z_sorted : PySem.W.nsIn K mainGlobals "sorted" = some none)
    (z_enumerate : PySem.W.nsIn K mainGlobals "enumerate" = some none)
    (z_zip : PySem.W.nsIn K mainGlobals "zip" = some none)
    {od_NOUGHT : Option Addr} {sl_NOUGHT : Array (Option Value)} {n_NOUGHT : Nat} {tk_NOUGHT0 tk_NOUGHT1 : Tok} (q_NOUGHT : PySem.W.nsIn K mainGlobals "NOUGHT" = some (some (.ref aN))) (w_NOUGHT : K.lookup aN = some ⟨.type "tuple", od_NOUGHT, .seq #[.int 0 tk_NOUGHT0, .int 1 tk_NOUGHT1] n_NOUGHT, sl_NOUGHT⟩)
    {od_HALF : Option Addr} {sl_HALF : Array (Option Value)} {n_HALF : Nat} {tk_HALF0 tk_HALF1 : Tok} (q_HALF : PySem.W.nsIn K mainGlobals "HALF" = some (some (.ref aH))) (w_HALF : K.lookup aH = some ⟨.type "tuple", od_HALF, .seq #[.int 1 tk_HALF0, .int 2 tk_HALF1] n_HALF, sl_HALF⟩)
    {od_TWO : Option Addr} {sl_TWO : Array (Option Value)} {n_TWO : Nat} {tk_TWO0 tk_TWO1 : Tok} (q_TWO : PySem.W.nsIn K mainGlobals "TWO" = some (some (.ref aT))) (w_TWO : K.lookup aT = some ⟨.type "tuple", od_TWO, .seq #[.int 2 tk_TWO0, .int 1 tk_TWO1] n_TWO, sl_TWO⟩) :
    ∃ fd : FuncData, (∀ (s : Shared) (v : Value), BindsTo s fd ⟨[v], []⟩ [("_law_script", v)]) ∧ ∀ base : Heap, K.In base → base.Ns mainGlobals mg → FnOk l.prog w K mg base CX0 8 fa fd ["_law_script"] (spLaw K) := by
  have e := hfa.symm.trans (PySem.W.mg_of X G a29)
  cases e
  let c : Cs := ⟨fa, fa, fa, fa, fa, fa, fa, fa, fa, fa⟩
  have T : Txt K mg c aN aH aT :=
    ⟨PySem.W.mg_none_of X G z_isinstance, PySem.W.mg_none_of X G z_int, PySem.W.mg_none_of X G z_bool, PySem.W.mg_none_of X G z_tuple, PySem.W.mg_none_of X G z_list, PySem.W.mg_none_of X G z_len, PySem.W.mg_none_of X G z_abs, PySem.W.mg_none_of X G z_range, PySem.W.mg_none_of X G z_min, PySem.W.mg_none_of X G z_sum, PySem.W.mg_none_of X G z_sorted, PySem.W.mg_none_of X G z_enumerate, PySem.W.mg_none_of X G z_zip, PySem.W.mg_of X G q_NOUGHT, fun H => .tup (xs := [.int 0, .int 1]) (.inr ⟨_, _, _, w_NOUGHT, rfl, rfl, (by show 2 ≤ sizeLine; decide), .cons ⟨_, rfl⟩ (.cons ⟨_, rfl⟩ (.nil))⟩) (.cons (.int 0) (.cons (.int 1) (.nil))), PySem.W.mg_of X G q_HALF, fun H => .tup (xs := [.int 1, .int 2]) (.inr ⟨_, _, _, w_HALF, rfl, rfl, (by show 2 ≤ sizeLine; decide), .cons ⟨_, rfl⟩ (.cons ⟨_, rfl⟩ (.nil))⟩) (.cons (.int 1) (.cons (.int 2) (.nil))), PySem.W.mg_of X G q_TWO, fun H => .tup (xs := [.int 2, .int 1]) (.inr ⟨_, _, _, w_TWO, rfl, rfl, (by show 2 ≤ sizeLine; decide), .cons ⟨_, rfl⟩ (.cons ⟨_, rfl⟩ (.nil))⟩) (.cons (.int 2) (.cons (.int 1) (.nil)))⟩
  have F0 := fun_mk (st := s_common_divisor) l0 c0 k0
  have b0 := F0.binds (ps := ["one", "other"]) fun _ _ _ _ _ _ us hl => match us, hl with | [_, _], _ => rfl
  have F1 := fun_mk (st := s_lowest) l1 c1 k1
  have b1 := F1.binds (ps := ["top", "bottom"]) fun _ _ _ _ _ _ us hl => match us, hl with | [_, _], _ => rfl
  have F2 := fun_mk (st := s_sum_of) l2 c2 k2
  have b2 := F2.binds (ps := ["one", "other"]) fun _ _ _ _ _ _ us hl => match us, hl with | [_, _], _ => rfl
  have F3 := fun_mk (st := s_product_of) l3 c3 k3
  have b3 := F3.binds (ps := ["one", "other"]) fun _ _ _ _ _ _ us hl => match us, hl with | [_, _], _ => rfl
  have F4 := fun_mk (st := s_sum_of_all) l4 c4 k4
  have b4 := F4.binds (ps := ["amounts"]) fun _ _ _ _ _ _ us hl => match us, hl with | [_], _ => rfl
  have F5 := fun_mk (st := s_load_list) l5 c5 k5
  have b5 := F5.binds (ps := ["net", "share"]) fun _ _ _ _ _ _ us hl => match us, hl with | [_, _], _ => rfl
  have F6 := fun_mk (st := s_time_with) l6 c6 k6
  have b6 := F6.binds (ps := ["road", "load"]) fun _ _ _ _ _ _ us hl => match us, hl with | [_, _], _ => rfl
  have F7 := fun_mk (st := s_road_times) l7 c7 k7
  have b7 := F7.binds (ps := ["net", "share"]) fun _ _ _ _ _ _ us hl => match us, hl with | [_, _], _ => rfl
  have F8 := fun_mk (st := s_dear_times) l8 c8 k8
  have b8 := F8.binds (ps := ["net", "share"]) fun _ _ _ _ _ _ us hl => match us, hl with | [_, _], _ => rfl
  have F9 := fun_mk (st := s_sum_of_times) l9 c9 k9
  have b9 := F9.binds (ps := ["net", "share"]) fun _ _ _ _ _ _ us hl => match us, hl with | [_, _], _ => rfl
  have F10 := fun_mk (st := s_told_number) l10 c10 k10
  have b10 := F10.binds (ps := ["net", "share"]) fun _ _ _ _ _ _ us hl => match us, hl with | [_, _], _ => rfl
  have F11 := fun_mk (st := s__law_whole) l11 c11 k11
  have b11 := F11.binds (ps := ["_law_found"]) fun _ _ _ _ _ _ us hl => match us, hl with | [_], _ => rfl
  have F12 := fun_mk (st := s__law_cell) l12 c12 k12
  have b12 := F12.binds (ps := ["_law_script", "_law_k"]) fun _ _ _ _ _ _ us hl => match us, hl with | [_, _], _ => rfl
  have F13 := fun_mk (st := s__law_mixed) l13 c13 k13
  have b13 := F13.binds (ps := ["_law_script", "_law_k"]) fun _ _ _ _ _ _ us hl => match us, hl with | [_, _], _ => rfl
  have F14 := fun_mk (st := s__law_divisor) l14 c14 k14
  have b14 := F14.binds (ps := ["_law_one", "_law_other"]) fun _ _ _ _ _ _ us hl => match us, hl with | [_, _], _ => rfl
  have F15 := fun_mk (st := s__law_lowest) l15 c15 k15
  have b15 := F15.binds (ps := ["_law_top", "_law_bottom"]) fun _ _ _ _ _ _ us hl => match us, hl with | [_, _], _ => rfl
  have F16 := fun_mk (st := s__law_ways) l16 c16 k16
  have b16 := F16.binds (ps := ["_law_roads_here", "_law_start", "_law_end", "_law_lane", "_law_above"]) fun _ _ _ _ _ _ us hl => match us, hl with | [_, _, _, _, _], _ => rfl
  have F17 := fun_mk (st := s__law_rings) l17 c17 k17
  have b17 := F17.binds (ps := ["_law_roads_here", "_law_lane"]) fun _ _ _ _ _ _ us hl => match us, hl with | [_, _], _ => rfl
  have F18 := fun_mk (st := s__law_many) l18 c18 k18
  have b18 := F18.binds (ps := ["_law_roads_here", "_law_wishes_here"]) fun _ _ _ _ _ _ us hl => match us, hl with | [_, _], _ => rfl
  have F19 := fun_mk (st := s__law_wishes) l19 c19 k19
  have b19 := F19.binds (ps := ["_law_script", "_law_many_here"]) fun _ _ _ _ _ _ us hl => match us, hl with | [_, _], _ => rfl
  have F20 := fun_mk (st := s__law_begun) l20 c20 k20
  have b20 := F20.binds (ps := ["_law_script", "_law_many_here", "_law_wishes_here", "_law_straight"]) fun _ _ _ _ _ _ us hl => match us, hl with | [_, _, _, _], _ => rfl
  have F21 := fun_mk (st := s__law_roads) l21 c21 k21
  have b21 := F21.binds (ps := ["_law_script", "_law_many_here", "_law_wishes_here"]) fun _ _ _ _ _ _ us hl => match us, hl with | [_, _, _], _ => rfl
  have F22 := fun_mk (st := s__law_rows) l22 c22 k22
  have b22 := F22.binds (ps := ["_law_roads_here", "_law_wishes_here"]) fun _ _ _ _ _ _ us hl => match us, hl with | [_, _], _ => rfl
  have F23 := fun_mk (st := s__law_amounts) l23 c23 k23
  have b23 := F23.binds (ps := ["_law_script", "_law_rows_here"]) fun _ _ _ _ _ _ us hl => match us, hl with | [_, _], _ => rfl
  have F24 := fun_mk (st := s__law_flows) l24 c24 k24
  have b24 := F24.binds (ps := ["_law_rows_here", "_law_amounts_here", "_law_many_here", "_law_size"]) fun _ _ _ _ _ _ us hl => match us, hl with | [_, _, _, _], _ => rfl
  have F25 := fun_mk (st := s__law_equal) l25 c25 k25
  have b25 := F25.binds (ps := ["_law_found", "_law_top", "_law_bottom"]) fun _ _ _ _ _ _ us hl => match us, hl with | [_, _, _], _ => rfl
  have F26 := fun_mk (st := s__law_list) l26 c26 k26
  have b26 := F26.binds (ps := ["_law_found", "_law_tops", "_law_bottom"]) fun _ _ _ _ _ _ us hl => match us, hl with | [_, _, _], _ => rfl
  have F27 := fun_mk (st := s__law_asked) l27 c27 k27
  have b27 := F27.binds (ps := ["_law_which", "_law_net", "_law_share", "_law_roads_here", "_law_flows_here", "_law_low", "_law_bottom"]) fun _ _ _ _ _ _ us hl => match us, hl with | [_, _, _, _, _, _, _], _ => rfl
  have F28 := fun_mk (st := s__law_held) l28 c28 k28
  have b28 := F28.binds (ps := ["_law_found"]) fun _ _ _ _ _ _ us hl => match us, hl with | [_], _ => rfl
  have F29 := fun_mk (st := s_law) l29 c29 k29
  refine ⟨PySem.W.fnOf "law" "law" (defArgs s_law) (defBody s_law) (defScope s_law) .none kV29 dc29 pm29 an29 cd29 ct29, fun s v => .of_eq rfl, fun base _ _ => ?_⟩
  have C_common_divisor : Cal l.prog w K mg base CX0 1 "common_divisor" spGcd := ⟨_, _, _, ok_common_divisor T  F0, PySem.W.mg_of X G a0, k0, b0⟩
  have C_lowest : Cal l.prog w K mg base CX0 2 "lowest" (spLow K) := ⟨_, _, _, ok_lowest T C_common_divisor F1, PySem.W.mg_of X G a1, k1, b1⟩
  have C_sum_of : Cal l.prog w K mg base CX0 3 "sum_of" (spSum K) := ⟨_, _, _, ok_sum_of T C_lowest F2, PySem.W.mg_of X G a2, k2, b2⟩
  have C_product_of : Cal l.prog w K mg base CX0 3 "product_of" (spProd K) := ⟨_, _, _, ok_product_of T C_lowest F3, PySem.W.mg_of X G a3, k3, b3⟩
  have C_sum_of_all : Cal l.prog w K mg base CX0 4 "sum_of_all" (spSumAll K) := ⟨_, _, _, ok_sum_of_all T C_sum_of F4, PySem.W.mg_of X G a4, k4, b4⟩
  have C_load_list : Cal l.prog w K mg base CX0 5 "load_list" (spLoads K) := ⟨_, _, _, ok_load_list T C_sum_of_all F5, PySem.W.mg_of X G a5, k5, b5⟩
  have C_time_with : Cal l.prog w K mg base CX0 4 "time_with" (spTimeW K) := ⟨_, _, _, ok_time_with T C_sum_of C_product_of F6, PySem.W.mg_of X G a6, k6, b6⟩
  have C_road_times : Cal l.prog w K mg base CX0 6 "road_times" (spTimes K) := ⟨_, _, _, ok_road_times T C_time_with C_load_list F7, PySem.W.mg_of X G a7, k7, b7⟩
  have C_dear_times : Cal l.prog w K mg base CX0 6 "dear_times" (spDear K) := ⟨_, _, _, ok_dear_times T C_time_with C_product_of C_load_list F8, PySem.W.mg_of X G a8, k8, b8⟩
  have C_sum_of_times : Cal l.prog w K mg base CX0 6 "sum_of_times" (spTot K) := ⟨_, _, _, ok_sum_of_times T C_load_list C_sum_of_all C_product_of C_time_with F9, PySem.W.mg_of X G a9, k9, b9⟩
  have C_told_number : Cal l.prog w K mg base CX0 6 "told_number" (spToldN K) := ⟨_, _, _, ok_told_number T C_load_list C_sum_of_all C_product_of C_time_with F10, PySem.W.mg_of X G a10, k10, b10⟩
  have C__law_whole : Cal l.prog w K mg base CX0 1 "_law_whole" (spWhole K) := ⟨_, _, _, ok__law_whole T  F11, PySem.W.mg_of X G a11, k11, b11⟩
  have C__law_cell : Cal l.prog w K mg base CX0 1 "_law_cell" (spCell K) := ⟨_, _, _, ok__law_cell T  F12, PySem.W.mg_of X G a12, k12, b12⟩
  have C__law_mixed : Cal l.prog w K mg base CX0 2 "_law_mixed" (spMixed K) := ⟨_, _, _, ok__law_mixed T C__law_cell F13, PySem.W.mg_of X G a13, k13, b13⟩
  have C__law_divisor : Cal l.prog w K mg base CX0 1 "_law_divisor" spGcd := ⟨_, _, _, ok__law_divisor T  F14, PySem.W.mg_of X G a14, k14, b14⟩
  have C__law_lowest : Cal l.prog w K mg base CX0 2 "_law_lowest" (spLLow K) := ⟨_, _, _, ok__law_lowest T C__law_divisor F15, PySem.W.mg_of X G a15, k15, b15⟩
  have C__law_ways : Cal l.prog w K mg base CX0 1 "_law_ways" (spWays K) := ⟨_, _, _, ok__law_ways T  F16, PySem.W.mg_of X G a16, k16, b16⟩
  have C__law_rings : Cal l.prog w K mg base CX0 2 "_law_rings" (spRings K) := ⟨_, _, _, ok__law_rings T C__law_ways F17, PySem.W.mg_of X G a17, k17, b17⟩
  have C__law_many : Cal l.prog w K mg base CX0 2 "_law_many" (spMany K) := ⟨_, _, _, ok__law_many T C__law_ways F18, PySem.W.mg_of X G a18, k18, b18⟩
  have C__law_wishes : Cal l.prog w K mg base CX0 3 "_law_wishes" (spWishes K) := ⟨_, _, _, ok__law_wishes T C__law_mixed C__law_cell F19, PySem.W.mg_of X G a19, k19, b19⟩
  have C__law_begun : Cal l.prog w K mg base CX0 3 "_law_begun" (spBegun K) := ⟨_, _, _, ok__law_begun T C__law_mixed C__law_many F20, PySem.W.mg_of X G a20, k20, b20⟩
  have C__law_roads : Cal l.prog w K mg base CX0 4 "_law_roads" (spRoads K) := ⟨_, _, _, ok__law_roads T C__law_begun C__law_many C__law_mixed C__law_cell F21, PySem.W.mg_of X G a21, k21, b21⟩
  have C__law_rows : Cal l.prog w K mg base CX0 3 "_law_rows" (spRows K) := ⟨_, _, _, ok__law_rows T C__law_ways C__law_rings F22, PySem.W.mg_of X G a22, k22, b22⟩
  have C__law_amounts : Cal l.prog w K mg base CX0 3 "_law_amounts" (spAmounts K) := ⟨_, _, _, ok__law_amounts T C__law_mixed F23, PySem.W.mg_of X G a23, k23, b23⟩
  have C__law_flows : Cal l.prog w K mg base CX0 1 "_law_flows" (spFlows K) := ⟨_, _, _, ok__law_flows T  F24, PySem.W.mg_of X G a24, k24, b24⟩
  have C__law_equal : Cal l.prog w K mg base CX0 2 "_law_equal" (spEqual K) := ⟨_, _, _, ok__law_equal T C__law_whole C__law_divisor F25, PySem.W.mg_of X G a25, k25, b25⟩
  have C__law_list : Cal l.prog w K mg base CX0 3 "_law_list" (spListE K) := ⟨_, _, _, ok__law_list T C__law_equal F26, PySem.W.mg_of X G a26, k26, b26⟩
  have C__law_asked : Cal l.prog w K mg base CX0 7 "_law_asked" (spAsked K) := ⟨_, _, _, ok__law_asked T C__law_equal C__law_list C_told_number C_load_list C_road_times C_dear_times C_sum_of_times F27, PySem.W.mg_of X G a27, k27, b27⟩
  have C__law_held : Cal l.prog w K mg base CX0 1 "_law_held" (spHeld K) := ⟨_, _, _, ok__law_held T  F28, PySem.W.mg_of X G a28, k28, b28⟩
  exact ok_law T C__law_wishes C__law_roads C__law_rows C__law_flows C__law_amounts C__law_held C__law_lowest C__law_cell C__law_mixed C__law_asked C_load_list C_road_times C_dear_times F29
theorem walk {l : PySem.W.OpenLaw} {q : Program} {loose : List Str} {XP : (Str → Option Value) → Heap → Prop} {YP : World → Heap → Prop} {d : DefRec} {K : Params → PySem.W.Frag} (hn : l.most = some 63) (hdf : d.params.defaults = [])
    (hY : ∀ (w : World) (h : Heap), YP w h → (K w.params).In h)
    (F : ∀ (w : World) (mg : Str → Option Value) (fa : Addr) (h : Heap), (K w.params).In h → h.Ns mainGlobals mg → mg d.name = some (.ref fa) →
      ∃ fd : FuncData, (∀ (s : Shared) (u : Value), BindsTo s fd ⟨[u], []⟩ [("_law_script", u)]) ∧ ∀ base : Heap, (K w.params).In base → base.Ns mainGlobals mg → FnOk l.prog w (K w.params) mg base CX0 8 fa fd ["_law_script"] (spLaw (K w.params))) :
    PySem.W.WalkO q loose XP YP l.row.toRowW d [] (fun f vs => PySem.call f vs) :=
  L2.walk_of (n := 63) (k := 8) (x := "_law_script") (CX := fun _ => CX0) (sp := fun w => spLaw (K w.params)) hn (by decide) hdf ⟨rfl, by decide, by decide⟩ hY F (fun _ _ a ns hl _ hS => ⟨a, ns, rfl, hS, hl, fun _ => rfl⟩) fun _ _ _ _ _ z => z
end KC
open PySem PySem.W PyProof.Rows
set_option maxRecDepth 100000 in
set_option maxHeartbeats 0 in
theorem PySem.Challenge.cw_crowdroads_k12_loads_and_sums_holds : PySem.Challenge.rw_crowdroads_k12_loads_and_sums.Holds := by
  w_on; o_law; k_head; (case hw => w_witness2)
  k_fill
  refine KC.walk (l := PySem.Challenge.rw_crowdroads_k12_loads_and_sums) rfl rfl (fun w h Y => PySem.W.kIn_of Y) ?F
  case F =>
    intro w mg fa h KX G hmg
    refine' KC.all_mk KX G hmg ?a0 ?l0 ?c0 ?k0 ?a1 ?l1 ?c1 ?k1 ?a2 ?l2 ?c2 ?k2 ?a3 ?l3 ?c3 ?k3 ?a4 ?l4 ?c4 ?k4 ?a5 ?l5 ?c5 ?k5 ?a6 ?l6 ?c6 ?k6 ?a7 ?l7 ?c7 ?k7 ?a8 ?l8 ?c8 ?k8 ?a9 ?l9 ?c9 ?k9 ?a10 ?l10 ?c10 ?k10 ?a11 ?l11 ?c11 ?k11 ?a12 ?l12 ?c12 ?k12 ?a13 ?l13 ?c13 ?k13 ?a14 ?l14 ?c14 ?k14 ?a15 ?l15 ?c15 ?k15 ?a16 ?l16 ?c16 ?k16 ?a17 ?l17 ?c17 ?k17 ?a18 ?l18 ?c18 ?k18 ?a19 ?l19 ?c19 ?k19 ?a20 ?l20 ?c20 ?k20 ?a21 ?l21 ?c21 ?k21 ?a22 ?l22 ?c22 ?k22 ?a23 ?l23 ?c23 ?k23 ?a24 ?l24 ?c24 ?k24 ?a25 ?l25 ?c25 ?k25 ?a26 ?l26 ?c26 ?k26 ?a27 ?l27 ?c27 ?k27 ?a28 ?l28 ?c28 ?k28 ?a29 ?l29 ?c29 ?k29 ?z_isinstance ?z_int ?z_bool ?z_tuple ?z_list ?z_len ?z_abs ?z_range ?z_min ?z_sum ?z_sorted ?z_enumerate ?z_zip ?q_NOUGHT ?w_NOUGHT ?q_HALF ?w_HALF ?q_TWO ?w_TWO
    (case a0 => k_is)
    (case l0 => k_is)
    (case c0 => k_is)
    (case k0 => k_is)
    (case a1 => k_is)
    (case l1 => k_is)
    (case c1 => k_is)
    (case k1 => k_is)
    (case a2 => k_is)
    (case l2 => k_is)
    (case c2 => k_is)
    (case k2 => k_is)
    (case a3 => k_is)
    (case l3 => k_is)
    (case c3 => k_is)
    (case k3 => k_is)
    (case a4 => k_is)
    (case l4 => k_is)
    (case c4 => k_is)
    (case k4 => k_is)
    (case a5 => k_is)
    (case l5 => k_is)
    (case c5 => k_is)
    (case k5 => k_is)
    (case a6 => k_is)
    (case l6 => k_is)
    (case c6 => k_is)
    (case k6 => k_is)
    (case a7 => k_is)
    (case l7 => k_is)
    (case c7 => k_is)
    (case k7 => k_is)
    (case a8 => k_is)
    (case l8 => k_is)
    (case c8 => k_is)
    (case k8 => k_is)
    (case a9 => k_is)
    (case l9 => k_is)
    (case c9 => k_is)
    (case k9 => k_is)
    (case a10 => k_is)
    (case l10 => k_is)
    (case c10 => k_is)
    (case k10 => k_is)
    (case a11 => k_is)
    (case l11 => k_is)
    (case c11 => k_is)
    (case k11 => k_is)
    (case a12 => k_is)
    (case l12 => k_is)
    (case c12 => k_is)
    (case k12 => k_is)
    (case a13 => k_is)
    (case l13 => k_is)
    (case c13 => k_is)
    (case k13 => k_is)
    (case a14 => k_is)
    (case l14 => k_is)
    (case c14 => k_is)
    (case k14 => k_is)
    (case a15 => k_is)
    (case l15 => k_is)
    (case c15 => k_is)
    (case k15 => k_is)
    (case a16 => k_is)
    (case l16 => k_is)
    (case c16 => k_is)
    (case k16 => k_is)
    (case a17 => k_is)
    (case l17 => k_is)
    (case c17 => k_is)
    (case k17 => k_is)
    (case a18 => k_is)
    (case l18 => k_is)
    (case c18 => k_is)
    (case k18 => k_is)
    (case a19 => k_is)
    (case l19 => k_is)
    (case c19 => k_is)
    (case k19 => k_is)
    (case a20 => k_is)
    (case l20 => k_is)
    (case c20 => k_is)
    (case k20 => k_is)
    (case a21 => k_is)
    (case l21 => k_is)
    (case c21 => k_is)
    (case k21 => k_is)
    (case a22 => k_is)
    (case l22 => k_is)
    (case c22 => k_is)
    (case k22 => k_is)
    (case a23 => k_is)
    (case l23 => k_is)
    (case c23 => k_is)
    (case k23 => k_is)
    (case a24 => k_is)
    (case l24 => k_is)
    (case c24 => k_is)
    (case k24 => k_is)
    (case a25 => k_is)
    (case l25 => k_is)
    (case c25 => k_is)
    (case k25 => k_is)
    (case a26 => k_is)
    (case l26 => k_is)
    (case c26 => k_is)
    (case k26 => k_is)
    (case a27 => k_is)
    (case l27 => k_is)
    (case c27 => k_is)
    (case k27 => k_is)
    (case a28 => k_is)
    (case l28 => k_is)
    (case c28 => k_is)
    (case k28 => k_is)
    (case a29 => k_is)
    (case l29 => k_is)
    (case c29 => k_is)
    (case k29 => k_is)
    (case z_isinstance => k_is)
    (case z_int => k_is)
    (case z_bool => k_is)
    (case z_tuple => k_is)
    (case z_list => k_is)
    (case z_len => k_is)
    (case z_abs => k_is)
    (case z_range => k_is)
    (case z_min => k_is)
    (case z_sum => k_is)
    (case z_sorted => k_is)
    (case z_enumerate => k_is)
    (case z_zip => k_is)
    (case q_NOUGHT => k_is)
    (case w_NOUGHT => k_is)
    (case q_HALF => k_is)
    (case w_HALF => k_is)
    (case q_TWO => k_is)
    (case w_TWO => k_is)

end

