import PyProof.Rows.All
import Wide.All
import OpenK.AllK
import Wide.FinOn
import Lean
import PyProof.EqAt
import PyProof.EqKinds
import PyProof.TupleCall
import PySem.Challenge.RW_crowdroads_k41_moods
import PyProof.Rows.SumAny
import PyProof.Rows.SortWalk
import PyProof.ConsumeWalk
set_option Elab.async false
set_option linter.all false
set_option maxRecDepth 100000
/-! THE HAND LAYER, for ints, bools, texts, own classes, LISTS and tuples (index, slices, in, append, pop ..), calls, loops. Paste it whole ahead of your own text; what your proof does not reach may be deleted. -/
namespace L2
open PySem PySem.Spec PyProof.Rows

/-- a key: an int or a str -/
abbrev Key := Sum Int Str
def keyIs : Key → Value → Bool
  | .inl k, v => Value.isInt k v
  | .inr x, v => Value.isStrOf x v
def keyH (w : World) : Key → Int
  | .inl k => hashInt k
  | .inr x => hashStr w x
theorem keyIs_shape : ∀ {k : Key} {v : Value}, keyIs k v = true → (∃ i t, k = Sum.inl i ∧ v = Value.int i t) ∨ (∃ x t, k = Sum.inr x ∧ v = Value.str x t)
  | .inl i, v, h => by
    obtain ⟨t, e⟩ := Value.isInt_shape (k := i) (v := v) h
    exact .inl ⟨i, t, rfl, e⟩
  | .inr x, v, h => by
    obtain ⟨t, e⟩ := Value.isStrOf_shape (x := x) (v := v) h
    exact .inr ⟨x, t, rfl, e⟩
theorem key_ll (a b : Int) : decide ((Sum.inl a : Key) = Sum.inl b) = (a == b) := by
  by_cases e : a = b
  · subst e; simp
  · have h : ¬ (Sum.inl a : Key) = Sum.inl b := fun q => e (Sum.inl.inj q)
    rw [decide_eq_false h]
    exact (beq_eq_false_iff_ne.mpr e).symm
theorem key_rr (a b : Str) : decide ((Sum.inr a : Key) = Sum.inr b) = decide (a = b) := by
  by_cases e : a = b
  · subst e; simp
  · have h : ¬ (Sum.inr a : Key) = Sum.inr b := fun q => e (Sum.inr.inj q)
    rw [decide_eq_false h, decide_eq_false e]
theorem key_lr (a : Int) (b : Str) : decide ((Sum.inl a : Key) = Sum.inr b) = false := decide_eq_false (fun q => nomatch q)
theorem key_rl (a : Str) (b : Int) : decide ((Sum.inr a : Key) = Sum.inl b) = false := decide_eq_false (fun q => nomatch q)

def mixKind (prog : Program) (w : World) : PySem.KeyKind prog w Key where
  is := keyIs
  hash := keyH w
  inj := fun v a b ha hb => by
    rcases keyIs_shape ha with ⟨i, t, rfl, rfl⟩ | ⟨x, t, rfl, rfl⟩
    · rcases keyIs_shape hb with ⟨j, u, rfl, e⟩ | ⟨y, u, rfl, e⟩
      · injection e with e1 _; rw [e1]
      · exact nomatch e
    · rcases keyIs_shape hb with ⟨j, u, rfl, e⟩ | ⟨y, u, rfl, e⟩
      · exact nomatch e
      · injection e with e1 _; rw [e1]
  byValue := fun k v h => by
    rcases keyIs_shape h with ⟨i, t, rfl, rfl⟩ | ⟨x, t, rfl, rfl⟩ <;> rfl
  pyHash := fun hv h => by
    rcases keyIs_shape hv with ⟨i, t, rfl, rfl⟩ | ⟨x, t, rfl, rfl⟩
    · exact wpAny_pyHash_int h
    · exact wpAny_pyHash_str h
  eqBool := fun hu hv h => by
    rcases keyIs_shape hu with ⟨i, t, rfl, rfl⟩ | ⟨x, t, rfl, rfl⟩
    · rcases keyIs_shape hv with ⟨j, u, rfl, rfl⟩ | ⟨y, u, rfl, rfl⟩
      · rw [key_ll] at h; exact wpAny_eqBool_int h
      · rw [key_lr] at h; exact SeqAt.EqAt.int_str i t y u _ _ _ _ h
    · rcases keyIs_shape hv with ⟨j, u, rfl, rfl⟩ | ⟨y, u, rfl, rfl⟩
      · rw [key_rl] at h; exact SeqAt.EqAt.str_int x t j u _ _ _ _ h
      · rw [key_rr] at h; exact wpAny_eqBool_str h
  «strs» := fun k x t v h => by
    rcases keyIs_shape h with ⟨i, u, rfl, e⟩ | ⟨y, u, rfl, e⟩
    · exact nomatch e
    · injection e with e1 _
      subst e1
      cases v <;> rfl

end L2

namespace L2
open PySem PySem.Spec PyProof.Rows

/-- a value, without the heap -/
inductive V where
  | non | bl (b : Bool) | int (i : Int) | str (x : Str) | byt (b : Array UInt8) | flt (b : UInt64) | ref (a : Addr) | ty (n : String)
  deriving DecidableEq

def RelV : V → Value → Prop
  | .non, u => u = Value.none
  | .bl b, u => u = Value.bool b
  | .int i, u => ∃ t, u = Value.int i t
  | .str x, u => ∃ t, u = Value.str x t
  | .byt b, u => ∃ t, u = Value.bytes b t
  | .flt b, u => ∃ t, u = Value.float b t
  | .ref a, u => u = Value.ref a
  | .ty n, u => u = Value.type n

abbrev Vals : List V → List Value → Prop := Paired RelV
theorem Vals.length {xs : List V} {us : List Value} (r : Vals xs us) : xs.length = us.length := Paired.length r
theorem Vals.get : ∀ {xs : List V} {us : List Value} {i : Nat} {x : V}, Vals xs us → xs[i]? = some x → ∃ u, us[i]? = some u ∧ RelV x u
  | _, _, _, _, .nil, e => by simp at e
  | _, _, 0, _, .cons r _, e => by simp at e; subst e; exact ⟨_, rfl, r⟩
  | _, _, i + 1, x, .cons _ t, e => by
    obtain ⟨u, h1, h2⟩ := Vals.get (i := i) (x := x) t (by simpa using e)
    exact ⟨u, by simpa using h1, h2⟩
theorem Vals.set {x : V} {u : Value} (r : RelV x u) : ∀ {xs : List V} {us : List Value} (i : Nat), Vals xs us → Vals (xs.set i x) (us.set i u)
  | _, _, _, .nil => .nil
  | _, _, 0, .cons _ t => .cons r t
  | _, _, i + 1, .cons q t => .cons q (Vals.set r i t)
theorem Vals.append : ∀ {xs ys : List V} {us ws : List Value}, Vals xs us → Vals ys ws → Vals (xs ++ ys) (us ++ ws)
  | _, _, _, _, .nil, s => s
  | _, _, _, _, .cons r t, s => .cons r (Vals.append t s)
theorem Vals.take : ∀ {xs : List V} {us : List Value} (n : Nat), Vals xs us → Vals (xs.take n) (us.take n)
  | _, _, 0, _ => .nil
  | _, _, _ + 1, .nil => .nil
  | _, _, n + 1, .cons r t => .cons r (Vals.take n t)
theorem Vals.drop : ∀ {xs : List V} {us : List Value} (n : Nat), Vals xs us → Vals (xs.drop n) (us.drop n)
  | _, _, 0, r => r
  | _, _, _ + 1, .nil => .nil
  | _, _, n + 1, .cons _ t => Vals.drop n t

def RelO : Option V → Option Value → Prop
  | some v, some u => RelV v u
  | none, none => True
  | _, _ => False
def KV {κ : Type} : List (κ × V) → List (κ × Value) → Prop := Paired fun (p : κ × V) (q : κ × Value) => p.1 = q.1 ∧ RelV p.2 q.2

/-- a key of a dict (00_mix): an int or a text -/
def kV : Key → V
  | .inl i => .int i
  | .inr x => .str x

/-- what stands at a tracked address -/
inductive HO where
  /-- a list -/
  | lst (xs : List V)
  /-- a tuple (never changes) -/
  | tup (xs : List V)
  /-- a dict whose keys are ints and texts; one whose keys are tuples of ints and texts (the empty one is both) -/
  | dK (kvs : List (Key × V)) | dT (kvs : List (List Key × V))
  /-- a set of ints: its members, its size -/
  | set (S : Int → Bool) (n : Nat)
  /-- an instance of the class at C, its dict at dx, its attributes -/
  | ins (C dx : Addr) (fs : List (Str × V))
  /-- the dict of the instance at x -/
  | own (x : Addr)
  /-- the dict of an exception -/
  | xd (fs : List (Str × V))
  /-- a bound method, f of x -/
  | met (f x : Addr)
  /-- a range object lo, lo + 1, .. below hi -/
  | rng (lo hi : Int)
  /-- a thing that is known to the object (the script; a dict while a loop walks it): read, never written while it is so -/
  | frz (o : Obj) (u : HO)
  /-- a code object's table -/
  | tbl (ps : Array Value)
  /-- any other thing, by what is true of its one object (a def of one's own: SetO a S n := HO.ext fun h => ..) -/
  | ext (φ : Heap → Prop)

abbrev Hp := Addr → Option HO
def upd (H : Hp) (a : Addr) (o : HO) : Hp := fun b => if b = a then some o else H b
theorem upd_same {H : Hp} {a : Addr} {o : HO} : upd H a o a = some o := by unfold upd; rw [if_pos rfl]
theorem upd_ne {H : Hp} {a b : Addr} {o : HO} (h : b ≠ a) : upd H a o b = H b := by unfold upd; rw [if_neg h]
/-- two objects of different content stand apart -/
theorem ne_of {H : Hp} {a b : Addr} {o u : HO} (h : H a = some o) (h' : H b = some u) (d : o ≠ u) : a ≠ b := by
  intro e; subst e; rw [h] at h'; exact d (Option.some.inj h')
theorem ne_of_none {H : Hp} {a b : Addr} {o : HO} (h : H a = some o) (h' : H b = none) : a ≠ b := by
  intro e; subst e; rw [h] at h'; cases h'

section
variable (P : Program) (w : World)
def ObjOk (H : Hp) (h : Heap) (a : Addr) : HO → Prop
  | .lst xs => xs.length ≤ sizeLine ∧ ∃ (its : List Value) (n : Nat), Vals xs its ∧ h.get? a = some { cls := .type "list", data := .seq its.toArray n }
  | .tup xs => xs.length ≤ sizeLine ∧ ∃ its : List Value, Vals xs its ∧ IsTup h a its.toArray
  | .dK kvs => kvs.length ≤ sizeLine ∧ (a == sysModules) = false ∧ ∃ vs, KV kvs vs ∧ h.DictOf (mixKind P w) a vs
  | .dT kvs => kvs.length ≤ sizeLine ∧ (a == sysModules) = false ∧ ∃ xs : List (List Key × Addr × Value),
      Paired (fun (p : List Key × V) (q : List Key × Addr × Value) => p.1 = q.1 ∧ H q.2.1 = some (.tup (p.1.map kV)) ∧ RelV p.2 q.2.2) kvs xs ∧
      ∃ o es ep, h.get? a = some o ∧ o.ExactDict ∧ o.data = .dict es ep ∧ es.toList = xs.map (entryOfKey (tupleKind (mixKind P w))) ∧ (xs.map (·.1)).Nodup
  | .set S n => h.SetOf (intKind P w) a S n
  | .ins C dx fs => H dx = some (.own a) ∧ fs.length ≤ 1000 ∧ dx ≠ a ∧ h.get? a = some (PySem.W.instObj C dx) ∧
      ∃ mA, h.Ns1 dx mA ∧ (∀ f, RelO (fs.lookup f) (mA f)) ∧ PySem.Within mA (fs.map (·.1))
  | .own _ => ∃ o, h.get? a = some o
  | .xd fs => ∃ mA, h.Ns1 a mA ∧ ∀ f, RelO (fs.lookup f) (mA f)
  | .rng lo hi => ∃ t u v, h.get? a = some { cls := .type "range", data := .fields #[.int lo t, .int hi u, .int 1 v] }
  | .frz o u => h.get? a = some o ∧ ObjOk H h a u
  | .tbl ps => h.get? a = some { cls := .none, data := .fields ps }
  | .met f x => h.get? a = some (PySem.W.methodObj (.ref f) (.ref x))
  | .ext φ => φ h ∧ (∃ o, h.get? a = some o) ∧ ∀ h1 h2 : Heap, φ h1 → (∀ o, h1.get? a = some o → h2.get? a = some o) → φ h2
/-- the abstract heap is held -/
def HOk (H : Hp) (h : Heap) : Prop := ∀ a o, H a = some o → ObjOk P w H h a o
end

section
variable {P : Program} {w : World} {H H' : Hp} {h h' : Heap} {a : Addr} {o : HO}
theorem ObjOk.lt (x : ObjOk P w H h a o) : a < h.objs.size := by
  cases o with
  | lst xs => obtain ⟨_, _, _, _, e⟩ := x; exact Heap.lt_size e
  | tup xs => obtain ⟨_, _, _, p⟩ := x; exact p.lt
  | dK kvs => obtain ⟨_, _, _, _, o, _, _, e, _⟩ := x; exact Heap.lt_size e
  | dT kvs => obtain ⟨_, _, _, _, o, _, _, e, _⟩ := x; exact Heap.lt_size e
  | set S n => obtain ⟨o, _, _, _, e, _⟩ := x; exact Heap.lt_size e
  | ins C dx fs => obtain ⟨_, _, _, e, _⟩ := x; exact Heap.lt_size e
  | own y => obtain ⟨_, e⟩ := x; exact Heap.lt_size e
  | xd fs => obtain ⟨_, ⟨_, _, _, e, _⟩, _⟩ := x; exact Heap.lt_size e
  | rng lo hi => obtain ⟨_, _, _, e⟩ := x; exact Heap.lt_size e
  | frz ob u => obtain ⟨e, _⟩ := x; exact Heap.lt_size e
  | tbl ps => exact Heap.lt_size (show h.get? a = some _ from x)
  | met f y => exact Heap.lt_size (show h.get? a = some _ from x)
  | ext φ => obtain ⟨_, ⟨_, e⟩, _⟩ := x; exact Heap.lt_size e
theorem Paired.mapP {α β : Type} {F G : α → β → Prop} : ∀ {l₁ : List α} {l₂ : List β}, Paired F l₁ l₂ → (∀ a b, F a b → G a b) → Paired G l₁ l₂
  | _, _, .nil, _ => .nil
  | _, _, .cons r t, f => .cons (f _ _ r) (Paired.mapP t f)
/-- what an object's description leans on: its own object, its own dict, the tuples -/
theorem ObjOk.stay (x : ObjOk P w H h a o) (k : ∀ b u, (b = a ∨ H b = some (.own a)) → h.get? b = some u → h'.get? b = some u)
    (ho : ∀ b, H b = some (.own a) → H' b = some (.own a)) (ht : ∀ b xs, H b = some (.tup xs) → H' b = some (.tup xs)) : ObjOk P w H' h' a o := by
  induction o with
  | lst xs => obtain ⟨z, its, n, r, e⟩ := x; exact ⟨z, its, n, r, k _ _ (.inl rfl) e⟩
  | tup xs => obtain ⟨z, its, r, ob, e, c⟩ := x; exact ⟨z, its, r, ob, k _ _ (.inl rfl) e, c⟩
  | dK kvs => obtain ⟨z, y, vs, r, ob, es, ep, e, c⟩ := x; exact ⟨z, y, vs, r, ob, es, ep, k _ _ (.inl rfl) e, c⟩
  | dT kvs =>
    obtain ⟨z, y, xs, r, ob, es, ep, e, c⟩ := x
    exact ⟨z, y, xs, Paired.mapP r fun p q z => ⟨z.1, ht _ _ z.2.1, z.2.2⟩, ob, es, ep, k _ _ (.inl rfl) e, c⟩
  | set S n => obtain ⟨ob, es, ep, t, e, c⟩ := x; exact ⟨ob, es, ep, t, k _ _ (.inl rfl) e, c⟩
  | ins C dx fs =>
    obtain ⟨d, z, ne, e, mA, ⟨od, es, ep, e2, c⟩, r⟩ := x
    exact ⟨ho _ d, z, ne, k _ _ (.inl rfl) e, mA, ⟨od, es, ep, k _ _ (.inr d) e2, c⟩, r⟩
  | own y => obtain ⟨ob, e⟩ := x; exact ⟨ob, k _ _ (.inl rfl) e⟩
  | xd fs => obtain ⟨mA, ⟨od, es, ep, e, c⟩, r⟩ := x; exact ⟨mA, ⟨od, es, ep, k _ _ (.inl rfl) e, c⟩, r⟩
  | rng lo hi => obtain ⟨t, u, v, e⟩ := x; exact ⟨t, u, v, k _ _ (.inl rfl) e⟩
  | frz ob u ih => obtain ⟨e, q⟩ := x; exact ⟨k _ _ (.inl rfl) e, ih q⟩
  | tbl ps =>
    have e : h.get? a = some { cls := .none, data := .fields ps } := x
    show h'.get? a = some { cls := .none, data := .fields ps }
    exact k a _ (.inl rfl) e
  | met f y =>
    have e : h.get? a = some (PySem.W.methodObj (.ref f) (.ref y)) := x
    show h'.get? a = some (PySem.W.methodObj (.ref f) (.ref y))
    exact k a _ (.inl rfl) e
  | ext φ => obtain ⟨p, ⟨o, e⟩, st⟩ := x; exact ⟨st _ _ p fun o q => k _ _ (.inl rfl) q, ⟨o, k _ _ (.inl rfl) e⟩, st⟩
theorem HOk.lt (x : HOk P w H h) (e : H a = some o) : a < h.objs.size := (x a o e).lt
theorem HOk.fresh (x : HOk P w H h) (e : h.objs.size ≤ a) : H a = none := by
  cases q : H a with
  | none => rfl
  | some u => exact absurd (Nat.lt_of_lt_of_le (x.lt q) e) (Nat.lt_irrefl _)
/-- every object of the heap is kept -/
theorem HOk.kept (x : HOk P w H h) (k : ∀ b u, h.get? b = some u → h'.get? b = some u) : HOk P w H h' := fun a o e =>
  (x a o e).stay (fun b u _ q => k b u q) (fun _ q => q) fun _ _ q => q
/-- a new object is laid and tracked -/
theorem HOk.laid (x : HOk P w H h) (k : ∀ b u, h.get? b = some u → h'.get? b = some u) (hp : h.objs.size ≤ a) (new : ObjOk P w (upd H a o) h' a o) : HOk P w (upd H a o) h' := fun b u e => by
  have hn := x.fresh hp
  by_cases hb : b = a
  · subst hb; rw [upd_same] at e; cases e; exact new
  · rw [upd_ne hb] at e
    exact (x b u e).stay (fun c v _ q => k c v q) (fun c q => by rw [upd_ne (ne_of_none q hn)]; exact q) fun c xs q => by rw [upd_ne (ne_of_none q hn)]; exact q
end

/-- what may be read as u: it is u, or a known u -/
def Rd (H : Hp) (a : Addr) (u : HO) : Prop := H a = some u ∨ ∃ o, H a = some (.frz o u)
theorem Rd.ok {P : Program} {w : World} {H : Hp} {h : Heap} {a : Addr} {u : HO} (r : Rd H a u) (x : HOk P w H h) : ObjOk P w H h a u := by
  rcases r with r | ⟨o, r⟩
  · exact x a u r
  · obtain ⟨_, q⟩ := x a _ r
    exact q
/-- what may be written -/
def Mut : Option HO → Prop
  | some (.lst _) => True
  | some (.dK _) => True
  | some (.dT _) => True
  | some (.set _ _) => True
  | some (.ins _ _ _) => True
  | some (.ext _) => True
  | _ => False
section
variable {P : Program} {w : World} {H : Hp} {h h' : Heap} {x e : Addr} {o' : HO}
/-- the object at e is changed: x itself, or the dict of the instance x -/
theorem HOk.write (ok : HOk P w H h) (mu : Mut (H x)) (he : e = x ∨ H e = some (.own x)) (k : ∀ b u, b ≠ e → h.get? b = some u → h'.get? b = some u) (heo : ∃ u, h'.get? e = some u)
    (new : ObjOk P w (upd H x o') h' x o') : HOk P w (upd H x o') h' := fun b u q => by
  have nown : ∀ c y, H c = some (.own y) → c ≠ x := fun c y r z => by subst z; rw [r] at mu; exact mu
  have ntup : ∀ c xs, H c = some (.tup xs) → c ≠ x := fun c xs r z => by subst z; rw [r] at mu; exact mu
  by_cases hb : b = x
  · subst hb; rw [upd_same] at q; cases q; exact new
  · rw [upd_ne hb] at q
    by_cases hbe : b = e
    · have q' : H b = some (.own x) := by
        rcases he with z | z
        · exact absurd (hbe.trans z) hb
        · rw [hbe]; exact z
      rw [q] at q'; cases q'
      obtain ⟨v, hv⟩ := heo
      exact ⟨v, by rw [hbe]; exact hv⟩
    · refine (ok b u q).stay (fun c v hc r => k c v ?_ r) (fun c r => by rw [upd_ne (nown c b r)]; exact r) fun c xs r => by rw [upd_ne (ntup c xs r)]; exact r
      rcases hc with rfl | hc
      · exact hbe
      · rintro rfl
        rcases he with z | z
        · exact nown c b hc z
        · rw [hc] at z; cases z; exact hb rfl
end

/-! ### kept unless tracked; of the frames at fs (the callers') the slots may change (an exception that passes writes there); of the records at ex (iterators) nothing is said -/
structure Un (fs ex : List Addr) (H H' : Hp) (h h' : Heap) : Prop where
  keep : ∀ b o, h.get? b = some o → H b = none → b ∉ fs → b ∉ ex → h'.get? b = some o
  slot : ∀ b o, h.get? b = some o → H b = none → b ∈ fs → b ∉ ex → ∃ sl, h'.get? b = some { o with slots := sl }
  free : ∀ b o, h.get? b = some o → H b = none → b ∉ ex → H' b = none
  there : ∀ b o, h.get? b = some o → b ∉ ex → ∃ o', h'.get? b = some o'
  tups : ∀ b xs, H b = some (.tup xs) → H' b = some (.tup xs)
  frzs : ∀ b o u, H b = some (.frz o u) → H' b = some (.frz o u)
  tbls : ∀ b ps, H b = some (.tbl ps) → ∃ more, H' b = some (.tbl (ps ++ more))
section
variable {fs fs' ex ex' : List Addr} {H H1 H2 : Hp} {h h1 h2 h' : Heap} {a x e : Addr} {o : HO}
theorem Un.any (u : Un fs ex H H1 h h1) {b : Addr} {ob : Obj} (q : h.get? b = some ob) (n : H b = none) (hx : b ∉ ex) : ∃ sl, h1.get? b = some { ob with slots := sl } := by
  by_cases hb : b ∈ fs
  · exact u.slot b ob q n hb hx
  · exact ⟨ob.slots, u.keep b ob q n hb hx⟩
theorem Un.kept (k : ∀ b u, h.get? b = some u → h'.get? b = some u) : Un fs ex H H h h' :=
  ⟨fun b ob q _ _ _ => k b ob q, fun b ob q _ _ _ => ⟨ob.slots, k b ob q⟩, fun _ _ _ n _ => n, fun b ob q _ => ⟨ob, k b ob q⟩, fun _ _ q => q, fun _ _ _ q => q, fun _ ps q => ⟨#[], by rw [q]; simp⟩⟩
theorem Un.refl : Un fs ex H H h h := Un.kept fun _ _ q => q
theorem Un.laid (k : ∀ b u, h.get? b = some u → h'.get? b = some u) (hp : h.objs.size ≤ a) (hn : H a = none) : Un fs ex H (upd H a o) h h' where
  keep := fun b u q _ _ _ => k b u q
  slot := fun b u q _ _ _ => ⟨u.slots, k b u q⟩
  free := fun b u q n _ => by rw [upd_ne (Nat.ne_of_lt (Nat.lt_of_lt_of_le (Heap.lt_size q) hp))]; exact n
  there := fun b u q _ => ⟨u, k b u q⟩
  tups := fun b xs q => by rw [upd_ne (ne_of_none q hn)]; exact q
  frzs := fun b u xs q => by rw [upd_ne (ne_of_none q hn)]; exact q
  tbls := fun b ps q => ⟨#[], by rw [upd_ne (ne_of_none q hn), q]; simp⟩
theorem Un.write (mu : Mut (H x)) (he : e = x ∨ H e = some (.own x)) (k : ∀ b u, b ≠ e → h.get? b = some u → h'.get? b = some u) (heo : ∃ u, h'.get? e = some u) : Un fs ex H (upd H x o) h h' := by
  have hx : ∀ b, H b = none → b ≠ x := fun b n z => by subst z; rw [n] at mu; exact mu
  have hb : ∀ b, H b = none → b ≠ e := fun b n z => by
    subst z
    rcases he with r | r
    · exact hx b n r
    · rw [n] at r; cases r
  have hm : ∀ b u, H b = some u → ¬ Mut (some u) → b ≠ x := fun b u q nm z => by subst z; rw [q] at mu; exact nm mu
  refine ⟨fun b u q n _ _ => k b u (hb b n) q, fun b u q n _ _ => ⟨u.slots, k b u (hb b n) q⟩, fun b u q n _ => by rw [upd_ne (hx b n)]; exact n, fun b u q _ => ?_,
    fun b xs q => by rw [upd_ne (hm b _ q fun z => z)]; exact q, fun b u xs q => by rw [upd_ne (hm b _ q fun z => z)]; exact q, fun b ps q => ⟨#[], by rw [upd_ne (hm b _ q fun z => z), q]; simp⟩⟩
  by_cases hbe : b = e
  · subst hbe; exact heo
  · exact ⟨u, k b u hbe q⟩
end

/-! ### the heap without what is tracked -/
def trk (h : Heap) (H : Hp) : List Addr := (List.range h.objs.size).filter fun a => (H a).isSome
def hidT (h : Heap) (H : Hp) : Heap := PySem.W.hideAll h (trk h H)
theorem hidT_size (h : Heap) (H : Hp) : (hidT h H).objs.size = h.objs.size := PySem.W.hideAll_size _ _
theorem hidT_get {h : Heap} {H : Hp} {b : Addr} {o : Obj} (e : h.get? b = some o) (n : H b = none) : (hidT h H).get? b = some o :=
  PySem.W.hideAll_get _ e fun hm => by
    have q : (H b).isSome = true := (List.mem_filter.mp hm).2
    rw [n] at q; simp at q
theorem of_hidT {h : Heap} {H : Hp} {b : Addr} {o : Obj} (e : (hidT h H).get? b = some o) : h.get? b = some o ∧ H b = none := by
  have e' : h.get? b = some o := PySem.W.of_hideAll (trk h H) e
  refine ⟨e', ?_⟩
  cases q : H b with
  | none => rfl
  | some x =>
    have hm : b ∈ trk h H := List.mem_filter.mpr ⟨List.mem_range.mpr (Heap.lt_size e'), by simp [q]⟩
    have z : (hidT h H).get? b = none := PySem.W.hideAll_none (trk h H) hm
    rw [z] at e; cases e

/-! ### OpenK's ledger, filled with every new object but one -/
end L2

namespace L2
open PySem PySem.Spec PyProof.Rows

/-- the module's facts, over the base: the heap at the law's entry without what is tracked there -/
structure Mod (K : PySem.W.Frag) (mg : Str → Option Value) (base : Heap) : Prop where
  kin : K.In base
  glob : base.Ns mainGlobals mg
  blt : ∃ mb, base.Ns builtinsNs mb ∧ ∀ x : Str, x ≠ "__name__" → mb x = bootBuiltins x
  nolimit : base.NoLimit

/-- the context: a def's body (or a comprehension's block) running. base: fixed through the whole law; s₀, H₀: the entry; outer: the frames whose slots others may change (a def's callers); stack: all frames that run;
   ex: iterators that were made ahead of the entry and are walked here (a comprehension's); fn: the names whose cells were made at the entry (a def: all; a comprehension's block: its own); calm: not within an except suite; pn: pins that every state bears; xe: what is wanted of an exception that leaves the code -/
structure Cx where
  prog : Program
  w : World
  K : PySem.W.Frag
  mg : Str → Option Value
  base : Heap
  A : Around
  N : List Str
  s₀ : Shared
  H₀ : Hp
  env : Env
  outer : List Env
  stack : List Env
  ex : List Addr
  fn : Str → Bool
  calm : Bool
  pn : List (Addr × Obj)
  xe : Value → Shared → Prop
/-- the callers' frames -/
def frs (l : List Env) : List Addr := l.filterMap (·.frame)
abbrev Cx.fs (X : Cx) : List Addr := frs X.outer

def Vis (sc : Scope) (x : Str) : Prop := sc.names.lookup x = some .local ∨ sc.names.lookup x = some .cell ∨ sc.names.lookup x = some .free
def Loc (sc : Scope) (x : Str) : Prop := sc.names.lookup x = some .local ∨ sc.names.lookup x = some .cell
def Look (env : Env) (h : Heap) (m : Str → Option Value) (x : Str) (u : Value) : Prop :=
  (env.kindOf x = some .local ∧ m x = some u) ∨ ((env.kindOf x = some .cell ∨ env.kindOf x = some .free) ∧ ∃ c, env.cells.lookup x = some c ∧ h.IsCell c (some u))

structure Cx.Ok (X : Cx) : Prop where
  mod : Mod X.K X.mg X.base
  kind : X.env.scope.kind = .function
  glob : X.env.globals = mainGlobals
  blt : X.env.builtins = builtinsNs
  above : X.s₀.heap.objs.size ≤ X.env.locals
  inj : ∀ x y c, X.env.cells.lookup x = some c → X.env.cells.lookup y = some c → x = y
  has : ∀ x, (X.env.kindOf x = some .cell ∨ X.env.kindOf x = some .free) → ∃ c, X.env.cells.lookup x = some c
  cab : ∀ x c, X.fn x = true → X.env.cells.lookup x = some c → X.s₀.heap.objs.size ≤ c
  hd : X.calm = true → X.A.handled = none
  frames : X.A.frames = some X.stack
  stk : X.stack = X.outer ∨ (X.stack = X.env :: X.outer ∧ X.env.frame = some X.env.locals)
  exf : ∀ b ∈ X.ex, b ≠ X.env.locals ∧ ∀ x c, X.env.cells.lookup x = some c → c ≠ b
  bs : ∀ b o, X.base.get? b = some o → X.s₀.heap.get? b = some o ∧ X.H₀ b = none
  bsz : X.base.objs.size ≤ X.s₀.heap.objs.size
  noex : ∀ b o, X.base.get? b = some o → b ∉ X.ex
  exfs : ∀ b ∈ X.ex, b ∉ X.fs
  funs : X.s₀.heap.FunFrames X.base X.outer
  frf : ∀ b ∈ X.fs, X.H₀ b = none

structure Inv (X : Cx) (pins : List (Addr × Obj)) (σ : List (Option V)) (H : Hp) (s : Shared) : Prop where
  ok : X.Ok
  os : s.os = X.s₀.os
  bare : AllBare s.gens
  base : Un X.fs X.ex X.H₀ H X.s₀.heap s.heap
  loc : ∃ m, s.heap.Ns X.env.locals m ∧ ∀ (i : Nat) (x : Str) (v : V), X.N[i]? = some x → σ[i]? = some (some v) → Vis X.env.scope x → ∃ u, RelV v u ∧ Look X.env s.heap m x u
  cell : ∀ x c, X.env.cells.lookup x = some c → ∃ v, s.heap.IsCell c v
  free : H X.env.locals = none
  freeC : ∀ x c, X.env.cells.lookup x = some c → H c = none
  pin : ∀ p ∈ X.pn ++ pins, s.heap.get? p.1 = some p.2 ∧ H p.1 = none ∧ p.1 ≠ X.env.locals ∧ p.1 ∉ X.fs ∧ ∀ v, p.2.data ≠ .cell v
  hok : HOk X.prog X.w H s.heap
  len : σ.length = X.N.length

section
variable {X : Cx} {pins : List (Addr × Obj)} {σ : List (Option V)} {H H' : Hp} {s : Shared} {h' : Heap}

theorem Cx.Ok.nofr (ok : X.Ok) {b : Addr} {o : Obj} (e : X.base.get? b = some o) : b ∉ X.fs := fun hb => by
  have := (ok.funs.mem hb).1
  rw [e] at this; cases this
theorem Inv.bs (I : Inv X pins σ H s) : ∀ b o, X.base.get? b = some o → s.heap.get? b = some o ∧ H b = none := fun b o e =>
  ⟨I.base.keep b o (I.ok.bs b o e).1 (I.ok.bs b o e).2 (I.ok.nofr e) (I.ok.noex b o e), I.base.free b o (I.ok.bs b o e).1 (I.ok.bs b o e).2 (I.ok.noex b o e)⟩
theorem Inv.bk (I : Inv X pins σ H s) : ∀ b o, X.base.get? b = some o → s.heap.get? b = some o := fun b o e => (I.bs b o e).1
theorem Inv.mod (I : Inv X pins σ H s) : Mod X.K X.mg X.base := I.ok.mod
theorem Inv.kIn (I : Inv X pins σ H s) : X.K.In s.heap := I.ok.mod.kin.keeps I.bk
theorem Inv.lt (I : Inv X pins σ H s) : X.env.locals < s.heap.objs.size := let ⟨_, hn, _⟩ := I.loc; hn.lt
theorem Inv.sz (I : Inv X pins σ H s) : X.s₀.heap.objs.size ≤ s.heap.objs.size := Nat.le_trans I.ok.above (Nat.le_of_lt I.lt)
theorem Inv.nofs (I : Inv X pins σ H s) {a : Addr} (h : s.heap.objs.size ≤ a) : a ∉ X.fs := fun hb => by
  obtain ⟨_, o, ho, _⟩ := I.ok.funs.mem hb
  exact absurd (Nat.lt_of_lt_of_le (Heap.lt_size ho) (Nat.le_trans I.sz h)) (Nat.lt_irrefl _)
theorem Inv.cne (I : Inv X pins σ H s) : ∀ x c, X.env.cells.lookup x = some c → c ≠ X.env.locals := fun x c e z => by
  obtain ⟨v, o, ho, hd⟩ := I.cell x c e
  obtain ⟨m, ⟨o', es, ep, ho', hd', _⟩, _⟩ := I.loc
  rw [z, ho'] at ho; cases ho; rw [hd'] at hd; cases hd
theorem Inv.funs (I : Inv X pins σ H s) : s.heap.FunFrames X.base X.outer := by
  have all : ∀ (l : List Env), (∀ b ∈ frs l, b ∈ X.fs) → X.s₀.heap.FunFrames X.base l → s.heap.FunFrames X.base l := by
    intro l
    induction l with
    | nil => intro _ _; trivial
    | cons env r ih =>
      intro hs hl
      obtain ⟨hk, ⟨L, o, hf, hn, ho, hd⟩, hr⟩ := hl
      have hL : L ∈ X.fs := hs L (by unfold frs; rw [List.filterMap_cons, hf]; exact List.mem_cons_self)
      obtain ⟨sl, e⟩ := I.base.slot L o ho (I.ok.frf L hL) hL fun z => I.ok.exfs L z hL
      exact ⟨hk, ⟨L, _, hf, hn, e, hd⟩, ih (fun b hb => hs b (by unfold frs; rw [List.filterMap_cons, hf]; exact List.mem_cons_of_mem _ hb)) hr⟩
  exact all X.outer (fun _ hb => hb) I.ok.funs

/-- the frames that run, for a call -/
theorem Inv.stack (I : Inv X pins σ H s) : s.heap.FunFrames X.base X.stack := by
  rcases I.ok.stk with e | ⟨e, hf⟩
  · rw [e]; exact I.funs
  · rw [e]
    obtain ⟨m, hn, _⟩ := I.loc
    refine .cons (by rw [I.ok.kind]; decide) hf hn ?_ I.funs
    exact Heap.get?_none_of_le (Nat.le_trans I.ok.bsz I.ok.above)
theorem Inv.stkSub (I : Inv X pins σ H s) : ∀ b ∈ frs X.stack, b ∈ X.env.locals :: X.fs := fun b hb => by
  rcases I.ok.stk with e | ⟨e, hf⟩
  · rw [e] at hb; exact List.mem_cons_of_mem _ hb
  · rw [e] at hb
    unfold frs at hb
    rw [List.filterMap_cons, hf] at hb
    exact hb
theorem Inv.stkFree (I : Inv X pins σ H s) : ∀ b ∈ frs X.stack, H b = none := fun b hb => by
  rcases List.mem_cons.mp (I.stkSub b hb) with e | hb
  · rw [e]; exact I.free
  · obtain ⟨_, o, ho, _⟩ := I.ok.funs.mem hb
    exact I.base.free b o ho (I.ok.frf b hb) fun z => I.ok.exfs b z hb

/-- THE STEP: the untracked objects but the frame and the records at ch are kept (the callers' frames up to slots), the frame's map is kept, the new abstract heap is held -/
theorem Inv.step {g' : Array GenState} {t' : Nat} {d' : Drawn} {ch : List Addr} (I : Inv X pins σ H s)
    (hch : ∀ b ∈ ch, (b ∈ X.ex ∨ X.s₀.heap.objs.size ≤ b) ∧ b ≠ X.env.locals ∧ (∀ x c, X.env.cells.lookup x = some c → c ≠ b) ∧ ∀ p ∈ X.pn ++ pins, p.1 ≠ b)
    (keep : ∀ b o, b ≠ X.env.locals → b ∉ X.fs → b ∉ ch → s.heap.get? b = some o → H b = none → h'.get? b = some o)
    (slot : ∀ b o, b ≠ X.env.locals → b ∈ X.fs → b ∉ ch → s.heap.get? b = some o → H b = none → ∃ sl, h'.get? b = some { o with slots := sl }) (free : ∀ b o, b ∉ ch → s.heap.get? b = some o → H b = none → H' b = none)
    (there : ∀ b o, b ∉ ch → s.heap.get? b = some o → ∃ o', h'.get? b = some o')
    (tups : ∀ b xs, H b = some (.tup xs) → H' b = some (.tup xs)) (frzs : ∀ b o u, H b = some (.frz o u) → H' b = some (.frz o u)) (tbls : ∀ b ps, H b = some (.tbl ps) → ∃ more, H' b = some (.tbl (ps ++ more)))
    (ns : ∀ m, s.heap.Ns X.env.locals m → h'.Ns X.env.locals m) (hok : HOk X.prog X.w H' h') (hg : AllBare g') :
    Inv X pins σ H' { s with heap := h', gens := g', drawn := d', toks := t' } := by
  have neL : ∀ b o, X.s₀.heap.get? b = some o → b ≠ X.env.locals := fun b o e => Nat.ne_of_lt (Nat.lt_of_lt_of_le (Heap.lt_size e) I.ok.above)
  have neC : ∀ b o, X.s₀.heap.get? b = some o → b ∉ X.ex → b ∉ ch := fun b o e hx hb => by
    rcases (hch b hb).1 with z | z
    · exact hx z
    · exact absurd (Nat.lt_of_lt_of_le (Heap.lt_size e) z) (Nat.lt_irrefl _)
  have cellK : ∀ x c, X.env.cells.lookup x = some c → ∀ v, s.heap.IsCell c v → h'.IsCell c v := fun x c e v ⟨o, ho, hd⟩ => by
    have nch : c ∉ ch := fun z => (hch c z).2.2.1 x c e rfl
    by_cases hc : c ∈ X.fs
    · obtain ⟨sl, q⟩ := slot c o (I.cne x c e) hc nch ho (I.freeC x c e)
      exact ⟨_, q, hd⟩
    · exact ⟨o, keep c o (I.cne x c e) hc nch ho (I.freeC x c e), hd⟩
  refine ⟨I.ok, I.os, hg, ⟨fun b o e n hb hx => ?_, fun b o e n hb hx => ?_, fun b o e n hx => ?_, fun b o e hx => ?_, fun b xs e => tups b xs (I.base.tups b xs e), fun b o xs e => frzs b o xs (I.base.frzs b o xs e), fun b ps e => ?_⟩, ?_, fun x c e => ?_, ?_, fun x c e => ?_, fun p hp => ?_, hok, I.len⟩
  · exact keep b o (neL b o e) hb (neC b o e hx) (I.base.keep b o e n hb hx) (I.base.free b o e n hx)
  · obtain ⟨sl, e1⟩ := I.base.slot b o e n hb hx
    obtain ⟨sl', e2⟩ := slot b _ (neL b o e) hb (neC b o e hx) e1 (I.base.free b o e n hx)
    exact ⟨sl', e2⟩
  · obtain ⟨o', e1⟩ := I.base.there b o e hx
    exact free b o' (neC b o e hx) e1 (I.base.free b o e n hx)
  · obtain ⟨o', e1⟩ := I.base.there b o e hx
    exact there b o' (neC b o e hx) e1
  · obtain ⟨m1, e1⟩ := I.base.tbls b ps e
    obtain ⟨m2, e2⟩ := tbls b _ e1
    exact ⟨m1 ++ m2, by rw [e2, Array.append_assoc]⟩
  · obtain ⟨m, hn, hl⟩ := I.loc
    refine ⟨m, ns m hn, fun i x v e1 e2 e3 => ?_⟩
    obtain ⟨u, r, l⟩ := hl i x v e1 e2 e3
    refine ⟨u, r, ?_⟩
    rcases l with l | ⟨k, c, e, z⟩
    · exact .inl l
    · exact .inr ⟨k, c, e, cellK x c e _ z⟩
  · obtain ⟨v, z⟩ := I.cell x c e
    exact ⟨v, cellK x c e v z⟩
  · obtain ⟨m, ⟨o, _, _, ho, _⟩, _⟩ := I.loc
    exact free _ o (fun z => (hch _ z).2.1 rfl) ho I.free
  · obtain ⟨v, o, ho, hd⟩ := I.cell x c e
    exact free c o (fun z => (hch c z).2.2.1 x c e rfl) ho (I.freeC x c e)
  · obtain ⟨e, n, ne, nf, d⟩ := I.pin p hp
    have nch : p.1 ∉ ch := fun z => (hch p.1 z).2.2.2 p hp rfl
    exact ⟨keep p.1 p.2 ne nf nch e n, free p.1 p.2 nch e n, ne, nf, d⟩
/-- .. where the frame's own object is kept too -/
theorem Inv.un {t' : Nat} (I : Inv X pins σ H s) (u : Un X.fs [] H H' s.heap h') (hok : HOk X.prog X.w H' h') : Inv X pins σ H' { s with heap := h', toks := t' } := by
  obtain ⟨m, ⟨o, es, ep, ho, r⟩, _⟩ := id I.loc
  obtain ⟨sl, hL⟩ := u.any ho I.free (by simp)
  exact I.step (g' := s.gens) (d' := s.drawn) (ch := []) (fun _ z => nomatch z) (fun b o _ hb _ e n => u.keep b o e n hb (by simp)) (fun b o _ hb _ e n => u.slot b o e n hb (by simp)) (fun b o _ e n => u.free b o e n (by simp)) (fun b o _ e => u.there b o e (by simp)) u.tups u.frzs u.tbls (fun m' hm => by
    obtain ⟨o', es', ep', ho', r'⟩ := hm
    rw [ho] at ho'; cases ho'
    exact ⟨_, es', ep', hL, r'⟩) hok I.bare
/-- behind a call (or a comprehension's block): the slots of this frame may have changed too, the records at ch may have turned -/
theorem Inv.call {g' : Array GenState} {t' : Nat} {d' : Drawn} {ch : List Addr} (I : Inv X pins σ H s) (u : Un (frs X.stack) ch H H' s.heap h') (hok : HOk X.prog X.w H' h') (hg : AllBare g')
    (hch : ∀ b ∈ ch, (b ∈ X.ex ∨ X.s₀.heap.objs.size ≤ b) ∧ b ≠ X.env.locals ∧ (∀ x c, X.env.cells.lookup x = some c → c ≠ b) ∧ ∀ p ∈ X.pn ++ pins, p.1 ≠ b) :
    Inv X pins σ H' { s with heap := h', gens := g', drawn := d', toks := t' } := by
  obtain ⟨m, ⟨o, es, ep, ho, r⟩, _⟩ := id I.loc
  obtain ⟨sl, hL⟩ := u.any ho I.free fun z => (hch _ z).2.1 rfl
  exact I.step (ch := ch) hch (fun b o hL hb hc e n => u.keep b o e n (fun z => (List.mem_cons.mp (I.stkSub b z)).elim hL hb) hc) (fun b o _ _ hc e n => u.any e n hc) (fun b o hc e n => u.free b o e n hc) (fun b o hc e => u.there b o e hc) u.tups u.frzs u.tbls (fun m' hm => by
    obtain ⟨o', es', ep', ho', r'⟩ := hm
    rw [ho] at ho'; cases ho'
    exact ⟨_, es', ep', hL, r'⟩) hok hg
/-- an untracked record of ours (an iterator) has turned -/
theorem Inv.turned {t' : Nat} {it : Addr} (I : Inv X pins σ H s) (k : ∀ b o, b ≠ it → s.heap.get? b = some o → h'.get? b = some o) (hn : H it = none) (hL : it ≠ X.env.locals)
    (h1 : it ∈ X.ex ∨ X.s₀.heap.objs.size ≤ it) (h2 : ∀ x c, X.env.cells.lookup x = some c → c ≠ it) (h3 : ∀ p ∈ X.pn ++ pins, p.1 ≠ it) : Inv X pins σ H { s with heap := h', toks := t' } := by
  have nit : ∀ b u, H b = some u → b ≠ it := fun b u e z => by rw [z, hn] at e; cases e
  refine I.step (g' := s.gens) (d' := s.drawn) (ch := [it]) (fun b hb => ?_) (fun b o _ _ hc e _ => k b o (fun z => hc (by simp [z])) e) (fun b o _ _ hc e _ => ⟨o.slots, k b o (fun z => hc (by simp [z])) e⟩) (fun _ _ _ _ n => n)
    (fun b o hc e => ⟨o, k b o (fun z => hc (by simp [z])) e⟩) (fun _ _ e => e) (fun _ _ _ e => e) (fun b ps e => ⟨#[], by rw [e]; simp⟩) (fun m hm => ?_) (fun b u e => ?_) I.bare
  · have e : b = it := by simpa using hb
    subst e
    exact ⟨h1, hL, h2, h3⟩
  · obtain ⟨o, es, ep, ho, r⟩ := hm
    exact ⟨o, es, ep, k _ o (Ne.symm hL) ho, r⟩
  · refine (I.hok b u e).stay (fun c v hc q => k c v ?_ q) (fun _ q => q) fun _ _ q => q
    rcases hc with z | z
    · rw [z]; exact nit b u e
    · exact nit c _ z
theorem Inv.tok (I : Inv X pins σ H s) (t : Nat) : Inv X pins σ H { s with toks := t } := I.un (h' := s.heap) (t' := t) Un.refl I.hok
/-- all objects kept -/
theorem Inv.kept {t' : Nat} (I : Inv X pins σ H s) (k : ∀ b u, s.heap.get? b = some u → h'.get? b = some u) : Inv X pins σ H { s with heap := h', toks := t' } := I.un (Un.kept k) (I.hok.kept k)
/-- a new object laid and tracked -/
theorem Inv.laid {a : Addr} {o : HO} {t' : Nat} (I : Inv X pins σ H s) (k : ∀ b u, s.heap.get? b = some u → h'.get? b = some u) (hp : s.heap.objs.size ≤ a) (new : ObjOk X.prog X.w (upd H a o) h' a o) :
    Inv X pins σ (upd H a o) { s with heap := h', toks := t' } := I.un (Un.laid k hp (I.hok.fresh hp)) (I.hok.laid k hp new)
/-- an object written -/
theorem Inv.write {x e : Addr} {o : HO} {t' : Nat} (I : Inv X pins σ H s) (mu : Mut (H x)) (he : e = x ∨ H e = some (.own x)) (k : ∀ b u, b ≠ e → s.heap.get? b = some u → h'.get? b = some u) (heo : ∃ u, h'.get? e = some u)
    (new : ObjOk X.prog X.w (upd H x o) h' x o) : Inv X pins σ (upd H x o) { s with heap := h', toks := t' } := I.un (Un.write mu he k heo) (I.hok.write mu he k heo new)
theorem Inv.pins_of {pins' : List (Addr × Obj)} (I : Inv X pins σ H s) (h : ∀ p ∈ pins', s.heap.get? p.1 = some p.2 ∧ H p.1 = none ∧ p.1 ≠ X.env.locals ∧ p.1 ∉ X.fs ∧ ∀ v, p.2.data ≠ .cell v) : Inv X pins' σ H s :=
  ⟨I.ok, I.os, I.bare, I.base, I.loc, I.cell, I.free, I.freeC, fun p hp => (List.mem_append.mp hp).elim (fun z => I.pin p (List.mem_append_left _ z)) (h p), I.hok, I.len⟩

theorem nodup_ix {N : List Str} (hN : N.Nodup) {i j : Nat} {x : Str} (a : N[i]? = some x) (b : N[j]? = some x) : i = j := by
  obtain ⟨h1, e1⟩ := List.getElem?_eq_some_iff.mp a
  obtain ⟨h2, e2⟩ := List.getElem?_eq_some_iff.mp b
  exact (List.getElem_inj hN).mp (e1.trans e2.symm)

/-- a name is stored; what changed -/
theorem store_ok2 {M : Model} {A : Around} {E : Value → Shared → Prop} {i : Nat} {x : Str} {v : V} {u : Value} {Q : Unit → Shared → Prop} (I : Inv X pins σ H s) (hN : X.N.Nodup) (hi : X.N[i]? = some x) (hx : Loc X.env.scope x) (r : RelV v u)
    (h : ∀ s', Inv X pins (σ.set i (some v)) H s' → (∃ a, Heap.SameBut a s.heap s'.heap ∧ (a = X.env.locals ∨ X.env.cells.lookup x = some a)) → Q () s') (hf : X.fn x = true ∨ X.env.scope.names.lookup x = some .local := by first | exact .inl rfl | exact .inr rfl | assumption) : wpAny M A (storeName X.env x u) Q E s := by
  obtain ⟨m, hn, hl⟩ := id I.loc
  have hcls : (X.env.scope.kind == .class || (X.env.scope.kind == .module && X.env.locals != X.env.globals)) = false := by rw [I.ok.kind]; rfl
  have hiσ : i < σ.length := by rw [I.len]; exact (List.getElem?_eq_some_iff.mp hi).1
  have cne := I.cne
  have tracked : ∀ {a : Addr} {h' : Heap}, (∃ o, s.heap.get? a = some o ∧ H a = none) → Heap.SameBut a s.heap h' → HOk X.prog X.w H h' := fun {a h'} ha hs b ob e => by
    obtain ⟨_, _, hfree⟩ := ha
    refine (I.hok b ob e).stay (fun c w' hc q => (hs.2 c ?_).trans q) (fun _ q => q) fun _ _ q => q
    rintro rfl
    rcases hc with rfl | hc
    · rw [hfree] at e; cases e
    · rw [hfree] at hc; cases hc
  rcases hx with hk | hk
  · refine wpAny_storeName_local hk hn (fun h' hn' hs => ?_) hcls
    obtain ⟨oL, _, _, hoL, _⟩ := id hn
    refine h _ ⟨I.ok, I.os, I.bare, ⟨fun b o e n hb hx => ?_, fun b o e n hb hx => ?_, I.base.free, fun b o e hx => ?_, I.base.tups, I.base.frzs, I.base.tbls⟩, ⟨_, hn', fun j y v' e1 e2 e3 => ?_⟩, fun y c e => ?_, I.free, I.freeC, fun p hp => ?_, tracked ⟨oL, hoL, I.free⟩ hs, by simpa using I.len⟩ ⟨_, hs, .inl rfl⟩
    · exact (hs.2 b (Nat.ne_of_lt (Nat.lt_of_lt_of_le (Heap.lt_size e) I.ok.above))).trans (I.base.keep b o e n hb hx)
    · obtain ⟨sl, e1⟩ := I.base.slot b o e n hb hx
      exact ⟨sl, (hs.2 b (Nat.ne_of_lt (Nat.lt_of_lt_of_le (Heap.lt_size e) I.ok.above))).trans e1⟩
    · obtain ⟨o', e1⟩ := I.base.there b o e hx
      exact ⟨o', (hs.2 b (Nat.ne_of_lt (Nat.lt_of_lt_of_le (Heap.lt_size e) I.ok.above))).trans e1⟩
    · by_cases hj : j = i
      · subst hj
        rw [hi] at e1; cases e1
        rw [List.getElem?_set_self hiσ] at e2
        cases e2
        exact ⟨u, r, .inl ⟨hk, by simp⟩⟩
      · rw [List.getElem?_set_ne (Ne.symm hj)] at e2
        obtain ⟨u', r', q⟩ := hl j y v' e1 e2 e3
        refine ⟨u', r', ?_⟩
        rcases q with ⟨k, e⟩ | ⟨k, c, e, z⟩
        · refine .inl ⟨k, ?_⟩
          have : y ≠ x := fun e => hj (nodup_ix hN e1 (e ▸ hi))
          simp [this, e]
        · exact .inr ⟨k, c, e, z.sameBut hs (cne y c e)⟩
    · obtain ⟨w', z⟩ := I.cell y c e
      exact ⟨w', z.sameBut hs (cne y c e)⟩
    · obtain ⟨e, n, ne, nf, d⟩ := I.pin p hp
      exact ⟨(hs.2 p.1 ne).trans e, n, ne, nf, d⟩
  · have hfn : X.fn x = true := by
      rcases hf with z | z
      · exact z
      · rw [z] at hk; cases hk
    obtain ⟨c, hc⟩ := I.ok.has x (.inl hk)
    obtain ⟨w', z⟩ := I.cell x c hc
    refine wpAny_storeName_cell I.ok.kind hk hc z (fun h' hc' hs => ?_)
    obtain ⟨oc, hoc, hocd⟩ := id z
    refine h { s with heap := h' } ⟨I.ok, I.os, I.bare, ⟨fun b o e n hb hx => ?_, fun b o e n hb hx => ?_, I.base.free, fun b o e hx => ?_, I.base.tups, I.base.frzs, I.base.tbls⟩, ⟨m, hn.sameBut hs (Ne.symm (cne x c hc)), fun j y v' e1 e2 e3 => ?_⟩, fun y c' e => ?_, I.free, I.freeC, fun p hp => ?_, tracked ⟨oc, hoc, I.freeC x c hc⟩ hs, by simpa using I.len⟩ ⟨c, hs, .inr hc⟩
    · exact (hs.2 b (Nat.ne_of_lt (Nat.lt_of_lt_of_le (Heap.lt_size e) (I.ok.cab x c hfn hc)))).trans (I.base.keep b o e n hb hx)
    · obtain ⟨sl, e1⟩ := I.base.slot b o e n hb hx
      exact ⟨sl, (hs.2 b (Nat.ne_of_lt (Nat.lt_of_lt_of_le (Heap.lt_size e) (I.ok.cab x c hfn hc)))).trans e1⟩
    · obtain ⟨o', e1⟩ := I.base.there b o e hx
      exact ⟨o', (hs.2 b (Nat.ne_of_lt (Nat.lt_of_lt_of_le (Heap.lt_size e) (I.ok.cab x c hfn hc)))).trans e1⟩
    · by_cases hj : j = i
      · subst hj
        rw [hi] at e1; cases e1
        rw [List.getElem?_set_self hiσ] at e2
        cases e2
        exact ⟨u, r, .inr ⟨.inl hk, c, hc, hc'⟩⟩
      · rw [List.getElem?_set_ne (Ne.symm hj)] at e2
        obtain ⟨u', r', q⟩ := hl j y v' e1 e2 e3
        refine ⟨u', r', ?_⟩
        rcases q with q | ⟨k, c', e, z'⟩
        · exact .inl q
        · refine .inr ⟨k, c', e, z'.sameBut hs ?_⟩
          rintro rfl
          exact hj (nodup_ix hN e1 (I.ok.inj _ _ _ e hc ▸ hi))
    · by_cases hcc : c' = c
      · subst hcc; exact ⟨_, hc'⟩
      · obtain ⟨w2, z2⟩ := I.cell y c' e
        exact ⟨w2, z2.sameBut hs hcc⟩
    · obtain ⟨e, n, ne, nf, d⟩ := I.pin p hp
      refine ⟨(hs.2 p.1 ?_).trans e, n, ne, nf, d⟩
      intro q
      rw [q, hoc] at e
      have q' : oc = p.2 := Option.some.inj e
      exact d w' (by rw [← q']; exact hocd)
theorem store_ok {M : Model} {A : Around} {E : Value → Shared → Prop} {i : Nat} {x : Str} {v : V} {u : Value} {Q : Unit → Shared → Prop} (I : Inv X pins σ H s) (hN : X.N.Nodup) (hi : X.N[i]? = some x) (hx : Loc X.env.scope x) (r : RelV v u)
    (h : ∀ s', Inv X pins (σ.set i (some v)) H s' → Q () s') (hf : X.fn x = true ∨ X.env.scope.names.lookup x = some .local := by first | exact .inl rfl | exact .inr rfl | assumption) : wpAny M A (storeName X.env x u) Q E s :=
  store_ok2 I hN hi hx r (fun s' I' _ => h s' I') hf
/-- behind a call or a block, the state as it is -/
theorem Inv.call' {s' : Shared} {ch : List Addr} (I : Inv X pins σ H s) (ho : s'.os = s.os) (u : Un (frs X.stack) ch H H' s.heap s'.heap) (hok : HOk X.prog X.w H' s'.heap) (hg : AllBare s'.gens)
    (hch : ∀ b ∈ ch, (b ∈ X.ex ∨ X.s₀.heap.objs.size ≤ b) ∧ b ≠ X.env.locals ∧ (∀ x c, X.env.cells.lookup x = some c → c ≠ b) ∧ ∀ p ∈ X.pn ++ pins, p.1 ≠ b) : Inv X pins σ H' s' := by
  obtain ⟨h', g', d', t', o'⟩ := s'
  have e : o' = s.os := ho
  subst e
  exact I.call (g' := g') (t' := t') (d' := d') u hok hg hch
end

/-! ### the judgements -/
/-- an exception: its class, its own dict's address (where it has one), the abstract heap behind it -/
abbrev XK := Value → Option Addr → Hp → Prop
abbrev St := List (Option V)
abbrev VK := V → Hp → Prop
/-- an expression's reading; a test's; an argument list's -/
abbrev TE := St → Hp → VK → Prop
abbrev TT := St → Hp → (Bool → Hp → Prop) → Prop
abbrev TA := St → Hp → (List V → Hp → Prop) → Prop
/-- what is wanted behind a statement -/
structure Ends where
  nx : St → Hp → Prop
  rt : VK
  bk : St → Hp → Prop := fun _ _ => False
  ct : St → Hp → Prop := fun _ _ => False
abbrev TS := Ends → St → Hp → Prop

def EP (X : Cx) (pins : List (Addr × Obj)) (σ : St) (Q : VK) (u : Value) (s' : Shared) : Prop := ∃ v H', Inv X pins σ H' s' ∧ RelV v u ∧ Q v H'
def TP (X : Cx) (pins : List (Addr × Obj)) (σ : St) (Q : Bool → Hp → Prop) (b : Bool) (s' : Shared) : Prop := ∃ H', Inv X pins σ H' s' ∧ Q b H'
def AP (X : Cx) (pins : List (Addr × Obj)) (σ : St) (Q : List V → Hp → Prop) (us : List Value) (s' : Shared) : Prop := ∃ vs H', Inv X pins σ H' s' ∧ Vals vs us ∧ Q vs H'
def SP (X : Cx) (pins : List (Addr × Obj)) (D : Ends) (f : Flow) (s' : Shared) : Prop :=
  match f with
  | .next => ∃ σ' H', Inv X pins σ' H' s' ∧ D.nx σ' H'
  | .brk => ∃ σ' H', Inv X pins σ' H' s' ∧ D.bk σ' H'
  | .cont => ∃ σ' H', Inv X pins σ' H' s' ∧ D.ct σ' H'
  | .ret u => ∃ v σ' H', Inv X pins σ' H' s' ∧ RelV v u ∧ D.rt v H'

def PE (X : Cx) (e : Expr) (t : TE) : Prop :=
  ∀ (pins : List (Addr × Obj)) (s : Shared) (σ : St) (H : Hp) (Q : VK), Inv X pins σ H s → t σ H Q → wpAny (model X.prog X.w) X.A (eval e X.env) (EP X pins σ Q) X.xe s
def PT (X : Cx) (e : Expr) (t : TT) : Prop :=
  ∀ (pins : List (Addr × Obj)) (s : Shared) (σ : St) (H : Hp) (Q : Bool → Hp → Prop), Inv X pins σ H s → t σ H Q → wpAny (model X.prog X.w) X.A (isTrue e X.env (eval e X.env)) (TP X pins σ Q) X.xe s
/-- a test whatever its 'whole' is (and, or) -/
def PW (X : Cx) (e : Expr) (t : TT) : Prop :=
  ∀ (whole : Sem Value) (pins : List (Addr × Obj)) (s : Shared) (σ : St) (H : Hp) (Q : Bool → Hp → Prop), Inv X pins σ H s → t σ H Q → wpAny (model X.prog X.w) X.A (isTrue e X.env whole) (TP X pins σ Q) X.xe s
theorem PW.pt {X : Cx} {e : Expr} {t : TT} (h : PW X e t) : PT X e t := h _
/-- an argument list (no star), from the left -/
def PA (X : Cx) (es : List Expr) (t : TA) : Prop :=
  ∀ (pos : Pos) (pins : List (Addr × Obj)) (s : Shared) (σ : St) (H : Hp) (Q : List V → Hp → Prop), Inv X pins σ H s → t σ H Q → wpAny (model X.prog X.w) X.A (spliced (backTo pos (starEach es X.env))) (AP X pins σ Q) X.xe s
def PS (X : Cx) (st : Stmt) (t : TS) : Prop :=
  ∀ (pins : List (Addr × Obj)) (s : Shared) (σ : St) (H : Hp) (D : Ends), Inv X pins σ H s → t D σ H → wpAny (model X.prog X.w) X.A (exec st X.env) (SP X pins D) X.xe s
def PSs (X : Cx) (st : List Stmt) (t : TS) : Prop :=
  ∀ (pins : List (Addr × Obj)) (s : Shared) (σ : St) (H : Hp) (D : Ends), Inv X pins σ H s → t D σ H → wpAny (model X.prog X.w) X.A (execs st X.env) (SP X pins D) X.xe s
/-- weaken the end -/
theorem thn {α : Type} {t : Sem α} {Q Q' : α → Shared → Prop} {M : Model} {A : Around} {E : Value → Shared → Prop} {s : Shared} (h : wpAny M A t Q E s) (hQ : ∀ a s, Q a s → Q' a s) : wpAny M A t Q' E s := wpAny_mono h hQ fun _ _ x => x
end L2

namespace L2
open PySem PySem.Spec PyProof.Rows
section
variable {X : Cx}


/-! ### names and constants -/
def tVar (i : Nat) : TE := fun σ H Q => ∃ v, σ[i]? = some (some v) ∧ Q v H
def tC (v : V) : TE := fun _ H Q => Q v H
theorem pe_var {i : Nat} {x : Str} {pos : Pos} (hN : X.N[i]? = some x) (hv : Vis X.env.scope x) (hd : (x == ("__debug__" : Str)) = false := by decide) (hcd : (x == ("__classdict__" : Str)) = false := by decide) : PE X (.Name x pos) (tVar i) := by
  intro pins s σ H Q I h
  obtain ⟨v, e, h⟩ := h
  obtain ⟨m, hn, hl⟩ := I.loc
  obtain ⟨u, r, l⟩ := hl i x v hN e hv
  have fin : EP X pins σ Q u s := ⟨v, H, I, r, h⟩
  rcases l with ⟨hk, hm⟩ | ⟨hk, c, hc, hcell⟩
  · exact wpAny_Name (wpAny_loadName_local I.ok.kind hk hn hm fin) hd
  · rcases hk with hk | hk
    · exact wpAny_Name (wpAny_loadName_cell I.ok.kind hk hc hcell fin) hd
    · exact wpAny_Name (wpAny_loadName_free I.ok.kind hk hc hcell fin hcd) hd
theorem pe_int {i j pos} : PE X (.Constant (.int i) j pos) (tC (.int i)) := fun _ _ _ H _ I h => wpAny_Constant_int ⟨.int i, H, I.tok _, ⟨_, rfl⟩, h⟩
theorem pe_bl {b j pos} : PE X (.Constant (.bool b) j pos) (tC (.bl b)) := fun _ _ _ H _ I h => Constant_bool ⟨.bl b, H, I, rfl, h⟩
theorem pe_non {j pos} : PE X (.Constant .none j pos) (tC .non) := fun _ _ _ H _ I h => Constant_none ⟨.non, H, I, rfl, h⟩

/-- a global name of the def -/
def Gl (X : Cx) (x : Str) : Prop := X.env.kindOf x = some .globalImplicit
theorem ld_glob {E : Value → Shared → Prop} {pins : List (Addr × Obj)} {s : Shared} {σ : St} {H : Hp} {x : Str} {u : Value} {pos : Pos} {Q : Value → Shared → Prop} (I : Inv X pins σ H s) (hg : Gl X x) (hm : X.mg x = some u) (h : Q u s)
    (hd : (x == ("__debug__" : Str)) = false := by decide) : wpAny (model X.prog X.w) X.A (eval (.Name x pos) X.env) Q E s :=
  Calls.Name_function_global I.ok.kind hg (Calls.loadGlobal_global (by rw [I.ok.glob]; exact I.mod.glob.keeps I.bk) hm h) hd
theorem ld_blt {E : Value → Shared → Prop} {pins : List (Addr × Obj)} {s : Shared} {σ : St} {H : Hp} {x : Str} {u : Value} {pos : Pos} {Q : Value → Shared → Prop} (I : Inv X pins σ H s) (hg : Gl X x) (hm : X.mg x = none) (hv : bootBuiltins x = some u) (h : Q u s)
    (hn : x ≠ "__name__" := by decide) (hd : (x == ("__debug__" : Str)) = false := by decide) : wpAny (model X.prog X.w) X.A (eval (.Name x pos) X.env) Q E s := by
  obtain ⟨mb, h1, h2⟩ := I.mod.blt
  exact Calls.Name_function_global I.ok.kind hg (Calls.loadGlobal_builtin (by rw [I.ok.glob]; exact I.mod.glob.keeps I.bk) hm (by rw [I.ok.blt]; exact h1.keeps I.bk) ((h2 x hn).trans hv) h) hd
/-- a module's constant, a class, a function, as a value -/
theorem pe_glob {x : Str} {v : V} {u : Value} {pos : Pos} (hg : Gl X x) (hm : X.mg x = some u) (r : RelV v u) (hd : (x == ("__debug__" : Str)) = false := by decide) : PE X (.Name x pos) (tC v) :=
  fun _ _ _ H _ I h => ld_glob I hg hm ⟨v, H, I, r, h⟩ hd
theorem pe_bltn {x : Str} {v : V} {u : Value} {pos : Pos} (hg : Gl X x) (hm : X.mg x = none) (hv : bootBuiltins x = some u) (r : RelV v u) (hn : x ≠ "__name__" := by decide) (hd : (x == ("__debug__" : Str)) = false := by decide) : PE X (.Name x pos) (tC v) :=
  fun _ _ _ H _ I h => ld_blt I hg hm hv ⟨v, H, I, r, h⟩ hn hd

/-! ### arithmetic -/
variable {a b : Expr} {ta tb : TE} {pos : Pos}

/-! ### comparisons -/
/-- a comparison as a value, as a test -/
def tB (t : TE) : TT := fun σ H Q => t σ H fun x H1 => ∃ c, x = .bl c ∧ Q c H1
/-- an expression whose value is a bool, as a test -/
theorem pt_val {e : Expr} {t : TE} (h : PE X e t) (he : ∀ whole, isTrue e X.env whole = (do let v ← whole; standAt e.pos; holding [v] (truthy v)) := by intro _; rfl) : PT X e (tB t) := by
  intro pins s σ H Q I hw
  refine isTrue_plain (thn (h pins s σ H _ I hw) fun v s1 ⟨x, H1, I1, r1, q1⟩ => ?_) (he _)
  obtain ⟨d, rfl, q⟩ := q1
  cases r1
  exact wpAny_truthy_bool ⟨H1, I1, q⟩

/-! ### and, or, not -/
variable {tA tB' : TT} {rest : List Expr}
def tAnd (t u : TT) : TT := fun σ H Q => t σ H fun c H1 => if c = true then u σ H1 Q else Q false H1
def tOr (t u : TT) : TT := fun σ H Q => t σ H fun c H1 => if c = true then Q true H1 else u σ H1 Q
def tNot (t : TT) : TT := fun σ H Q => t σ H fun c H1 => Q (!c) H1
theorem pw_and1 (ha : PT X a tA) : PW X (.BoolOp .And [a] pos) tA := by
  intro wh pins s σ H Q I h
  refine isTrue_and (thn (ha pins s σ H Q I h) fun c s1 e => ?_)
  cases c with
  | true => exact isTrue_and_nil e
  | false => exact e
theorem pw_or1 (ha : PT X a tA) : PW X (.BoolOp .Or [a] pos) tA := by
  intro wh pins s σ H Q I h
  refine isTrue_or (thn (ha pins s σ H Q I h) fun c s1 e => ?_)
  cases c with
  | false => exact isTrue_or_nil e
  | true => exact e
theorem pw_and (ha : PT X a tA) (hb : PW X (.BoolOp .And (b :: rest) pos) tB') : PW X (.BoolOp .And (a :: b :: rest) pos) (tAnd tA tB') := by
  intro wh pins s σ H Q I h
  refine isTrue_and (thn (ha pins s σ H _ I h) fun c s1 ⟨H1, I1, q1⟩ => ?_)
  cases c with
  | true => exact hb wh pins s1 σ H1 Q I1 q1
  | false => exact ⟨H1, I1, q1⟩
theorem pw_or (ha : PT X a tA) (hb : PW X (.BoolOp .Or (b :: rest) pos) tB') : PW X (.BoolOp .Or (a :: b :: rest) pos) (tOr tA tB') := by
  intro wh pins s σ H Q I h
  refine isTrue_or (thn (ha pins s σ H _ I h) fun c s1 ⟨H1, I1, q1⟩ => ?_)
  cases c with
  | true => exact ⟨H1, I1, q1⟩
  | false => exact hb wh pins s1 σ H1 Q I1 q1
theorem pt_not (ha : PT X a tA) : PT X (.UnaryOp .Not a pos) (tNot tA) := by
  intro pins s σ H Q I h
  exact isTrue_not (ha pins s σ H (fun c H1 => Q (!c) H1) I h)
/-- .. as values (bools) -/
def tAndV (ta tb : TE) : TE := fun σ H Q => ta σ H fun x H1 => ∃ c, x = .bl c ∧ if c = true then tb σ H1 Q else Q (.bl false) H1
def tNotV (ta : TE) : TE := fun σ H Q => ta σ H fun x H1 => ∃ c, x = .bl c ∧ Q (.bl (!c)) H1
theorem pe_one {op} {t : TE} (h : PE X a t) : PE X (.BoolOp op [a] pos) t := fun pins s σ H Q I hw => BoolOp_one (h pins s σ H Q I hw)
theorem pe_and (ha : PE X a ta) (hb : PE X (.BoolOp .And (b :: rest) pos) tb) : PE X (.BoolOp .And (a :: b :: rest) pos) (tAndV ta tb) := by
  intro pins s σ H Q I h
  refine BoolOp_and (thn (ha pins s σ H _ I h) fun v s1 ⟨x, H1, I1, r1, q1⟩ => ?_)
  obtain ⟨c, rfl, q1⟩ := q1
  cases r1
  refine wpAny_truthy_bool ?_
  cases c with
  | true => exact hb pins s1 σ H1 Q I1 q1
  | false => exact ⟨.bl false, H1, I1, rfl, q1⟩
theorem pe_not (ha : PE X a ta) : PE X (.UnaryOp .Not a pos) (tNotV ta) := by
  intro pins s σ H Q I h
  refine UnaryOp_ (thn (ha pins s σ H _ I h) fun v s1 ⟨x, H1, I1, r1, q1⟩ => ?_)
  obtain ⟨c, rfl, q1⟩ := q1
  cases r1
  exact not_of (wpAny_truthy_bool ⟨.bl (!c), H1, I1, rfl, q1⟩)
end
end L2

namespace L2
open PySem PySem.Spec PyProof.Rows

/-! ### a list, a tuple that is read: tracked, frozen, or an object of the module -/
def SqL (K : PySem.W.Frag) (H : Hp) (a : Addr) (xs : List V) : Prop :=
  Rd H a (.lst xs) ∨
    ∃ (o : Obj) (its : Array Value) (n : Nat), K.lookup a = some o ∧ o.cls = .type "list" ∧ o.dict = none ∧ o.data = .seq its n ∧ its.size ≤ sizeLine ∧ Vals xs its.toList
def SqT (K : PySem.W.Frag) (H : Hp) (a : Addr) (xs : List V) : Prop :=
  Rd H a (.tup xs) ∨
    ∃ (o : Obj) (its : Array Value) (n : Nat), K.lookup a = some o ∧ o.cls = .type "tuple" ∧ o.data = .seq its n ∧ its.size ≤ sizeLine ∧ Vals xs its.toList
def absV : Value → Option V
  | .none => some .non
  | .bool b => some (.bl b)
  | .int i _ => some (.int i)
  | .str x _ => some (.str x)
  | .bytes b _ => some (.byt b)
  | .float b _ => some (.flt b)
  | .ref a => some (.ref a)
  | .type n => some (.ty n)
  | _ => none
theorem RelV.abs {x : V} {u : Value} (r : RelV x u) : absV u = some x := by
  cases x with
  | non => cases r; rfl
  | bl _ => cases r; rfl
  | int _ => obtain ⟨t, rfl⟩ := r; rfl
  | str _ => obtain ⟨t, rfl⟩ := r; rfl
  | byt _ => obtain ⟨t, rfl⟩ := r; rfl
  | flt _ => obtain ⟨t, rfl⟩ := r; rfl
  | ref _ => cases r; rfl
  | ty _ => cases r; rfl
theorem RelV.inj {x y : V} {u : Value} (r : RelV x u) (q : RelV y u) : x = y := Option.some.inj (r.abs.symm.trans q.abs)
theorem Vals.inj : ∀ {xs ys : List V} {us : List Value}, Vals xs us → Vals ys us → xs = ys
  | _, _, _, .nil, .nil => rfl
  | _, _, _, .cons r t, .cons r' t' => by rw [r.inj r', Vals.inj t t']
section
variable {X : Cx} {pins : List (Addr × Obj)} {σ : St} {H : Hp} {s : Shared} {a : Addr} {xs ys : List V}
theorem SqL.of {K : PySem.W.Frag} (h : H a = some (.lst xs)) : SqL K H a xs := .inl (.inl h)
theorem SqT.of {K : PySem.W.Frag} (h : H a = some (.tup xs)) : SqT K H a xs := .inl (.inl h)
theorem Inv.list (I : Inv X pins σ H s) (h : SqL X.K H a xs) : ∃ its : List Value, Vals xs its ∧ PlainL s.heap a its.toArray ∧ xs.length ≤ sizeLine := by
  rcases h with h | ⟨o, its, n, hk, hc, hd, hs, hz, r⟩
  · obtain ⟨z, its, n, r, e⟩ := h.ok I.hok
    exact ⟨its, r, ⟨_, n, e, rfl, rfl, rfl⟩, z⟩
  · refine ⟨its.toList, r, ⟨o, n, I.kIn a o hk, hc, hd, by simpa using hs⟩, ?_⟩
    have e := r.length
    simp only [Array.length_toList] at e
    omega
theorem Inv.tuple (I : Inv X pins σ H s) (h : SqT X.K H a xs) : ∃ its : List Value, Vals xs its ∧ IsTup s.heap a its.toArray ∧ xs.length ≤ sizeLine := by
  rcases h with h | ⟨o, its, n, hk, hc, hs, hz, r⟩
  · obtain ⟨z, its, r, p⟩ := h.ok I.hok
    exact ⟨its, r, p, z⟩
  · refine ⟨its.toList, r, ⟨o, I.kIn a o hk, hc, n, by simpa using hs⟩, ?_⟩
    have e := r.length
    simp only [Array.length_toList] at e
    omega
theorem Inv.list_inj (I : Inv X pins σ H s) (h : SqL X.K H a xs) (h' : SqL X.K H a ys) : xs = ys := by
  obtain ⟨its, r, ⟨o, n, e, _, _, d⟩, _⟩ := I.list h
  obtain ⟨its', r', ⟨o', n', e', _, _, d'⟩, _⟩ := I.list h'
  rw [e] at e'; cases e'
  rw [d] at d'
  injection d' with d1 _
  have : its = its' := by simpa using congrArg Array.toList d1
  subst this
  exact r.inj r'
end

/-! ### another wish about exceptions -/
abbrev Cx.wish (X : Cx) (E : Value → Shared → Prop) : Cx := { X with xe := E }
/-- no exception leaves -/
abbrev Cx.nox (X : Cx) : Cx := X.wish fun _ _ => False
theorem Cx.Ok.wish {X : Cx} (ok : X.Ok) (E : Value → Shared → Prop) : (X.wish E).Ok :=
  ⟨ok.mod, ok.kind, ok.glob, ok.blt, ok.above, ok.inj, ok.has, ok.cab, ok.hd, ok.frames, ok.stk, ok.exf, ok.bs, ok.bsz, ok.noex, ok.exfs, ok.funs, ok.frf⟩
theorem Cx.Ok.unwish {X : Cx} {E : Value → Shared → Prop} (ok : (X.wish E).Ok) : X.Ok :=
  ⟨ok.mod, ok.kind, ok.glob, ok.blt, ok.above, ok.inj, ok.has, ok.cab, ok.hd, ok.frames, ok.stk, ok.exf, ok.bs, ok.bsz, ok.noex, ok.exfs, ok.funs, ok.frf⟩
section
variable {X : Cx} {pins : List (Addr × Obj)} {σ : St} {H : Hp} {s : Shared} {E : Value → Shared → Prop}
theorem Inv.wish (I : Inv X pins σ H s) (E : Value → Shared → Prop) : Inv (X.wish E) pins σ H s := ⟨I.ok.wish E, I.os, I.bare, I.base, I.loc, I.cell, I.free, I.freeC, I.pin, I.hok, I.len⟩
theorem Inv.unwish (I : Inv (X.wish E) pins σ H s) : Inv X pins σ H s := ⟨I.ok.unwish, I.os, I.bare, I.base, I.loc, I.cell, I.free, I.freeC, I.pin, I.hok, I.len⟩
theorem SP.unwish {D : Ends} {f : Flow} {s' : Shared} (h : SP (X.wish E) pins D f s') : SP X pins D f s' := by
  cases f with
  | next => obtain ⟨σ', H', I, q⟩ := h; exact ⟨σ', H', I.unwish, q⟩
  | brk => obtain ⟨σ', H', I, q⟩ := h; exact ⟨σ', H', I.unwish, q⟩
  | cont => obtain ⟨σ', H', I, q⟩ := h; exact ⟨σ', H', I.unwish, q⟩
  | ret u => obtain ⟨v, σ', H', I, r, q⟩ := h; exact ⟨v, σ', H', I.unwish, r, q⟩
theorem PSs.nox {st : List Stmt} {t : TS} (h : PSs X.nox st t) : PSs X st t := fun pins s σ H D I hw =>
  wpAny_mono (h pins s σ H D (I.wish _) hw) (fun _ _ q => q.unwish) fun _ _ z => False.elim z
end

/-! ### blocks and small statements -/
section
variable {X : Cx} {st : Stmt} {rest : List Stmt} {t u : TS} {e : Expr} {te : TE} {pos : Pos}
def tNext : TS := fun D σ H => D.nx σ H
def tSeq (t u : TS) : TS := fun D σ H => t { D with nx := u D } σ H
theorem pss_nil : PSs X [] tNext := fun _ _ σ H _ I h => wpAny_execs_nil ⟨σ, H, I, h⟩
theorem pss_cons (h1 : PS X st t) (h2 : PSs X rest u) : PSs X (st :: rest) (tSeq t u) := by
  intro pins s σ H D I h
  refine wpAny_execs_cons (thn (h1 pins s σ H { D with nx := u D } I h) fun f s1 q => ?_)
  cases f with
  | next =>
    obtain ⟨σ', H', I', q⟩ := q
    exact h2 pins s1 σ' H' D I' q
  | ret v => exact q
  | brk => exact q
  | cont => exact q
theorem pss_one (h1 : PS X st t) : PSs X [st] t := by
  intro pins s σ H D I h
  refine wpAny_execs_cons (thn (h1 pins s σ H D I h) fun f s1 q => ?_)
  cases f with
  | next => exact wpAny_execs_nil q
  | ret v => exact q
  | brk => exact q
  | cont => exact q
def tRet (te : TE) : TS := fun D σ H => te σ H D.rt
theorem ps_ret (he : PE X e te) : PS X (.Return (some e) pos) (tRet te) := by
  intro pins s σ H D I h
  exact wpAny_Return_some (thn (he pins s σ H _ I h) fun v s1 ⟨x, H1, I1, r1, q1⟩ => ⟨x, σ, H1, I1, r1, q1⟩)
def tIfS (c : TT) (t u : TS) : TS := fun D σ H => c σ H fun b H1 => if b = true then t D σ H1 else u D σ H1
theorem ps_if {c : Expr} {a b : List Stmt} {tc : TT} (hc : PT X c tc) (ha : PSs X a t) (hb : PSs X b u) : PS X (.If c a b pos) (tIfS tc t u) := by
  intro pins s σ H D I h
  refine wpAny_If (thn (hc pins s σ H _ I h) fun d s1 ⟨H1, I1, q1⟩ => ?_)
  cases d with
  | true => exact ha pins s1 σ H1 D I1 q1
  | false => exact hb pins s1 σ H1 D I1 q1
end

/-! ### targets -/
abbrev TG := V → St → Hp → (St → Hp → Prop) → Prop
abbrev TGs := List V → St → Hp → (St → Hp → Prop) → Prop
def PG (X : Cx) (target : Expr) (t : TG) : Prop :=
  ∀ (pins : List (Addr × Obj)) (s : Shared) (σ : St) (H : Hp) (v : V) (u : Value) (Q : St → Hp → Prop), Inv X pins σ H s → RelV v u → t v σ H Q →
    wpAny (model X.prog X.w) X.A (assign target X.env u) (fun _ s' => ∃ σ' H', Inv X pins σ' H' s' ∧ Q σ' H') X.xe s
/-- several targets, one after another -/
def PGs (X : Cx) (ts : List Expr) (t : TGs) : Prop :=
  ∀ (pins : List (Addr × Obj)) (s : Shared) (σ : St) (H : Hp) (vs : List V) (us : List Value) (Q : St → Hp → Prop), Inv X pins σ H s → Vals vs us → t vs σ H Q →
    wpAny (model X.prog X.w) X.A (assignInOrder ((assignEach ts X.env).map (·.2)) us) (fun _ s' => ∃ σ' H', Inv X pins σ' H' s' ∧ Q σ' H') X.xe s
/-- o[i] = v, by values -/
abbrev TSet := V → V → V → Hp → (Hp → Prop) → Prop
def PSet (X : Cx) (t : TSet) : Prop :=
  ∀ (pins : List (Addr × Obj)) (s : Shared) (σ : St) (H : Hp) (o i v : V) (ov iv u : Value) (Q : Hp → Prop), Inv X pins σ H s → RelV o ov → RelV i iv → RelV v u → t o i v H Q →
    wpAny (model X.prog X.w) X.A (setItem ov iv u) (fun _ s' => ∃ H', Inv X pins σ H' s' ∧ Q H') X.xe s
section
variable {X : Cx} {pos : Pos}
def gName (i : Nat) : TG := fun v σ H Q => Q (σ.set i (some v)) H
theorem pg_name {i : Nat} {x : Str} (hN : X.N.Nodup) (hi : X.N[i]? = some x) (hx : Loc X.env.scope x) (hf : X.fn x = true ∨ X.env.scope.names.lookup x = some .local := by first | exact .inl rfl | exact .inr rfl | assumption) : PG X (.Name x pos) (gName i) := by
  intro pins s σ H v u Q I r h
  exact wpAny_assign_Name (store_ok I hN hi hx r (fun s' I' => ⟨_, H, I', h⟩) hf)
def gNil : TGs := fun vs σ H Q => vs = [] ∧ Q σ H
def gCons (t : TG) (u : TGs) : TGs := fun vs σ H Q => ∃ v r, vs = v :: r ∧ t v σ H fun σ' H' => u r σ' H' Q
theorem pgs_nil : PGs X [] gNil := by
  intro pins s σ H vs us Q I r h
  obtain ⟨e, h⟩ := h
  subst e
  cases r
  exact assignInOrder_nil ⟨σ, H, I, h⟩
theorem pgs_cons {e : Expr} {es : List Expr} {t : TG} {u : TGs} (h1 : PG X e t) (h2 : PGs X es u)
    (hs : (assignEach (e :: es) X.env).map (·.2) = assign e X.env :: (assignEach es X.env).map (·.2) := by rfl) : PGs X (e :: es) (gCons t u) := by
  intro pins s σ H vs us Q I r h
  obtain ⟨v, vr, e1, h⟩ := h
  subst e1
  cases r with
  | cons r rr =>
    rw [hs]
    refine assignInOrder_cons (thn (h1 pins s σ H _ _ _ I r h) fun _ s1 ⟨σ1, H1, I1, q1⟩ => ?_)
    exact h2 pins s1 σ1 H1 _ _ Q I1 rr q1
/-- (a, b, ..) = a tuple of that length -/
def gTup (K : PySem.W.Frag) (n : Nat) (t : TGs) : TG := fun v σ H Q => ∃ a xs, v = .ref a ∧ SqT K H a xs ∧ xs.length = n ∧ t xs σ H Q
theorem pg_tup {es : List Expr} {k : Nat} {t : TGs} {n : Nat} (hc : X.calm = true) (h : PGs X es t)
    (hn : (assignEach es X.env).length = n := by rfl) (hst : (assignEach es X.env).findIdx? (·.1) = none := by rfl) : PG X (.Tuple es k pos) (gTup X.K n t) := by
  intro pins s σ H v u Q I r hw
  obtain ⟨a, xs, e1, hq, hl, hw⟩ := hw
  subst e1
  cases r
  obtain ⟨its, rv, ht, hz⟩ := I.tuple hq
  refine assign_Tuple_tuple (I.ok.hd hc) ht (by simp [hn, ← hl, rv.length]) hst fun h' hx => ?_
  have I1 : Inv X pins σ H { s with heap := h' } := I.kept (t' := s.toks) fun b o e => hx b o (Nat.ne_of_lt (Heap.lt_size e)) e
  exact h pins _ σ H xs _ Q I1 (by simpa using rv) hw
/-- o[i] = .. -/
def gSub (to ti : TE) (t : TSet) : TG := fun v σ H Q => to σ H fun o H1 => ti σ H1 fun i H2 => t o i v H2 fun H3 => Q σ H3
theorem pg_sub {o i : Expr} {to ti : TE} {t : TSet} (ho : PE X o to) (hi : PE X i ti) (hs : PSet X t)
    (ha : ∀ v, assign (.Subscript o i pos) X.env v = (do
      let ov ← holding [v] (eval o X.env)
      let iv ← holding [v, ov] (eval i X.env)
      standAt pos
      holding [v, ov, iv] (setItem ov iv v)
      release [v, ov, iv] []) := by intro _; rfl) : PG X (.Subscript o i pos) (gSub to ti t) := by
  intro pins s σ H v u Q I r h
  rw [ha]
  refine wpAny_bind (wpAny_holding (thn (ho pins s σ H _ I h) fun ov s1 ⟨x, H1, I1, r1, q1⟩ => ?_))
  refine wpAny_bind (wpAny_holding (thn (hi pins s1 σ H1 _ I1 q1) fun iv s2 ⟨y, H2, I2, r2, q2⟩ => ?_))
  refine wpAny_bind (wpAny_standAt (wpAny_bind (wpAny_holding (thn (hs pins s2 σ H2 x y v ov iv u _ I2 r1 r2 r q2) fun _ s3 ⟨H3, I3, q3⟩ => ?_))))
  exact wpAny_release ⟨σ, H3, I3, q3⟩
/-- target = value -/
def tAsg (te : TE) (g : TG) : TS := fun D σ H => te σ H fun x H1 => g x σ H1 D.nx
theorem ps_asg {tg e : Expr} {te : TE} {g : TG} (he : PE X e te) (hg : PG X tg g) (hs : swapsWithSole [tg] e pos.line X.env = pure false := by rfl) (hw : swappedStores [tg] e X.env = pure none := by rfl)
    (h1 : (assignEach [tg] X.env).map (·.2) = [assign tg X.env] := by rfl) : PS X (.Assign [tg] e pos) (tAsg te g) := by
  intro pins s σ H D I h
  refine wpAny_Assign_stores (thn (he pins s σ H _ I h) fun v s1 ⟨x, H1, I1, r1, q1⟩ => ?_) hs hw
  rw [h1]
  exact thn (hg pins s1 σ H1 x v _ I1 r1 q1) fun _ s2 q => q
/-- name = value -/
theorem ps_set {i : Nat} {x : Str} {e : Expr} {te : TE} {pos' : Pos} (hN : X.N.Nodup) (hi : X.N[i]? = some x) (hx : Loc X.env.scope x) (he : PE X e te) (hs : swapsWith e (some (.Name x pos')) pos.line X.env = pure false := by rfl) (hf : X.fn x = true ∨ X.env.scope.names.lookup x = some .local := by first | exact .inl rfl | exact .inr rfl | assumption) :
    PS X (.Assign [.Name x pos'] e pos) (tAsg te (gName i)) := by
  intro pins s σ H D I h
  refine wpAny_Assign_Name (thn (he pins s σ H _ I h) fun v s1 ⟨y, H1, I1, r1, q1⟩ => ?_) hs
  exact store_ok I1 hN hi hx r1 (fun s2 I2 => ⟨_, H1, I2, q1⟩) hf
/-- a, b = x, y with plain local names: stored from the right; the pair itself is not tracked (the opening rows as in PyProof/Rows/TupAssign.lean:23) -/
def tPar (i j : Nat) (ta : TA) : TS := fun D σ H => ta σ H fun vs H1 => ∃ v w, vs = [v, w] ∧ D.nx ((σ.set i (some v)).set j (some w)) H1
theorem ps_par {i j : Nat} {x y : Str} {a b : Expr} {ta : TA} {px py pt : Pos} {kt k2 pt2} (hc : X.calm = true) (hN : X.N.Nodup) (hi : X.N[i]? = some x) (hj : X.N[j]? = some y) (hij : i ≠ j)
    (hx : X.env.scope.names.lookup x = some .local) (hy : X.env.scope.names.lookup y = some .local) (ha : PA X [a, b] ta)
    (hw : swappedStores [.Tuple [.Name x px, .Name y py] kt pt] (.Tuple [a, b] k2 pt2) X.env = pure (some [x, y]))
    (hs : swapsWithSole [.Tuple [.Name x px, .Name y py] kt pt] (.Tuple [a, b] k2 pt2) pos.line X.env = pure false := by rfl) :
    PS X (.Assign [.Tuple [.Name x px, .Name y py] kt pt] (.Tuple [a, b] k2 pt2) pos) (tPar i j ta) := by
  intro pins s σ H D I h
  rw [exec_Assign_arm]
  refine wpAny_bind (wpAny_standAt ?_)
  rw [hs]
  refine wpAny_bind (wpAny_pure ?_)
  rw [if_neg (by decide)]
  refine wpAny_bind (Tuple_ (thn (ha _ pins s σ H _ I h) fun us s1 ⟨vs, H1, I1, r1, q1⟩ => ?_))
  obtain ⟨v, w, e1, q1⟩ := q1
  subst e1
  obtain ⟨u1, u2, rfl, rv, rw'⟩ : ∃ u1 u2, us = [u1, u2] ∧ RelV v u1 ∧ RelV w u2 := by
    cases r1 with
    | cons p q =>
      cases q with
      | cons p' q' =>
        cases q'
        exact ⟨_, _, rfl, p, p'⟩
  refine wpAny_newObj_type ?_ (by show 2 ≤ sizeLine; decide)
  have I2 : Inv X pins σ H1 { s1 with heap := s1.heap.push { cls := .type "tuple", data := .seq [u1, u2].toArray } } := I1.kept (t' := s1.toks) fun b o e => Heap.get?_push_of_some _ e
  rw [hw]
  refine wpAny_bind (wpAny_pure ?_)
  show wpAny (model X.prog X.w) X.A (do rule "assign.swapped-stores"; let items ← unpackItems (.ref s1.heap.objs.size) 2 none; assignInOrder [fun v => bindName X.env y v, fun v => bindName X.env x v] items.reverse; pure Flow.next) _ _ _
  refine wpAny_bind (wpAny_rule (wpAny_bind (unpackItems_tuple (items := #[u1, u2]) (I.ok.hd hc) (IsTup.new s1.heap _) fun h' hx' => ?_)))
  have I3 := I2.kept (h' := h') (t' := s1.toks) fun b o e => hx' b o (Nat.ne_of_lt (Heap.lt_size e)) e
  show wpAny _ _ (assignInOrder [fun v => bindName X.env y v, fun v => bindName X.env x v] [u2, u1] >>= fun _ => pure Flow.next) _ _ _
  refine wpAny_bind (assignInOrder_cons (wpAny_bindName (store_ok I3 hN hj (.inl hy) rw' (fun s2 I4 => ?_) (.inr hy))))
  refine assignInOrder_cons (wpAny_bindName (store_ok I4 hN hi (.inl hx) rv (fun s3 I5 => assignInOrder_nil (wpAny_pure ?_)) (.inr hx)))
  rw [List.set_comm _ _ (Ne.symm hij)] at I5
  exact ⟨_, H1, I5, q1⟩
end

/-! ### while -/
section
variable {X : Cx} {pos : Pos}
/-- the invariant W with its measure -/
def tWhile (c : TT) (tb : TS) : TS := fun D σ H => ∃ W : Nat → St → Hp → Prop, (∃ m, W m σ H) ∧ ∀ m σ H, W m σ H →
  c σ H fun b H1 => if b = true then ∃ N : St → Hp → Prop, (∀ σ' H', N σ' H' → ∃ m', m' < m ∧ W m' σ' H') ∧ tb { D with nx := N, ct := N, bk := D.nx } σ H1 else D.nx σ H1
theorem ps_while {c : Expr} {body : List Stmt} {tc : TT} {tb : TS} (hp : PassesOwn (model X.prog X.w) X.A X.env X.xe) (hc : PT X c tc) (hb : PSs X body tb) : PS X (.While c body [] pos) (tWhile tc tb) := by
  intro pins s σ H D I h
  obtain ⟨W, ⟨m0, w0⟩, turn⟩ := h
  refine wpAny_While (codeAny_whileLoop (fun n s' => ∃ σ' H', Inv X pins σ' H' s' ∧ W n σ' H') ?_ m0 ⟨σ, H, I, w0⟩)
  rintro n s1 ⟨σ1, H1, I1, w1⟩
  refine wpAny_passesOwn hp (thn (hc pins s1 σ1 H1 _ I1 (turn n σ1 H1 w1)) fun b s2 ⟨H2, I2, q2⟩ => ?_)
  cases b with
  | true =>
    obtain ⟨N, hN, q2⟩ := q2
    rw [if_pos rfl]
    refine wpAny_passesOwn hp (thn (hb pins s2 σ1 H2 _ I2 q2) fun f s3 q3 => ?_)
    cases f with
    | next =>
      obtain ⟨σ3, H3, I3, n3⟩ := q3
      obtain ⟨m', hm, w3⟩ := hN σ3 H3 n3
      exact ⟨m', hm, σ3, H3, I3, w3⟩
    | cont =>
      obtain ⟨σ3, H3, I3, n3⟩ := q3
      obtain ⟨m', hm, w3⟩ := hN σ3 H3 n3
      exact ⟨m', hm, σ3, H3, I3, w3⟩
    | brk => exact q3
    | ret v => exact q3
  | false =>
    rw [if_neg Bool.false_ne_true]
    exact wpAny_execs_nil ⟨σ1, H2, I2, q2⟩
end

/-! ### what a loop or a comprehension walks -/
/-- at turn i: it yields x (the heap may grow), or it stops -/
structure It where
  go : Nat → Hp → Prop
  yld : Nat → Hp → V → Hp → Prop
  stop : Nat → Hp → Prop
/-- the iterator's own objects may turn: they are not the frame's, not pinned, younger than the entry (or a comprehension's own) -/
def FpOk (X : Cx) (pins : List (Addr × Obj)) (H : Hp) (b : Addr) : Prop :=
  H b = none ∧ b ≠ X.env.locals ∧ b ∉ X.fs ∧ (b ∈ X.ex ∨ X.s₀.heap.objs.size ≤ b) ∧ (∀ x c, X.env.cells.lookup x = some c → c ≠ b) ∧ ∀ p ∈ X.pn ++ pins, p.1 ≠ b
theorem Inv.fpOk {X : Cx} {pins : List (Addr × Obj)} {σ : St} {H H' : Hp} {s : Shared} {b : Addr} (I : Inv X pins σ H s) (hb : s.heap.objs.size ≤ b) (hn : H' b = none) : FpOk X pins H' b := by
  refine ⟨hn, Nat.ne_of_gt (Nat.lt_of_lt_of_le I.lt hb), I.nofs hb, .inr (Nat.le_trans I.sz hb), fun x c e z => ?_, fun p hp z => ?_⟩
  · obtain ⟨v, q⟩ := I.cell x c e
    exact absurd (Nat.lt_of_lt_of_le q.lt (by rw [z]; exact hb)) (Nat.lt_irrefl _)
  · exact absurd (Nat.lt_of_lt_of_le (Heap.lt_size (I.pin p hp).1) (by rw [z]; exact hb)) (Nat.lt_irrefl _)
structure Turn (P : Program) (w : World) (K : PySem.W.Frag) (tg : Expr) (J : It) (fp : List Addr) (it : Addr) (tn : Nat → Heap → Prop) : Prop where
  mem : it ∈ fp
  obj : ∀ i h, tn i h → ∀ b ∈ fp, ∃ o, h.get? b = some o ∧ ∀ v, o.data ≠ .cell v
  keep : ∀ i h h', tn i h → (∀ b ∈ fp, ∀ o, h.get? b = some o → h'.get? b = some o) → tn i h'
  item : ∀ (X : Cx), X.prog = P → X.w = w → X.K = K → X.calm = true → ∀ (i : Nat) (pins : List (Addr × Obj)) (s : Shared) (σ : St) (H : Hp) (E : Value → Shared → Prop), Inv X pins σ H s → (∀ b ∈ fp, FpOk X pins H b) → tn i s.heap → J.go i H →
    wpAny (model P w) X.A (pyNext (.ref it)) (fun r s1 => ∃ u, r = some u ∧
      wpAny (model P w) X.A (letOwnedTupleGo tg (.ref it) u) (fun _ s2 => ∃ x H', Inv X pins σ H' s2 ∧ RelV x u ∧ J.yld i H x H' ∧ tn (i + 1) s2.heap ∧ ∀ b ∈ fp, H' b = none) E s1) E s
  done : ∀ (X : Cx), X.prog = P → X.w = w → X.K = K → X.calm = true → ∀ (i : Nat) (pins : List (Addr × Obj)) (s : Shared) (σ : St) (H : Hp) (E : Value → Shared → Prop), Inv X pins σ H s → (∀ b ∈ fp, FpOk X pins H b) → tn i s.heap → J.stop i H →
    wpAny (model P w) X.A (pyNext (.ref it)) (fun r s1 => r = none ∧ Inv X pins σ H s1) E s
  self : ∀ (A : Around) (i : Nat) (s : Shared) (Q : Value → Shared → Prop) (E : Value → Shared → Prop), tn i s.heap → Q (.ref it) s → wpAny (model P w) A (pyIter (.ref it)) Q E s
abbrev TI := St → Hp → (It → Hp → Prop) → Prop
/-- an iterator has come -/
def PIE (X : Cx) (pins : List (Addr × Obj)) (σ : St) (tg : Expr) (R : It → Hp → Prop) (itv : Value) (s2 : Shared) : Prop :=
  ∃ (it : Addr) (fp : List Addr) (tn : Nat → Heap → Prop) (J : It) (H' : Hp), itv = .ref it ∧ Inv X pins σ H' s2 ∧ Turn X.prog X.w X.K tg J fp it tn ∧ tn 0 s2.heap ∧ (∀ b ∈ fp, FpOk X pins H' b) ∧ R J H'
def PI (X : Cx) (tg iter : Expr) (wi : TI) : Prop :=
  ∀ (pins : List (Addr × Obj)) (s : Shared) (σ : St) (H : Hp) (R : It → Hp → Prop), Inv X pins σ H s → wi σ H R →
    wpAny (model X.prog X.w) X.A (eval iter X.env) (fun v s1 => wpAny (model X.prog X.w) X.A (pyIter v) (PIE X pins σ tg R) X.xe s1) X.xe s

/-- the step ahead of the store is nothing for an iterator that keeps no tuple -/
theorem go_of {M : Model} {A : Around} {E : Value → Shared → Prop} {s : Shared} {tg : Expr} {it : Addr} {u : Value} {o : Obj} {n : String} {vs : Array Value} {Q : Unit → Shared → Prop} (ho : s.heap.get? it = some o) (hc : o.cls = .type n) (hd : o.data = .fields vs)
    (hn : ["enumerate", "zip", "dict_itemiterator", "dict_reverseitemiterator", "odict_iterator", "itertools.zip_longest", "itertools.pairwise"].contains n = false) (hQ : Q () s) : wpAny M A (letOwnedTupleGo tg (.ref it) u) Q E s := by
  unfold letOwnedTupleGo
  cases tg <;> first
    | exact wpAny_pure hQ
    | (cases u <;> first
        | exact wpAny_pure hQ
        | (refine wpAny_bind (wpAny_load ho ?_)
           rw [hc, hd]
           show wpAny M A (if (["enumerate", "zip", "dict_itemiterator", "dict_reverseitemiterator", "odict_iterator", "itertools.zip_longest", "itertools.pairwise"].contains n && vs[0]? == some (rawInt _)) = true then _ else _) Q E s
           rw [if_neg (by intro h; rw [hn, Bool.false_and] at h; cases h)]
           exact wpAny_pure hQ))

/-- the list at a, as it stands at each turn (a loop may append to it) -/
def Itl (K : PySem.W.Frag) (a : Addr) : It :=
  ⟨fun i H => ∃ xs x, SqL K H a xs ∧ xs[i]? = some x, fun i H x H' => H' = H ∧ ∀ xs, SqL K H a xs → xs[i]? = some x, fun i H => ∃ xs, SqL K H a xs ∧ xs.length ≤ i⟩
/-- lo, lo + 1, .. (n of them) -/
def Itr (lo : Int) (n : Nat) : It := ⟨fun i _ => i < n, fun i H x H' => H' = H ∧ x = .int (lo + i), fun i _ => n ≤ i⟩
theorem turn_list {P : Program} {w : World} {K : PySem.W.Frag} {tg : Expr} (a it : Addr) : Turn P w K tg (Itl K a) [it] it (fun i h => h.IsListIter it a i) where
  mem := by simp
  obj := fun i h st b hb => by
    have e : b = it := by simpa using hb
    subst e
    obtain ⟨o, e, c, d⟩ := st
    exact ⟨o, e, fun v z => by rw [d] at z; cases z⟩
  keep := fun i h h' st k => st.at fun o e => k it (by simp) o e
  item := by
    intro X hP hw hK hc i pins s σ H E I hf st hg
    subst hP hw hK
    obtain ⟨xs, x, hq, hx⟩ := hg
    obtain ⟨its, rv, p, hz⟩ := I.list hq
    obtain ⟨u, hu, ru⟩ := rv.get hx
    obtain ⟨f0, f1, f2, f3, f4, f5⟩ := hf it (by simp)
    refine wpAny_pyNext_list_item st p.isList (x := u) (by simpa using hu) fun h' st' sb => ?_
    have I1 : Inv X pins σ H { s with heap := h' } := I.turned (t' := s.toks) (fun b o hb e => (sb.2 b hb).trans e) f0 f1 f3 f4 f5
    obtain ⟨o, e, c, d⟩ := id st'
    exact ⟨u, rfl, go_of (s := { s with heap := h' }) e c d (by decide) ⟨x, H, I1, ru, ⟨rfl, fun ys hy => by rw [I.list_inj hy hq]; exact hx⟩, st', fun b hb => (hf b hb).1⟩⟩
  done := by
    intro X hP hw hK hc i pins s σ H E I hf st hg
    subst hP hw hK
    obtain ⟨xs, hq, hx⟩ := hg
    obtain ⟨its, rv, p, hz⟩ := I.list hq
    obtain ⟨f0, f1, f2, f3, f4, f5⟩ := hf it (by simp)
    have hl := rv.length
    exact wpAny_pyNext_list_end (I.ok.hd hc) st p.isList (by simp; omega) fun h' eb => ⟨rfl, I.turned (t' := s.toks) (fun b o hb e => eb b o hb e) f0 f1 f3 f4 f5⟩
  self := fun _ _ _ _ _ st h => wpAny_pyIter_listiter st h
theorem turn_range {P : Program} {w : World} {K : PySem.W.Frag} {tg : Expr} (it : Addr) (lo : Int) (n : Nat) : Turn P w K tg (Itr lo n) [it] it (fun i h => IsRangeIter h it (lo + (i : Nat) * 1) ((n : Int) - (i : Nat)) 1) where
  mem := by simp
  obj := fun i h st b hb => by
    have e : b = it := by simpa using hb
    subst e
    exact ⟨_, st, fun v z => by
      have z' : Data.fields _ = Data.cell v := z
      cases z'⟩
  keep := fun i h h' st k => k it (by simp) _ st
  item := by
    intro X hP hw hK hc i pins s σ H E I hf st hg
    subst hP hw hK
    obtain ⟨f0, f1, f2, f3, f4, f5⟩ := hf it (by simp)
    have W := Walks.range (prog := X.prog) (w := X.w) (I.ok.hd hc) it lo 1 n
    refine W.item i s _ _ hg st fun v h' tk hv st' kk => ?_
    obtain ⟨t, rfl⟩ := hv
    have I1 : Inv X pins σ H { s with heap := h', toks := tk } := I.turned (fun b o hb e => kk b o (by simpa using hb) e) f0 f1 f3 f4 f5
    refine ⟨_, rfl, go_of (s := { s with heap := h', toks := tk }) (n := "range_iterator") st' rfl rfl (by decide) ⟨.int (lo + i), H, I1, ⟨t, ?_⟩, ⟨rfl, rfl⟩, st', fun b hb => (hf b hb).1⟩⟩
    rw [Int.mul_one]
  done := by
    intro X hP hw hK hc i pins s σ H E I hf st hg
    subst hP hw hK
    obtain ⟨f0, f1, f2, f3, f4, f5⟩ := hf it (by simp)
    exact wpAny_pyNext_range_end (I.ok.hd hc) st (by have : n ≤ i := hg; omega) fun h' eb => ⟨rfl, I.turned (t' := s.toks) (fun b o hb e => eb b o hb e) f0 f1 f3 f4 f5⟩
  self := fun _ _ _ _ _ st h => wpAny_pyIter_rangeiter st h
end L2

namespace L2
open PySem PySem.Spec PyProof.Rows
section
variable {X : Cx} {tg : Expr}
def iList (K : PySem.W.Frag) (tl : TE) : TI := fun σ H R => tl σ H fun x H1 => ∃ a, x = .ref a ∧ (∃ xs, SqL K H1 a xs) ∧ R (Itl K a) H1
theorem pi_list {l : Expr} {tl : TE} (hl : PE X l tl) : PI X tg l (iList X.K tl) := by
  intro pins s σ H R I h
  refine thn (hl pins s σ H _ I h) fun v s1 ⟨x, H1, I1, r1, q1⟩ => ?_
  obtain ⟨a, e, ⟨xs, hq⟩, q⟩ := q1
  subst e
  cases r1
  obtain ⟨its, rv, p, hz⟩ := I1.list hq
  refine wpAny_pyIter_list p.isList ?_
  refine ⟨s1.heap.objs.size, [s1.heap.objs.size], _, _, H1, rfl, I1.kept (t' := s1.toks) fun b o e => Heap.get?_push_of_some _ e, turn_list a _, ⟨_, Heap.get?_push_size _ rfl, rfl, rfl⟩, fun b hb => ?_, q⟩
  have e : b = s1.heap.objs.size := by simpa using hb
  subst e
  exact I1.fpOk (Nat.le_refl _) (I1.hok.fresh (Nat.le_refl _))
/-- a range object just made, walked -/
theorem range_it {pins : List (Addr × Obj)} {σ : St} {H : Hp} {s : Shared} {R : It → Hp → Prop} {E : Value → Shared → Prop} {lo hi : Int} {t u v : Tok} {tk : Nat} (I : Inv X pins σ H s) (h1 : -(2 ^ 62) ≤ lo) (h2 : lo < 2 ^ 62) (h3 : -(2 ^ 62) ≤ hi) (h4 : hi < 2 ^ 62)
    (q : R (Itr lo (hi - lo).toNat) H) : wpAny (model X.prog X.w) X.A (pyIter (.ref s.heap.objs.size)) (PIE X pins σ tg R) E { s with heap := s.heap.push { cls := .type "range", data := .fields #[.int lo t, .int hi u, .int 1 v] }, toks := tk } := by
  refine wpAny_pyIter_range (IsRange.new ..) (small_one h1 h2 h3 h4) ?_
  have I1 : Inv X pins σ H { s with heap := s.heap.push { cls := .type "range", data := .fields #[.int lo t, .int hi u, .int 1 v] }, toks := tk } := I.kept fun b o e => Heap.get?_push_of_some _ e
  refine ⟨(s.heap.push { cls := .type "range", data := .fields #[.int lo t, .int hi u, .int 1 v] }).objs.size, [(s.heap.push { cls := .type "range", data := .fields #[.int lo t, .int hi u, .int 1 v] }).objs.size], _, _, H, rfl,
    I1.kept (t' := tk) fun b o e => Heap.get?_push_of_some _ e, turn_range _ lo (hi - lo).toNat, ?_, fun b hb => ?_, q⟩
  · have e1 : lo + ((0 : Nat) : Int) * 1 = lo := by simp
    have e2 : (((hi - lo).toNat : Nat) : Int) - ((0 : Nat) : Int) = Builtin.Range.rangeSize lo hi 1 := by rw [rangeSize_one]; split <;> omega
    show IsRangeIter _ _ (lo + ((0 : Nat) : Int) * 1) ((((hi - lo).toNat : Nat) : Int) - ((0 : Nat) : Int)) 1
    rw [e1, e2]
    exact Heap.get?_push_size _ rfl
  · have e : b = (s.heap.push { cls := .type "range", data := .fields #[.int lo t, .int hi u, .int 1 v] }).objs.size := by simpa using hb
    subst e
    exact I1.fpOk (Nat.le_refl _) (I1.hok.fresh (Nat.le_refl _))
def iRng1 (ta : TA) : TI := fun σ H R => ta σ H fun vs H1 => ∃ j : Int, vs = [.int j] ∧ -(2 ^ 62) ≤ j ∧ j < 2 ^ 62 ∧ R (Itr 0 j.toNat) H1
def iRng2 (ta : TA) : TI := fun σ H R => ta σ H fun vs H1 => ∃ i j : Int, vs = [.int i, .int j] ∧ (-(2 ^ 62) ≤ i ∧ i < 2 ^ 62 ∧ -(2 ^ 62) ≤ j ∧ j < 2 ^ 62) ∧ R (Itr i (j - i).toNat) H1
theorem pi_range1 {a : Expr} {ta : TA} {p pos : Pos} (hg : Gl X "range") (hm : X.mg "range" = none) (ha : PA X [a] ta) (hs : starEach [a] X.env = [(false, eval a X.env)] := by rfl) : PI X tg (.Call (.Name "range" p) [a] [] pos) (iRng1 ta) := by
  intro pins s σ H R I h
  refine Call_ (ld_blt I hg hm boot_range (PyProof.Rows.callWith_type1 (thn (ha pos pins s σ H _ I h) fun us s1 ⟨vs, H1, I1, r1, q1⟩ => ?_) hs rfl))
  obtain ⟨j, e, q1, q2, q⟩ := q1
  subst e
  cases r1 with
  | cons r rr =>
    cases rr
    obtain ⟨t, rfl⟩ := r
    exact call_range_1 (range_it I1 (by omega) (by omega) q1 q2 (by simpa using q))
theorem pi_range2 {a b : Expr} {ta : TA} {p pos : Pos} (hg : Gl X "range") (hm : X.mg "range" = none) (ha : PA X [a, b] ta) (hs : starEach [a, b] X.env = [(false, eval a X.env), (false, eval b X.env)] := by rfl) (hs2 : starEach [b] X.env = [(false, eval b X.env)] := by rfl) :
    PI X tg (.Call (.Name "range" p) [a, b] [] pos) (iRng2 ta) := by
  intro pins s σ H R I h
  refine Call_ (ld_blt I hg hm boot_range (PyProof.Rows.callWith_type1 (thn (ha pos pins s σ H _ I h) fun us s1 ⟨vs, H1, I1, r1, q1⟩ => ?_) (by rw [hs, hs2]) (by rw [hs2]; rfl)))
  obtain ⟨i, j, e, ⟨q1, q2, q3, q4⟩, q⟩ := q1
  subst e
  cases r1 with
  | cons r rr =>
    cases rr with
    | cons r' rr =>
      cases rr
      obtain ⟨t, rfl⟩ := r
      obtain ⟨t', rfl⟩ := r'
      exact call_range_2 (range_it I1 q1 q2 q3 q4 q)

/-! ### for -/
/-- W: the invariant by the turn and a measure; N: what the body is to reach -/
def tFor (wi : TI) (g : TG) (tb : TS) : TS := fun D σ H => wi σ H fun J H1 => ∃ W : Nat → Nat → St → Hp → Prop, (∃ m, W 0 m σ H1) ∧ ∀ i m σ H, W i m σ H →
  (J.stop i H ∧ D.nx σ H) ∨ (J.go i H ∧ ∃ N : St → Hp → Prop, (∀ σ' H', N σ' H' → ∃ m', m' < m ∧ W (i + 1) m' σ' H') ∧ ∀ x H', J.yld i H x H' → g x σ H' fun σ2 H2 => tb { D with nx := N, ct := N, bk := D.nx } σ2 H2)
/-- the records at fp as they stand -/
def pinsAt (fp : List Addr) (h : Heap) : List (Addr × Obj) := fp.filterMap fun b => (h.get? b).map fun o => (b, o)
theorem mem_pinsAt {fp : List Addr} {h : Heap} {b : Addr} {o : Obj} (hb : b ∈ fp) (e : h.get? b = some o) : (b, o) ∈ pinsAt fp h := List.mem_filterMap.mpr ⟨b, hb, by rw [e]; rfl⟩
theorem of_pinsAt {fp : List Addr} {h : Heap} {p : Addr × Obj} (hp : p ∈ pinsAt fp h) : p.1 ∈ fp ∧ h.get? p.1 = some p.2 := by
  obtain ⟨b, hb, e⟩ := List.mem_filterMap.mp hp
  cases q : h.get? b with
  | none => rw [q] at e; cases e
  | some o =>
    rw [q] at e
    have e' : (b, o) = p := Option.some.inj e
    subst e'
    exact ⟨hb, q⟩
theorem Inv.pinned {pins : List (Addr × Obj)} {σ : St} {H : Hp} {s : Shared} {fp : List Addr} (I : Inv X pins σ H s) (hf : ∀ b ∈ fp, FpOk X pins H b) (ho : ∀ b ∈ fp, ∃ o, s.heap.get? b = some o ∧ ∀ v, o.data ≠ .cell v) : Inv X (pins ++ pinsAt fp s.heap) σ H s :=
  I.pins_of fun p hp => (List.mem_append.mp hp).elim (fun z => I.pin p (List.mem_append_right _ z)) fun z => by
    obtain ⟨hb, e⟩ := of_pinsAt z
    obtain ⟨f0, f1, f2, _⟩ := hf p.1 hb
    obtain ⟨o, e', d⟩ := ho p.1 hb
    rw [e] at e'; cases e'
    exact ⟨e, f0, f1, f2, d⟩
theorem Inv.unpinned {pins pl : List (Addr × Obj)} {σ : St} {H : Hp} {s : Shared} (I : Inv X (pins ++ pl) σ H s) : Inv X pins σ H s := I.pins_of fun p hp => I.pin p (List.mem_append_right _ (List.mem_append_left _ hp))
theorem ps_for {iter : Expr} {body : List Stmt} {wi : TI} {g : TG} {tb : TS} {pos : Pos} (hp : PassesOwn (model X.prog X.w) X.A X.env X.xe) (hc : X.calm = true) (hi : PI X tg iter wi) (hg : PG X tg g) (hb : PSs X body tb)
    (hs : ∀ x, foldedSetIterable iter X.env x = pure x := by intro _; rfl) : PS X (.For tg iter body [] pos) (tFor wi g tb) := by
  intro pins s σ H D I h
  refine wpAny_For (thn (hi pins s σ H _ I h) fun v s1 h1 => thn h1 fun itv s2 h2 => ?_) hs
  obtain ⟨it, fp, tn, J, H2, e, I2, T, st2, f2, W, ⟨m0, w0⟩, turn⟩ := h2
  subst e
  -- what stays true of the iterator's objects through the loop
  have stat : ∀ {H' : Hp}, (∀ b ∈ fp, H' b = none) → ∀ b ∈ fp, FpOk X pins H' b := fun hn b hb => ⟨hn b hb, (f2 b hb).2⟩
  refine codeAny_forLoop_any (fun n s' => ∃ i σ' H', Inv X pins σ' H' s' ∧ tn i s'.heap ∧ (∀ b ∈ fp, H' b = none) ∧ W i n σ' H') ?_ m0 ⟨0, σ, H2, I2, st2, fun b hb => (f2 b hb).1, w0⟩
  rintro n s3 ⟨i, σ3, H3, I3, st3, fr3, w3⟩
  rcases turn i n σ3 H3 w3 with ⟨stop, qn⟩ | ⟨go, N, hN, step⟩
  · refine wpAny_passesOwn hp (thn (T.done X rfl rfl rfl hc i pins s3 σ3 H3 X.xe I3 (stat fr3) st3 stop) fun r s4 ⟨hr, I4⟩ => ?_)
    subst hr
    exact wpAny_execs_nil ⟨σ3, H3, I4, qn⟩
  · refine wpAny_passesOwn hp (thn (T.item X rfl rfl rfl hc i pins s3 σ3 H3 X.xe I3 (stat fr3) st3 go) fun r s4 ⟨u, hr, h4⟩ => ?_)
    subst hr
    refine wpAny_passesOwn hp (thn h4 fun _ s5 ⟨x, H5, I5, r5, y5, st5, fr5⟩ => ?_)
    have I5' := I5.pinned (stat fr5) (T.obj _ _ st5)
    refine wpAny_passesOwn hp (thn (hg _ s5 σ3 H5 x u _ I5' r5 (step x H5 y5)) fun _ s6 ⟨σ6, H6, I6, q6⟩ => ?_)
    refine wpAny_passesOwn hp (thn (hb _ s6 σ6 H6 _ I6 q6) fun f s7 q7 => ?_)
    have again : ∀ {σ7 : St} {H7 : Hp}, Inv X (pins ++ pinsAt fp s5.heap) σ7 H7 s7 → N σ7 H7 → ∃ m, m < n ∧ ∃ i σ' H', Inv X pins σ' H' s7 ∧ tn i s7.heap ∧ (∀ b ∈ fp, H' b = none) ∧ W i m σ' H' := fun {σ7 H7} I7 n7 => by
      obtain ⟨m', hm, w7⟩ := hN σ7 H7 n7
      refine ⟨m', hm, i + 1, σ7, H7, I7.unpinned, T.keep _ _ _ st5 fun b hb o e => (I7.pin (b, o) (List.mem_append_right _ (List.mem_append_right _ (mem_pinsAt hb e)))).1, fun b hb => ?_, w7⟩
      obtain ⟨o, e, d⟩ := T.obj _ _ st5 b hb
      exact (I7.pin (b, o) (List.mem_append_right _ (List.mem_append_right _ (mem_pinsAt hb e)))).2.1
    cases f with
    | next => obtain ⟨σ7, H7, I7, n7⟩ := q7; exact again I7 n7
    | cont => obtain ⟨σ7, H7, I7, n7⟩ := q7; exact again I7 n7
    | brk => obtain ⟨σ7, H7, I7, q7⟩ := q7; exact ⟨σ7, H7, I7.unpinned, q7⟩
    | ret v => obtain ⟨x7, σ7, H7, I7, r7, q7⟩ := q7; exact ⟨x7, σ7, H7, I7.unpinned, r7, q7⟩
end

/-! ### the forms one uses -/
/-- over a list that the body leaves as it is -/
theorem for_list {K : PySem.W.Frag} {a : Addr} {xs : List V} {g : TG} {tb : TS} {D : Ends} {σ : St} {H : Hp} (Pv : Nat → St → Hp → Prop) (h0 : Pv 0 σ H) (hl : ∀ i σ H, i ≤ xs.length → Pv i σ H → SqL K H a xs)
    (hs : ∀ i x σ H, xs[i]? = some x → Pv i σ H → g x σ H fun σ2 H2 => tb { D with nx := Pv (i + 1), ct := Pv (i + 1), bk := D.nx } σ2 H2) (hd : ∀ σ H, Pv xs.length σ H → D.nx σ H) :
    ∃ W : Nat → Nat → St → Hp → Prop, (∃ m, W 0 m σ H) ∧ ∀ i m σ H, W i m σ H →
      ((Itl K a).stop i H ∧ D.nx σ H) ∨ ((Itl K a).go i H ∧ ∃ N : St → Hp → Prop, (∀ σ' H', N σ' H' → ∃ m', m' < m ∧ W (i + 1) m' σ' H') ∧ ∀ x H', (Itl K a).yld i H x H' → g x σ H' fun σ2 H2 => tb { D with nx := N, ct := N, bk := D.nx } σ2 H2) := by
  refine ⟨fun i m σ H => m = xs.length - i ∧ i ≤ xs.length ∧ Pv i σ H, ⟨xs.length, by simp, Nat.zero_le _, h0⟩, ?_⟩
  rintro i m σ H ⟨rfl, hi, p⟩
  have q := hl i σ H hi p
  by_cases hlt : i < xs.length
  · refine .inr ⟨⟨xs, xs[i], q, by simp [hlt]⟩, Pv (i + 1), fun σ' H' p' => ⟨xs.length - (i + 1), by omega, rfl, hlt, p'⟩, fun x H' y => ?_⟩
    obtain ⟨e, y⟩ := y
    subst e
    exact hs i x σ _ (y xs q) p
  · have e : i = xs.length := by omega
    subst e
    exact .inl ⟨⟨xs, q, Nat.le_refl _⟩, hd σ H p⟩
theorem for_range {lo : Int} {n : Nat} {g : TG} {tb : TS} {D : Ends} {σ : St} {H : Hp} (Pv : Nat → St → Hp → Prop) (h0 : Pv 0 σ H)
    (hs : ∀ i σ H, i < n → Pv i σ H → g (.int (lo + i)) σ H fun σ2 H2 => tb { D with nx := Pv (i + 1), ct := Pv (i + 1), bk := D.nx } σ2 H2) (hd : ∀ σ H, Pv n σ H → D.nx σ H) :
    ∃ W : Nat → Nat → St → Hp → Prop, (∃ m, W 0 m σ H) ∧ ∀ i m σ H, W i m σ H →
      ((Itr lo n).stop i H ∧ D.nx σ H) ∨ ((Itr lo n).go i H ∧ ∃ N : St → Hp → Prop, (∀ σ' H', N σ' H' → ∃ m', m' < m ∧ W (i + 1) m' σ' H') ∧ ∀ x H', (Itr lo n).yld i H x H' → g x σ H' fun σ2 H2 => tb { D with nx := N, ct := N, bk := D.nx } σ2 H2) := by
  refine ⟨fun i m σ H => m = n - i ∧ i ≤ n ∧ Pv i σ H, ⟨n, by simp, Nat.zero_le _, h0⟩, ?_⟩
  rintro i m σ H ⟨rfl, hi, p⟩
  by_cases hlt : i < n
  · refine .inr ⟨hlt, Pv (i + 1), fun σ' H' p' => ⟨n - (i + 1), by omega, rfl, hlt, p'⟩, fun x H' y => ?_⟩
    obtain ⟨e, y⟩ := y
    subst e y
    exact hs i σ _ hlt p
  · have e : i = n := by omega
    subst e
    exact .inl ⟨Nat.le_refl _, hd σ H p⟩
/-- while, by a word and a measure of the state -/
theorem while_by {c : TT} {tb : TS} {D : Ends} {σ : St} {H : Hp} (Pv : St → Hp → Prop) (μ : St → Hp → Nat) (h0 : Pv σ H)
    (hs : ∀ σ H, Pv σ H → c σ H fun b H1 => if b = true then tb { D with nx := fun σ' H' => Pv σ' H' ∧ μ σ' H' < μ σ H, ct := fun σ' H' => Pv σ' H' ∧ μ σ' H' < μ σ H, bk := D.nx } σ H1 else D.nx σ H1)
    (mono : ∀ σ H Q Q', (∀ b H1, Q b H1 → Q' b H1) → c σ H Q → c σ H Q') : tWhile c tb D σ H := by
  refine ⟨fun m σ H => m = μ σ H ∧ Pv σ H, ⟨_, rfl, h0⟩, ?_⟩
  rintro m σ H ⟨rfl, p⟩
  refine mono σ H _ _ (fun b H1 q => ?_) (hs σ H p)
  cases b with
  | true => exact ⟨_, fun σ' H' ⟨p', l⟩ => ⟨_, l, rfl, p'⟩, q⟩
  | false => exact q
end L2

namespace L2
open PySem PySem.Spec PyProof.Rows

abbrev R2 := V → V → Hp → VK → Prop
/-- a two-place operation on values: f is binaryOp op, inplaceOp op or compareOp op -/
def OpR (X : Cx) (f : Value → Value → Sem Value) (r : R2) : Prop :=
  ∀ (pins : List (Addr × Obj)) (s : Shared) (σ : St) (H : Hp) (x y : V) (v u : Value) (Q : VK), Inv X pins σ H s → RelV x v → RelV y u → r x y H Q →
    wpAny (model X.prog X.w) X.A (f v u) (EP X pins σ Q) X.xe s
/-- a call of a value that is known (a builtin, a type) with values -/
def CallR (X : Cx) (f : Value) (r : List V → Hp → VK → Prop) : Prop :=
  ∀ (pins : List (Addr × Obj)) (s : Shared) (σ : St) (H : Hp) (xs : List V) (us : List Value) (Q : VK), Inv X pins σ H s → Vals xs us → r xs H Q →
    wpAny (model X.prog X.w) X.A (call f us) (EP X pins σ Q) X.xe s

def tOp (r : R2) (ta tb : TE) : TE := fun σ H Q => ta σ H fun x H1 => tb σ H1 fun y H2 => r x y H2 Q
/-- ints in, under C, and a value out -/
def rI (C : Int → Int → Prop) (g : Int → Int → V) : R2 := fun x y H Q => ∃ i j, x = .int i ∧ y = .int j ∧ C i j ∧ Q (g i j) H
def rI0 (g : Int → Int → V) : R2 := fun x y H Q => ∃ i j, x = .int i ∧ y = .int j ∧ Q (g i j) H

section
variable {X : Cx} {a b c : Expr} {ta tb tc : TE} {pos : Pos}

theorem binT (ha : PE X a ta) (hb : PE X b tb) {pins : List (Addr × Obj)} {s : Shared} {σ : St} {H : Hp} {R : V → V → Hp → Prop} (I : Inv X pins σ H s)
    (h : ta σ H fun x H1 => tb σ H1 fun y H2 => R x y H2) {Q : Value → Shared → Prop} {f : Value → Value → Sem Value}
    (hf : ∀ v u s2 x y H2, Inv X pins σ H2 s2 → RelV x v → RelV y u → R x y H2 → wpAny (model X.prog X.w) X.A (f v u) Q X.xe s2) :
    wpAny (model X.prog X.w) X.A (eval a X.env) (fun v s₁ => wpAny (model X.prog X.w) X.A (eval b X.env) (fun u s₂ => wpAny (model X.prog X.w) X.A (f v u) Q X.xe s₂) X.xe s₁) X.xe s := by
  refine thn (ha pins s σ H _ I h) fun v s1 ⟨x, H1, I1, r1, q1⟩ => ?_
  refine thn (hb pins s1 σ H1 _ I1 q1) fun u s2 ⟨y, H2, I2, r2, q2⟩ => ?_
  exact hf v u s2 x y H2 I2 r1 r2 q2

theorem pe_op {op : Operator} {r : R2} (ho : OpR X (binaryOp op) r) (ha : PE X a ta) (hb : PE X b tb) : PE X (.BinOp a op b pos) (tOp r ta tb) := by
  intro pins s σ H Q I h
  exact wpAny_BinOp (binT ha hb I h fun v u s2 x y H2 I2 rx ry q => ho pins s2 σ H2 x y v u Q I2 rx ry q)

/-! ### ints -/
theorem opI {f : Value → Value → Sem Value} {C : Int → Int → Prop} {g : Int → Int → Int}
    (rule : ∀ (i j : Int) (t u : Tok) (s : Shared) (Q : Value → Shared → Prop) (E : Value → Shared → Prop), C i j → Q (.int (g i j) s.toks) { s with toks := s.toks + 1 } → wpAny (model X.prog X.w) X.A (f (.int i t) (.int j u)) Q E s) :
    OpR X f (rI C fun i j => .int (g i j)) := by
  intro pins s σ H x y v u Q I rx ry h
  obtain ⟨i, j, rfl, rfl, hc, q⟩ := h
  obtain ⟨t, rfl⟩ := rx
  obtain ⟨t', rfl⟩ := ry
  exact rule i j t t' s _ _ hc ⟨.int (g i j), H, I.tok _, ⟨_, rfl⟩, q⟩
theorem opI0 {f : Value → Value → Sem Value} {g : Int → Int → Int}
    (rule : ∀ (i j : Int) (t u : Tok) (s : Shared) (Q : Value → Shared → Prop) (E : Value → Shared → Prop), Q (.int (g i j) s.toks) { s with toks := s.toks + 1 } → wpAny (model X.prog X.w) X.A (f (.int i t) (.int j u)) Q E s) :
    OpR X f (rI0 fun i j => .int (g i j)) := by
  intro pins s σ H x y v u Q I rx ry h
  obtain ⟨i, j, rfl, rfl, q⟩ := h
  obtain ⟨t, rfl⟩ := rx
  obtain ⟨t', rfl⟩ := ry
  exact rule i j t t' s _ _ ⟨.int (g i j), H, I.tok _, ⟨_, rfl⟩, q⟩
theorem opB0 {f : Value → Value → Sem Value} {g : Int → Int → Bool}
    (rule : ∀ (i j : Int) (t u : Tok) (s : Shared) (Q : Value → Shared → Prop) (E : Value → Shared → Prop), Q (.bool (g i j)) s → wpAny (model X.prog X.w) X.A (f (.int i t) (.int j u)) Q E s) :
    OpR X f (rI0 fun i j => .bl (g i j)) := by
  intro pins s σ H x y v u Q I rx ry h
  obtain ⟨i, j, rfl, rfl, q⟩ := h
  obtain ⟨t, rfl⟩ := rx
  obtain ⟨t', rfl⟩ := ry
  exact rule i j t t' s _ _ ⟨.bl (g i j), H, I, rfl, q⟩

def CPow (i j : Int) : Prop := 0 ≤ j ∧ j ≤ 1000000 ∧ i.natAbs < 2 ^ 64
def CMul (i j : Int) : Prop := (-(2 ^ 64) < i ∧ i < 2 ^ 64) ∨ (-(2 ^ 64) < j ∧ j < 2 ^ 64)
theorem CMul.ok {i j : Int} (h : CMul i j) : IntMulOk i j := by
  rcases h with ⟨h1, h2⟩ | ⟨h1, h2⟩
  · exact .of_left (intBits_le_64 h1 h2)
  · exact .of_right (intBits_le_64 h1 h2)

theorem op_add : OpR X (binaryOp .Add) (rI0 fun i j => .int (i + j)) := opI0 fun _ _ _ _ _ _ _ q => add_int q
theorem op_sub : OpR X (binaryOp .Sub) (rI0 fun i j => .int (i - j)) := opI0 fun _ _ _ _ _ _ _ q => sub_int q
/-- % by a positive divisor of any size -/
theorem op_mod : OpR X (binaryOp .Mod) (rI (fun _ j => 0 < j) fun i j => .int (i % j)) := opI fun i j _ _ _ _ _ hc q => by
  have h1 : (0 : Int) < j := hc
  exact mod_int' (by omega) (by rw [Int.fmod_eq_emod_of_nonneg i (by omega)]; exact q)
theorem op_pow : OpR X (binaryOp .Pow) (rI CPow fun i j => .int (i ^ j.toNat)) := opI fun _ _ _ _ _ _ _ hc q => pow_int_small hc.1 hc.2.1 hc.2.2 q



/-! ### bools among ints: n += (a < b) -/
end

/-! ### comparisons -/
/-- the scalars that == tells apart as data does -/
def scal : V → V → Bool
  | .non, .non => true | .non, .int _ => true | .int _, .non => true | .non, .bl _ => true | .bl _, .non => true | .non, .str _ => true | .str _, .non => true
  | .int _, .int _ => true | .bl _, .bl _ => true | .str _, .str _ => true | .byt _, .byt _ => true
  | .int _, .str _ => true | .str _, .int _ => true | .bl _, .str _ => true | .str _, .bl _ => true
  | _, _ => false
def rEq : R2 := fun x y H Q => scal x y = true ∧ Q (.bl (decide (x = y))) H
def rNe : R2 := fun x y H Q => scal x y = true ∧ Q (.bl (!decide (x = y))) H

theorem dec_int {i j : Int} : decide (V.int i = V.int j) = (i == j) := by
  rw [Bool.eq_iff_iff]
  simp
theorem dec_bl {i j : Bool} : decide (V.bl i = V.bl j) = (i == j) := by
  rw [Bool.eq_iff_iff]
  simp
theorem dec_str {i j : Str} : decide (V.str i = V.str j) = (i == j) := by
  rw [Bool.eq_iff_iff]
  simp
theorem dec_byt {i j : Array UInt8} : decide (V.byt i = V.byt j) = (i.toList == j.toList) := by
  rw [Bool.eq_iff_iff]
  cases i
  cases j
  simp

section
variable {X : Cx} {a b c : Expr} {ta tb tc : TE} {pos : Pos}
theorem fin_bl {pins : List (Addr × Obj)} {σ : St} {H : Hp} {s : Shared} {Q : VK} {k k' : Bool} (I : Inv X pins σ H s) (q : Q (.bl k) H) (e : k = k') : EP X pins σ Q (.bool k') s := by
  subst e
  exact ⟨.bl k, H, I, rfl, q⟩
theorem op_eq : OpR X (compareOp .Eq) rEq := by
  intro pins s σ H x y v u Q I rx ry h
  obtain ⟨hs, q⟩ := h
  cases x with
  | non =>
    cases rx
    cases y with
    | non => cases ry; exact PySem.EqNone.eq_none_none (fin_bl I q (by simp))
    | bl j => cases ry; exact PySem.EqNone.eq_none_bool (fin_bl I q (by simp))
    | int j => obtain ⟨t', rfl⟩ := ry; exact PySem.EqNone.eq_none_int (fin_bl I q (by simp))
    | str j => obtain ⟨t', rfl⟩ := ry; exact PySem.EqNone.eq_none_str (fin_bl I q (by simp))
    | _ => exact absurd (show false = true from hs) Bool.false_ne_true
  | bl i =>
    cases rx
    cases y with
    | non => cases ry; exact PySem.EqNone.eq_bool_none (fin_bl I q (by simp))
    | bl j => cases ry; exact eq_bool (fin_bl I q dec_bl)
    | str j => obtain ⟨t', rfl⟩ := ry; exact PySem.EqMixed.eq_bool_str (fin_bl I q (by simp))
    | _ => exact absurd (show false = true from hs) Bool.false_ne_true
  | int i =>
    obtain ⟨t, rfl⟩ := rx
    cases y with
    | non => cases ry; exact PySem.EqNone.eq_int_none (fin_bl I q (by simp))
    | int j => obtain ⟨t', rfl⟩ := ry; exact eq_int (fin_bl I q dec_int)
    | str j => obtain ⟨t', rfl⟩ := ry; exact PySem.EqMixed.eq_int_str (fin_bl I q (by simp))
    | _ => exact absurd (show false = true from hs) Bool.false_ne_true
  | str i =>
    obtain ⟨t, rfl⟩ := rx
    cases y with
    | non => cases ry; exact PySem.EqNone.eq_str_none (fin_bl I q (by simp))
    | bl j => cases ry; exact PySem.EqMixed.eq_str_bool (fin_bl I q (by simp))
    | int j => obtain ⟨t', rfl⟩ := ry; exact PySem.EqMixed.eq_str_int (fin_bl I q (by simp))
    | str j => obtain ⟨t', rfl⟩ := ry; exact eq_str (fin_bl I q dec_str)
    | _ => exact absurd (show false = true from hs) Bool.false_ne_true
  | byt i =>
    obtain ⟨t, rfl⟩ := rx
    cases y with
    | byt j => obtain ⟨t', rfl⟩ := ry; exact PySem.W.eq_bytes (fin_bl I q dec_byt)
    | _ => exact absurd (show false = true from hs) Bool.false_ne_true
  | _ => cases y <;> exact absurd (show false = true from hs) Bool.false_ne_true
theorem op_ne : OpR X (compareOp .NotEq) rNe := by
  intro pins s σ H x y v u Q I rx ry h
  obtain ⟨hs, q⟩ := h
  cases x with
  | non =>
    cases rx
    cases y with
    | non => cases ry; exact PySem.EqNone.ne_none_none (fin_bl I q (by simp))
    | bl j => cases ry; exact PySem.EqNone.ne_none_bool (fin_bl I q (by simp))
    | int j => obtain ⟨t', rfl⟩ := ry; exact PySem.EqNone.ne_none_int (fin_bl I q (by simp))
    | str j => obtain ⟨t', rfl⟩ := ry; exact PySem.EqNone.ne_none_str (fin_bl I q (by simp))
    | _ => exact absurd (show false = true from hs) Bool.false_ne_true
  | bl i =>
    cases rx
    cases y with
    | non => cases ry; exact PySem.EqNone.ne_bool_none (fin_bl I q (by simp))
    | bl j => cases ry; exact ne_bool (fin_bl I q (congrArg not dec_bl))
    | str j => obtain ⟨t', rfl⟩ := ry; exact PySem.EqMixed.ne_bool_str (fin_bl I q (by simp))
    | _ => exact absurd (show false = true from hs) Bool.false_ne_true
  | int i =>
    obtain ⟨t, rfl⟩ := rx
    cases y with
    | non => cases ry; exact PySem.EqNone.ne_int_none (fin_bl I q (by simp))
    | int j => obtain ⟨t', rfl⟩ := ry; exact ne_int (fin_bl I q (congrArg not dec_int))
    | str j => obtain ⟨t', rfl⟩ := ry; exact PySem.EqMixed.ne_int_str (fin_bl I q (by simp))
    | _ => exact absurd (show false = true from hs) Bool.false_ne_true
  | str i =>
    obtain ⟨t, rfl⟩ := rx
    cases y with
    | non => cases ry; exact PySem.EqNone.ne_str_none (fin_bl I q (by simp))
    | bl j => cases ry; exact PySem.EqMixed.ne_str_bool (fin_bl I q (by simp))
    | int j => obtain ⟨t', rfl⟩ := ry; exact PySem.EqMixed.ne_str_int (fin_bl I q (by simp))
    | str j => obtain ⟨t', rfl⟩ := ry; exact ne_str (fin_bl I q (congrArg not dec_str))
    | _ => exact absurd (show false = true from hs) Bool.false_ne_true
  | byt i =>
    obtain ⟨t, rfl⟩ := rx
    cases y with
    | byt j => obtain ⟨t', rfl⟩ := ry; exact PySem.W.ne_bytes (fin_bl I q (congrArg not dec_byt))
    | _ => exact absurd (show false = true from hs) Bool.false_ne_true
  | _ => cases y <;> exact absurd (show false = true from hs) Bool.false_ne_true

theorem op_lt : OpR X (compareOp .Lt) (rI0 fun i j => .bl (decide (i < j))) := opB0 fun _ _ _ _ _ _ _ q => lt_int q
theorem op_gt : OpR X (compareOp .Gt) (rI0 fun i j => .bl (decide (j < i))) := opB0 fun _ _ _ _ _ _ _ q => gt_int q

/-- is None, is not None: the right side a value none -/
theorem op_isN : OpR X (compareOp .Is) (fun x y H Q => y = .non ∧ Q (.bl (decide (x = .non))) H) := by
  intro pins s σ H x y v u Q I rx ry h
  obtain ⟨rfl, q⟩ := h
  cases ry
  refine is_none_gen (fin_bl I q ?_)
  cases x <;> first
    | (cases rx; rfl)
    | (obtain ⟨t, rfl⟩ := rx; rfl)


/-- two rules for one operation: by cases -/
theorem OpR.or {f : Value → Value → Sem Value} {r r' : R2} (h : OpR X f r) (h' : OpR X f r') : OpR X f (fun x y H Q => r x y H Q ∨ r' x y H Q) := by
  intro pins s σ H x y v u Q I rx ry q
  rcases q with q | q
  · exact h pins s σ H x y v u Q I rx ry q
  · exact h' pins s σ H x y v u Q I rx ry q

theorem nomark (b : Expr) {op : CmpOp} (h : op ≠ .In := by decide) (h2 : op ≠ .NotIn := by decide) : behindInMarks op b = false := by
  have e1 : (op == CmpOp.In) = false := by cases op <;> first | rfl | exact absurd rfl h
  have e2 : (op == CmpOp.NotIn) = false := by cases op <;> first | rfl | exact absurd rfl h2
  cases b <;> simp [behindInMarks, e1, e2]
/-- a comparison as a value; hm: nomark b, or (for in, not in) by with_unfolding_all rfl -/
theorem pe_cmpR {op : CmpOp} {r : R2} (ho : OpR X (compareOp op) r) (ha : PE X a ta) (hb : PE X b tb) (hm : behindInMarks op b = false) : PE X (.Compare a [op] [b] pos) (tOp r ta tb) := by
  intro pins s σ H Q I h
  exact wpAny_Compare1 (binT ha hb I h fun v u s2 x y H2 I2 rx ry q => ho pins s2 σ H2 x y v u Q I2 rx ry q) hm
/-- a reading of a value as a test -/
def tTest (t : TE) : TT := fun σ H Q => t σ H fun x H' => ∃ k, x = .bl k ∧ Q k H'
theorem pt_cmpR {op : CmpOp} {r : R2} (ho : OpR X (compareOp op) r) (ha : PE X a ta) (hb : PE X b tb) (hm : behindInMarks op b = false) : PT X (.Compare a [op] [b] pos) (tTest (tOp r ta tb)) := by
  intro pins s σ H Q I h
  refine wpAny_isTrue_Compare1 (thn (ha pins s σ H _ I h) fun v s1 ⟨x, H1, I1, r1, q1⟩ => thn (hb pins s1 σ H1 _ I1 q1) fun u s2 ⟨y, H2, I2, r2, q2⟩ =>
    thn (ho pins s2 σ H2 x y v u _ I2 r1 r2 q2) fun c s3 ⟨z, H3, I3, r3, k, e, q3⟩ => ?_) hm
  subst e
  cases r3
  exact wpAny_truthy_bool ⟨H3, I3, q3⟩

/-! ### truth -/
theorem line63 : (sizeLine : Nat) < 2 ^ 63 := by rw [sizeLine_eq]; decide

/-! ### strs and bytes -/
theorem op_add_str : OpR X (binaryOp .Add) (fun x y H Q => ∃ i j, x = .str i ∧ y = .str j ∧ i.length + j.length ≤ sizeLine ∧ Q (.str (i ++ j)) H) := by
  intro pins s σ H x y v u Q I rx ry h
  obtain ⟨i, j, rfl, rfl, hz, q⟩ := h
  obtain ⟨t, rfl⟩ := rx
  obtain ⟨t', rfl⟩ := ry
  exact add_str (fun t' tk => ⟨.str (i ++ j), H, I.tok _, ⟨_, rfl⟩, q⟩) hz


/-! ### scalar builtins, by CallR -/
theorem vals1 {x : V} {us : List Value} (r : Vals [x] us) : ∃ u, us = [u] ∧ RelV x u := by
  cases r with
  | cons r1 r2 => cases r2; exact ⟨_, rfl, r1⟩
theorem vals2 {x y : V} {us : List Value} (r : Vals [x, y] us) : ∃ u w', us = [u, w'] ∧ RelV x u ∧ RelV y w' := by
  cases r with
  | cons r1 r2 =>
    cases r2 with
    | cons r3 r4 => cases r4; exact ⟨_, _, rfl, r1, r3⟩
theorem call_abs : CallR X (.builtin "abs") (fun xs H Q => ∃ i, xs = [.int i] ∧ Q (.int (if i < 0 then -i else i)) H) := by
  intro pins s σ H xs us Q I r h
  obtain ⟨i, rfl, q⟩ := h
  obtain ⟨u, rfl, t, rfl⟩ := vals1 r
  exact call_abs_int fun u tk => ⟨.int (if i < 0 then -i else i), H, I.tok _, ⟨_, rfl⟩, q⟩
/-- len of a str, a bytes, a list, a tuple -/
def LenV (K : PySem.W.Frag) (x : V) (H : Hp) (n : Nat) : Prop :=
  match x with
  | .str y => y.length ≤ sizeLine ∧ n = y.length
  | .byt y => y.size ≤ sizeLine ∧ n = y.size
  | .ref p => (∃ xs, SqL K H p xs ∧ n = xs.length) ∨ ∃ xs, SqT K H p xs ∧ n = xs.length
  | _ => False
theorem call_len : CallR X (.builtin "len") (fun xs H Q => ∃ x n, xs = [x] ∧ LenV X.K x H n ∧ Q (.int n) H) := by
  intro pins s σ H xs us Q I r h
  obtain ⟨x, n, rfl, e, q⟩ := h
  obtain ⟨u, rfl, rx⟩ := vals1 r
  have hl := line63
  have hs : sizeLine = 16777216 := sizeLine_eq
  cases x with
  | str y =>
    obtain ⟨t, rfl⟩ := rx
    obtain ⟨hy, e'⟩ : y.length ≤ sizeLine ∧ n = y.length := e
    subst e'
    exact len_str (by omega) ⟨.int _, H, I.tok _, ⟨_, rfl⟩, q⟩
  | byt y =>
    obtain ⟨t, rfl⟩ := rx
    obtain ⟨hy, e'⟩ : y.size ≤ sizeLine ∧ n = y.size := e
    subst e'
    exact PySem.W.len_bytes (by omega) ⟨.int _, H, I.tok _, ⟨_, rfl⟩, q⟩
  | ref p =>
    cases rx
    have e' : (∃ xs, SqL X.K H p xs ∧ n = xs.length) ∨ ∃ xs, SqT X.K H p xs ∧ n = xs.length := e
    rcases e' with ⟨xs, hx, e'⟩ | ⟨xs, hx, e'⟩
    · subst e'
      obtain ⟨its, r', pl, hz⟩ := I.list hx
      have hlen := r'.length
      exact Calls.call_len_list pl.isList (by simp only [List.size_toArray]; omega) ⟨.int xs.length, H, I.tok _, ⟨_, by simp only [List.size_toArray]; rw [hlen]⟩, q⟩
    · subst e'
      obtain ⟨its, r', pl, hz⟩ := I.tuple hx
      have hlen := r'.length
      exact len_tuple pl (by simp only [List.size_toArray]; omega) ⟨.int xs.length, H, I.tok _, ⟨_, by simp only [List.size_toArray]; rw [hlen]⟩, q⟩
  | _ => exact (show False from e).elim
end
end L2

namespace L2
open PySem PySem.Spec PyProof.Rows

/-! ### an instance, its attributes a map -/
structure ObjM (h : Heap) (x dx C : Addr) (mA : Str → Option Value) : Prop where
  obj : h.get? x = some (PySem.W.instObj C dx)
  ns : h.Ns1 dx mA
  ne : dx ≠ x

theorem lookIn_ns {h : Heap} {dx : Addr} {mA : Str → Option Value} (n : h.Ns1 dx mA) : ∃ od, h.get? dx = some od ∧ ∀ name, PySem.W.lookIn name od = some (mA name) := by
  obtain ⟨o, es, ep, ho, hd, hk, _, hm⟩ := n
  refine ⟨o, ho, fun name => ?_⟩
  have e := hm name
  unfold nsFind findBy at e
  rw [← Array.find?_toList] at e
  unfold PySem.W.lookIn
  rw [hd]
  dsimp only
  split
  · rename_i y q
    rw [q] at e
    exact congrArg some e
  · rename_i q
    rw [q] at e
    have a : es.toList.any (·.refKey) = false := by
      rw [List.any_eq_false]
      intro y hy
      obtain ⟨z, t, hkey⟩ := hk y (Array.mem_toList_iff.mp hy)
      simp [DictEntry.refKey, hkey]
    have a' : ¬ es.toList.any (·.refKey) = true := by rw [a]; exact Bool.false_ne_true
    rw [if_neg a']
    exact congrArg some e

theorem ObjM.look {h : Heap} {x dx C : Addr} {mA : Str → Option Value} (I : ObjM h x dx C mA) : ∃ od, PySem.W.InstAt h x (PySem.W.instObj C dx) C (some od) ∧ ∀ name, PySem.W.lookIn name od = some (mA name) :=
  let ⟨od, ho, hl⟩ := lookIn_ns I.ns
  ⟨od, ⟨I.obj, rfl, rfl, ho⟩, hl⟩

section
variable {prog : Program} {w : World} {A : Around} {E : Value → Shared → Prop} {s : Shared} {K : PySem.W.Frag} {x dx C f : Addr} {mA : Str → Option Value} {name : Str} {v : Value}



theorem get_meth {pl : Sem Bool} {Q : Value × List Value → Shared → Prop} (X : K.In s.heap) (I : ObjM s.heap x dx C mA) (hg : PySem.W.plainGet K C name = true)
    (hf : PySem.W.findIn K (.ref C) name = some (some (.ref f))) (ht : PySem.W.isFn K (.ref f) = true) (hv : mA name = none) (h : Q (.ref f, [.ref x]) s) :
    wpAny (model prog w) A (getMethod (.ref x) name pl) Q E s := by
  obtain ⟨od, J, hl⟩ := I.look
  exact PySem.W.method_fn X J (PySem.W.plainGet_of hg).1 (PySem.W.plainGet_of hg).2 hf (beq_iff_eq.mp ht) (by show (PySem.W.lookIn name od).map (·.isSome) = some false; rw [hl, hv]; rfl) h


/-- C() where there is no __init__ but object's -/
theorem make_map0 {R : Result → Shared → Prop} (X : K.In s.heap) (hm : PySem.W.makesIn K C = true)
    (hi : PySem.W.findIn K (.ref C) "__init__" = some (some (.builtin "object.__init__")))
    (hb : ∀ self, PySem.W.Looks (model prog w) s.heap (bindSpecial (.builtin "object.__init__") self) (.builtin "object.__init__", [self]))
    (h : codeAny (model prog w) (A.under (.builtin "type.__call__" ⟨[.ref C], []⟩)) (.call (.builtin "object.__init__") ⟨[.ref (s.heap.objs.size + 1)], []⟩) (PySem.W.InitBack (s.heap.objs.size + 1) R)
      { s with heap := (s.heap.push PySem.W.emptyDict).push (PySem.W.instObj C s.heap.objs.size) }) :
    codeAny (model prog w) A (.call (.ref C) ⟨[], []⟩) R s := by
  obtain ⟨hh, g, d, t, os⟩ := s
  exact PySem.W.make_core (PySem.W.makes_of X hm) (PySem.W.looks_findIn X hi) hb (.inr ⟨rfl, rfl⟩) h
end

/-! ### the attributes as a list of pairs -/

theorem RelO.none_of {o : Option Value} (r : RelO none o) : o = none := by
  cases o with
  | none => rfl
  | some u => exact (show False from r).elim

section
variable {P : Program} {w : World} {H H' : Hp} {h h' : Heap} {a C dx : Addr} {fs fs' : List (Str × V)}
theorem ins_get (hok : HOk P w H h) (e : H a = some (.ins C dx fs)) : ∃ mA, ObjM h a dx C mA ∧ (∀ f, RelO (fs.lookup f) (mA f)) ∧ PySem.Within mA (fs.map (·.1)) ∧ fs.length ≤ 1000 ∧ H dx = some (.own a) := by
  obtain ⟨d, z, ne, ob, mA, n, r, q⟩ := (show ObjOk P w H h a (.ins C dx fs) from hok a _ e)
  exact ⟨mA, ⟨ob, n, ne⟩, r, q, z, d⟩
end

/-! ### what of the text a class must have -/
structure Cls (K : PySem.W.Frag) (C : Addr) : Prop where
  pg : PySem.W.plainGet K C Str.empty = true
  hd : PySem.W.hasDictIn K C = true
  po : PySem.W.plainOver K C = true
  sa : PySem.W.findIn K (.ref C) "__setattr__" = some (some (.builtin "object.__setattr__"))
theorem Cls.get {K : PySem.W.Frag} {C : Addr} (c : Cls K C) (f : Str) : PySem.W.plainGet K C f = true := c.pg
/-- a method: a plain def of the class or of one above it -/
structure Meth (K : PySem.W.Frag) (C : Addr) (m : Str) (f : Addr) : Prop where
  at_ : PySem.W.findIn K (.ref C) m = some (some (.ref f))
  fn : PySem.W.isFn K (.ref f) = true
  kp : PySem.W.keepIn K (.ref f) = true

section
variable {X : Cx} {pins : List (Addr × Obj)} {σ : St} {H : Hp} {s : Shared} {a C dx : Addr} {fs : List (Str × V)} {f : Str} {v : V} {A : Around} {E : Value → Shared → Prop}



theorem getmeth_ok {m : Str} {g : Addr} {pl : Sem Bool} {Q : Value × List Value → Shared → Prop} (I : Inv X pins σ H s) (e : H a = some (.ins C dx fs)) (c : Cls X.K C) (k : Meth X.K C m g) (l : fs.lookup m = none)
    (h : Q (.ref g, [.ref a]) s) : wpAny (model X.prog X.w) A (getMethod (.ref a) m pl) Q E s := by
  obtain ⟨mA, O, r, _, _, _⟩ := ins_get I.hok e
  have hn : mA m = none := RelO.none_of (by rw [← l]; exact r m)
  exact get_meth I.kIn O (c.get m) k.at_ k.fn hn h


/-- a new instance, tracked, without attributes -/
theorem Inv.made (I : Inv X pins σ H s) : Inv X pins σ (upd (upd H s.heap.objs.size (.own (s.heap.objs.size + 1))) (s.heap.objs.size + 1) (.ins C s.heap.objs.size []))
    { s with heap := (s.heap.push PySem.W.emptyDict).push (PySem.W.instObj C s.heap.objs.size) } := by
  have e1 : (s.heap.push PySem.W.emptyDict).get? s.heap.objs.size = some PySem.W.emptyDict := Heap.get?_push_size s.heap rfl
  have e2 : ((s.heap.push PySem.W.emptyDict).push (PySem.W.instObj C s.heap.objs.size)).get? (s.heap.objs.size + 1) = some (PySem.W.instObj C s.heap.objs.size) := by
    have := Heap.get?_push_size (s.heap.push PySem.W.emptyDict) (o := PySem.W.instObj C s.heap.objs.size) rfl
    rwa [Heap.size_push] at this
  have e3 : (s.heap.push PySem.W.emptyDict).Ns s.heap.objs.size (fun _ => none) := ⟨PySem.W.emptyDict, #[], _, e1, rfl, (fun e he => absurd he (by simp)), fun _ => rfl⟩
  have I1 := I.laid (a := s.heap.objs.size) (o := .own (s.heap.objs.size + 1)) (h' := s.heap.push PySem.W.emptyDict) (t' := s.toks) (fun b u q => Heap.get?_push_of_some _ q) (Nat.le_refl _) ⟨_, e1⟩
  refine I1.laid (a := s.heap.objs.size + 1) (o := .ins C s.heap.objs.size []) (t' := s.toks) (fun b u q => Heap.get?_push_of_some _ q) (Nat.le_of_eq (Heap.size_push _ _)) ?_
  have ne : s.heap.objs.size ≠ s.heap.objs.size + 1 := Nat.ne_of_lt (Nat.lt_succ_self _)
  refine ⟨by rw [upd_ne ne, upd_same], Nat.zero_le _, ne, e2, fun _ => none, (Heap.Ns1.of_empty e3).at fun o q => Heap.get?_push_of_some _ q, fun _ => True.intro, fun y hy => absurd rfl hy⟩

end

/-! ### readings and rules -/

section
variable {X : Cx} {o e value : Expr} {f : Str} {pos pos' tpos : Pos} {ta tv : TE}

end

/-! ### isinstance -/
section
variable {X : Cx} {pins : List (Addr × Obj)} {σ : St} {H : Hp} {s : Shared} {A : Around} {E : Value → Shared → Prop} {Q : Value → Shared → Prop} {c : Value} {b : Bool}
/-- the type of a value, as the fragment's deciders take it; for an instance its class -/
inductive TyOf (K : PySem.W.Frag) (H : Hp) : V → Value → Prop where
  | non : TyOf K H .non (.type "NoneType")
  | bl (x : Bool) : TyOf K H (.bl x) (.type "bool")
  | int (i : Int) : TyOf K H (.int i) (.type "int")
  | str (x : Str) : TyOf K H (.str x) (.type "str")
  | flt (x : UInt64) : TyOf K H (.flt x) (.type "float")
  | lst {a : Addr} {xs : List V} (e : H a = some (.lst xs)) : TyOf K H (.ref a) (.type "list")
  | frz {a : Addr} {o : Obj} {xs : List V} (e : H a = some (.frz o (.lst xs))) : TyOf K H (.ref a) (.type "list")
  | tup {a : Addr} {xs : List V} (e : H a = some (.tup xs)) : TyOf K H (.ref a) (.type "tuple")
  | dK {a : Addr} {kvs : List (Key × V)} (e : H a = some (.dK kvs)) : TyOf K H (.ref a) (.type "dict")
  | dT {a : Addr} {kvs : List (List Key × V)} (e : H a = some (.dT kvs)) : TyOf K H (.ref a) (.type "dict")
  | ins {a C dx : Addr} {fs : List (Str × V)} (e : H a = some (.ins C dx fs)) (cl : Cls K C) (ha : PySem.W.findIn K (.ref C) "__class__" = some (some (.builtin "object.__class__")))
      (hn : PySem.W.specialIn K (.builtin "object.__class__") "__get__" = some (some (.builtin "getset_descriptor.__get__"))) (htk : PySem.W.takesIn K (.builtin "object.__class__") = some true)
      (hm : PySem.W.mroIn K C (.type "object") = some true) : TyOf K H (.ref a) (.ref C)
/-- isinstance(x, c) for one class c, a built-in or an own one: kitOne's answer -/
theorem isinst_ok {x : V} {u t : Value} (I : Inv X pins σ H s) (rx : RelV x u) (ty : TyOf X.K H x t) (e : PySem.W.kitOne X.K t c = some b) (h : ∀ tk, Q (.bool b) { s with toks := tk }) :
    wpAny (model X.prog X.w) A (call (.builtin "isinstance") [u, c]) Q E s := by
  cases ty with
  | non => cases (show u = Value.none from rx); exact PySem.W.kia_one PySem.W.kitx_none I.kIn True.intro e (fun z => nomatch z) h
  | bl y => cases (show u = Value.bool y from rx); exact PySem.W.kia_one PySem.W.kitx_bool I.kIn True.intro e (fun z => nomatch z) h
  | int i => obtain ⟨t, q⟩ := (show ∃ t, u = Value.int i t from rx); cases q; exact PySem.W.kia_one PySem.W.kitx_int I.kIn True.intro e (fun z => nomatch z) h
  | str y => obtain ⟨t, q⟩ := (show ∃ t, u = Value.str y t from rx); cases q; exact PySem.W.kia_one PySem.W.kitx_str I.kIn True.intro e (fun z => nomatch z) h
  | flt y => obtain ⟨t, q⟩ := (show ∃ t, u = Value.float y t from rx); cases q; exact PySem.W.kia_one PySem.W.kitx_float I.kIn True.intro e (fun z => nomatch z) h
  | @lst a xs ea =>
    cases (show u = Value.ref a from rx)
    obtain ⟨_, _, n, _, h1⟩ := (show ObjOk X.prog X.w H s.heap a (.lst xs) from I.hok a _ ea)
    exact PySem.W.kia_one PySem.W.kitx_list I.kIn ⟨_, h1, rfl⟩ e (fun z => nomatch z) h
  | @frz a ob xs ea =>
    cases (show u = Value.ref a from rx)
    obtain ⟨_, _, _, n, _, h1⟩ := (show ObjOk X.prog X.w H s.heap a (.frz ob (.lst xs)) from I.hok a _ ea)
    exact PySem.W.kia_one PySem.W.kitx_list I.kIn ⟨_, h1, rfl⟩ e (fun z => nomatch z) h
  | @tup a xs ea =>
    cases (show u = Value.ref a from rx)
    obtain ⟨_, _, _, p⟩ := (show ObjOk X.prog X.w H s.heap a (.tup xs) from I.hok a _ ea)
    obtain ⟨o, h1, h2, _⟩ := p
    exact PySem.W.kia_one PySem.W.kitx_tuple I.kIn ⟨o, h1, h2⟩ e (fun z => nomatch z) h
  | @dK a kvs ea =>
    cases (show u = Value.ref a from rx)
    obtain ⟨_, _, vs, _, p⟩ := (show ObjOk X.prog X.w H s.heap a (.dK kvs) from I.hok a _ ea)
    obtain ⟨o, es, ep, h1, h2, _⟩ := p
    exact PySem.W.kia_one PySem.W.kitx_dict I.kIn ⟨o, h1, h2.1⟩ e (fun z => nomatch z) h
  | @dT a kvs ea =>
    cases (show u = Value.ref a from rx)
    obtain ⟨_, _, xs, _, o, es, ep, h1, h2, _⟩ := (show ObjOk X.prog X.w H s.heap a (.dT kvs) from I.hok a _ ea)
    exact PySem.W.kia_one PySem.W.kitx_dict I.kIn ⟨o, h1, h2.1⟩ e (fun z => nomatch z) h
  | @ins a C dx fs ea cl ha hn htk hm =>
    cases (show u = Value.ref a from rx)
    obtain ⟨mA, O, _⟩ := ins_get I.hok ea
    obtain ⟨od, J, _⟩ := O.look
    exact PySem.W.kia_one (PySem.W.kitx_own (cl.get _) cl.hd ha hn htk hm) I.kIn J e (fun z => nomatch z) h
end
end L2

namespace L2
open PySem PySem.Spec PyProof.Rows

/-! ### room -/
structure Room (k : Nat) (A : Around) : Prop where
  hd : A.handled = none
  dp : A.depth + 3 * k + 5 < recursionLimit
  un : A.units + 16 * k + 200 < cLine
theorem Room.mono {j k : Nat} {A : Around} (r : Room k A) (h : j ≤ k) : Room j A := ⟨r.hd, by have := r.dp; omega, by have := r.un; omega⟩
theorem Room.deeper {k : Nat} {A : Around} (r : Room (k + 1) A) (env : Env) : Room k (A.deeper env) :=
  ⟨r.hd, by have := r.dp; show A.depth + 1 + 3 * k + 5 < _; omega, by have := r.un; show A.units + 3 + 16 * k + 200 < _; omega⟩
theorem Room.depth {k : Nat} {A : Around} (r : Room k A) : A.depth < recursionLimit := by have := r.dp; omega
theorem Room.units {k : Nat} {A : Around} (r : Room k A) : A.units + 64 < cLine := by have := r.un; omega

/-! ### argument lists and displays -/
def tNil : TA := fun _ H Q => Q [] H
def tCons (ta : TE) (tr : TA) : TA := fun σ H Q => ta σ H fun x H1 => tr σ H1 fun xs H2 => Q (x :: xs) H2
section
variable {X : Cx} {e : Expr} {es : List Expr} {te : TE} {t : TA} {pos : Pos}
theorem pa_nil : PA X [] tNil := fun _ _ _ _ H Q I h => Calls.spliced_nil ⟨[], H, I, .nil, h⟩
theorem pa_cons (ha : PE X e te) (hr : PA X es t) (hs : starEach (e :: es) X.env = (false, eval e X.env) :: starEach es X.env := by rfl) : PA X (e :: es) (tCons te t) := by
  intro pos pins s σ H Q I h
  rw [hs]
  show wpAny _ _ (spliced ((false, eval e X.env) :: backTo pos (starEach es X.env))) _ _ s
  refine Calls.spliced_cons (thn (ha pins s σ H _ I h) fun u s1 ⟨x, H1, I1, r1, q1⟩ => ?_)
  exact thn (hr pos pins s1 σ H1 _ I1 q1) fun us s2 ⟨xs, H2, I2, r2, q2⟩ => ⟨x :: xs, H2, I2, .cons r1 r2, q2⟩

/-- a tuple, a list of written items -/
def tTup (t : TA) : TE := fun σ H Q => t σ H fun xs H1 => xs.length ≤ sizeLine ∧ ∀ p, H1 p = none → Q (.ref p) (upd H1 p (.tup xs))
def tLst (t : TA) : TE := fun σ H Q => t σ H fun xs H1 => xs.length ≤ sizeLine ∧ ∀ p, H1 p = none → Q (.ref p) (upd H1 p (.lst xs))
theorem pe_tup {x1} (h : PA X es t) : PE X (.Tuple es x1 pos) (tTup t) := by
  intro pins s σ H Q I hq
  refine wpAny_Tuple_spliced (thn (h pos pins s σ H _ I hq) fun us s1 ⟨xs, H1, I1, r, z, q⟩ => ⟨by rw [← r.length]; exact z, ?_⟩)
  have hf : H1 s1.heap.objs.size = none := I1.hok.fresh (Nat.le_refl _)
  refine ⟨.ref s1.heap.objs.size, upd H1 s1.heap.objs.size (.tup xs), I1.laid (t' := s1.toks) (fun b u e => Heap.get?_push_of_some _ e) (Nat.le_refl _) ?_, rfl, q _ hf⟩
  exact ⟨z, us, r, ⟨_, Heap.get?_push_size _ rfl, rfl, _, rfl⟩⟩
theorem pe_lst (h : PA X es t) : PE X (.List es pos) (tLst t) := by
  intro pins s σ H Q I hq
  refine wpAny_List_spliced (thn (h pos pins s σ H _ I hq) fun us s1 ⟨xs, H1, I1, r, z, q⟩ => ⟨by rw [← r.length]; exact z, ?_⟩)
  have hf : H1 s1.heap.objs.size = none := I1.hok.fresh (Nat.le_refl _)
  refine ⟨.ref s1.heap.objs.size, upd H1 s1.heap.objs.size (.lst xs), I1.laid (t' := s1.toks) (fun b u e => Heap.get?_push_of_some _ e) (Nat.le_refl _) ?_, rfl, q _ hf⟩
  exact ⟨z, us, 0, r, Heap.get?_push_size _ rfl⟩
end

/-! ### what a def promises -/
/-- a def's promise: the bound arguments in the parameters' order, the heap, the wanted end, the wanted exception -/
abbrev Sp := List V → Hp → VK → XK → Prop
/-- how an exception lies behind a call (file 08 gives it): the callers' frames, abstract heap and state ahead of the call, the wish, the exception, the state -/
abbrev CXT := List Env → Hp → Shared → XK → Value → Shared → Prop

/-- the state at a call -/
structure Env0 (P : Program) (w : World) (K : PySem.W.Frag) (mg : Str → Option Value) (base : Heap) (A : Around) (outer : List Env) (s : Shared) (H : Hp) : Prop where
  frames : A.frames = some outer
  mod : Mod K mg base
  bs : ∀ b o, base.get? b = some o → s.heap.get? b = some o ∧ H b = none
  bsz : base.objs.size ≤ s.heap.objs.size
  funs : s.heap.FunFrames base outer
  frf : ∀ b ∈ frs outer, H b = none
  hok : HOk P w H s.heap
  bare : AllBare s.gens
/-- a call's end -/
def CE (outer : List Env) (P : Program) (w : World) (H : Hp) (s : Shared) (Q : VK) (u : Value) (s' : Shared) : Prop :=
  ∃ v H', s'.os = s.os ∧ AllBare s'.gens ∧ Un (frs outer) [] H H' s.heap s'.heap ∧ HOk P w H' s'.heap ∧ RelV v u ∧ Q v H'
def CR (CX : CXT) (outer : List Env) (P : Program) (w : World) (H : Hp) (s : Shared) (Q : VK) (E : XK) (r : Result) (s' : Shared) : Prop :=
  match r with
  | .ok (.ret u) => CE outer P w H s Q u s'
  | .ok _ => False
  | .error e => CX outer H s E e s'
structure FnOk (P : Program) (w : World) (K : PySem.W.Frag) (mg : Str → Option Value) (base : Heap) (CX : CXT) (k : Nat) (f : Addr) (fd : FuncData) (ps : List Str) (sp : Sp) : Prop where
  len : ∀ vs H Q E, sp vs H Q E → vs.length = ps.length
  run : ∀ (A : Around) (outer : List Env) (s : Shared) (H : Hp) (args : Args) (us : List Value) (vs : List V) (Q : VK) (E : XK), Room k A → Env0 P w K mg base A outer s H → BindsTo s fd args (ps.zip us) → Vals vs us → sp vs H Q E →
    codeAny (model P w) A (.call (.ref f) args) (CR CX outer P w H s Q E) s
theorem FnOk.mono {P : Program} {w : World} {K : PySem.W.Frag} {mg : Str → Option Value} {base : Heap} {CX : CXT} {j k : Nat} {f : Addr} {fd : FuncData} {ps : List Str} {sp : Sp} (F : FnOk P w K mg base CX j f fd ps sp) (h : j ≤ k) :
    FnOk P w K mg base CX k f fd ps sp := ⟨F.len, fun A outer s H args us vs Q E hr => F.run A outer s H args us vs Q E (hr.mono h)⟩


section
variable {X : Cx} {pins : List (Addr × Obj)} {σ : St} {H : Hp} {s s' : Shared}
/-- from a body: what a callee wants -/
theorem Inv.env0 (I : Inv X pins σ H s) : Env0 X.prog X.w X.K X.mg X.base X.A X.stack s H :=
  ⟨I.ok.frames, I.ok.mod, I.bs, Nat.le_trans I.ok.bsz I.sz, I.stack, I.stkFree, I.hok, I.bare⟩
/-- behind a call -/
theorem Inv.after {Q : VK} {u : Value} (I : Inv X pins σ H s) (h : CE X.stack X.prog X.w H s Q u s') : EP X pins σ Q u s' := by
  obtain ⟨v, H', os, bare, un, hok, r, q⟩ := h
  obtain ⟨hh, g, d, t, os'⟩ := s'
  obtain rfl : os' = s.os := os
  exact ⟨v, H', I.call (h' := hh) (g' := g) (d' := d) (t' := t) (ch := []) un hok bare (fun b z => absurd z (by simp)), r, q⟩
end

/-! ### calls -/
/-- f(..): the written arguments, then the defaults dvs; E: what is wanted of an exception -/
def tCall (sp : Sp) (dvs : List V) (E : XK) (t : TA) : TE := fun σ H Q => t σ H fun vs H1 => sp (vs ++ dvs) H1 Q E

/-- how the parameters are bound: us the positional arguments, kw the keywords' values by name, ds the defaults that fill up -/
def Binds (K : PySem.W.Frag) (fd : FuncData) (ps : List Str) (ds : List Value) : Prop :=
  ∀ (s : Shared) (us : List Value), K.In s.heap → (us ++ ds).length = ps.length → BindsTo s fd ⟨us, []⟩ (ps.zip (us ++ ds))
/-- every parameter is given -/
theorem Binds.all {K : PySem.W.Frag} {fd : FuncData} {ps : List Str} (h : ∀ us : List Value, us.length = ps.length → bindArgs fd ⟨us, []⟩ = pure (ps.zip us)) : Binds K fd ps [] := fun s us _ hl => by
  rw [List.append_nil] at hl ⊢
  exact .of_eq (h us hl)

/-- an exception of a callee reaches what this body wants of exceptions -/
def Passes (CX : CXT) (X : Cx) (E : XK) : Prop := ∀ (pins : List (Addr × Obj)) (σ : St) (H : Hp) (s : Shared) (e : Value) (s' : Shared), Inv X pins σ H s → CX X.stack H s E e s' → X.xe e s'

section
variable {X : Cx} {CX : CXT} {k : Nat} {f C : Addr} {fd : FuncData} {ps : List Str} {sp : Sp} {dvs : List V} {ds : List Value} {E : XK} {x m : Str} {p pos apos : Pos} {e o : Expr} {es : List Expr} {ta : TE} {t : TA}

/-- the callee runs -/
theorem run_fn {pins : List (Addr × Obj)} {σ : St} {H : Hp} {s : Shared} {Q : VK} {us : List Value} {vs : List V} (F : FnOk X.prog X.w X.K X.mg X.base CX k f fd ps sp) (hr : Room k X.A) (hb : Binds X.K fd ps ds) (hd : Vals dvs ds) (hx : Passes CX X E)
    (I : Inv X pins σ H s) (r : Vals vs us) (h : sp (vs ++ dvs) H Q E) : wpAny (model X.prog X.w) X.A (call (.ref f) us) (EP X pins σ Q) X.xe s := by
  have r2 : Vals (vs ++ dvs) (us ++ ds) := r.append hd
  have hl : (us ++ ds).length = ps.length := by rw [← r2.length]; exact F.len _ _ _ _ h
  refine wpAny_call (codeAny_mono (F.run X.A X.stack s H ⟨us, []⟩ (us ++ ds) (vs ++ dvs) Q E hr I.env0 (hb s us I.kIn hl) r2 h) fun r s' hq => ?_)
  cases r with
  | error e => exact hx pins σ H s e s' I hq
  | ok fl =>
    cases fl with
    | ret u => exact I.after hq
    | next => exact False.elim hq
    | brk => exact False.elim hq
    | cont => exact False.elim hq

theorem pe_call (F : FnOk X.prog X.w X.K X.mg X.base CX k f fd ps sp) (hr : Room k X.A) (hg : Gl X x) (hm : X.mg x = some (.ref f)) (hk : PySem.W.keepIn X.K (.ref f) = true) (hb : Binds X.K fd ps ds) (hd : Vals dvs ds) (hx : Passes CX X E)
    (ha : PA X (e :: es) t) (hdb : (x == ("__debug__" : Str)) = false := by decide) (he : starEach (e :: es) X.env = (false, eval e X.env) :: starEach es X.env := by rfl) (hpl : (backTo pos (starEach es X.env)).any (·.1) = false := by rfl) :
    PE X (.Call (.Name x p) (e :: es) [] pos) (tCall sp dvs E t) := by
  intro pins s σ H Q I h
  refine wpAny_Call_Name_kw (ld_glob I hg hm ?_ hdb)
  refine PySem.W.callWith_K (h₀ := X.base) I.ok.mod.kin hk (thn (ha pos pins s σ H _ I h) fun us s1 ⟨vs, H1, I1, r, q⟩ => ⟨I1.kIn, ?_⟩) he hpl
  exact run_fn F hr hb hd hx I1 r q



end

/-! ### keywords -/
section
variable {X : Cx} {CX : CXT} {k : Nat} {f C : Addr} {fd : FuncData} {ps ks : List Str} {sp : Sp} {E : XK} {x m : Str} {p pos apos kpos : Pos} {e o : Expr} {es : List Expr} {kws : List Keyword} {te ta : TE} {t tk : TA} {nm : Option Str}

variable {g : List Value → List Value → List Value} {gV : List V → List V → List V}
end

/-! ### a def's body keeps its promise -/
/-- names: the parameters first -/
structure FnScope (N P : List Str) (sc : Scope) : Prop where
  kind : sc.kind = .function
  co : sc.isCoroutine = false
  gen : sc.isGenerator = false
  nd : N.Nodup
  pre : N.take P.length = P
  par : ∀ x ∈ P, sc.names.lookup x = some .local ∨ sc.names.lookup x = some .cell
  nofree : ∀ y ∈ sc.names, y.2 ≠ .free

theorem bindL_out {kindOf : Str → Option NameKind} {x : Str} : ∀ {binds : List (Str × Value)} {m : Str → Option Value}, (∀ v, (x, v) ∉ binds) → bindL kindOf binds m x = m x
  | [], _, _ => rfl
  | (n, v) :: r, m, h => by
    unfold bindL
    rw [bindL_out fun w hw => h w (List.mem_cons_of_mem _ hw)]
    split
    · have : x ≠ n := by rintro rfl; exact h v List.mem_cons_self
      simp [this]
    · rfl
theorem bindC_out {kindOf : Str → Option NameKind} {x : Str} : ∀ {binds : List (Str × Value)} {m : Str → Option Value}, (∀ v, (x, v) ∉ binds) → bindC kindOf binds m x = m x
  | [], _, _ => rfl
  | (n, v) :: r, m, h => by
    unfold bindC
    rw [bindC_out fun w hw => h w (List.mem_cons_of_mem _ hw)]
    split
    · rfl
    · have : x ≠ n := by rintro rfl; exact h v List.mem_cons_self
      simp [this]
theorem bindL_get {kindOf : Str → Option NameKind} {x : Str} {v : Value} : ∀ {P : List Str} {vs : List Value} {i : Nat} {m : Str → Option Value}, P.Nodup → P[i]? = some x → vs[i]? = some v → kindOf x = some .local →
    bindL kindOf (P.zip vs) m x = some v
  | [], _, _, _, _, h, _, _ => by simp at h
  | _ :: _, [], _, _, _, _, h, _ => by simp at h
  | p :: P, w :: vs, 0, m, nd, h1, h2, hk => by
    simp at h1 h2; subst h1; subst h2
    show bindL kindOf ((p, w) :: P.zip vs) m p = _
    unfold bindL
    rw [bindL_out fun v hv => (List.nodup_cons.mp nd).1 (List.of_mem_zip hv).1, if_pos hk]
    simp
  | p :: P, w :: vs, i + 1, m, nd, h1, h2, hk => by
    show bindL kindOf ((p, w) :: P.zip vs) m x = _
    unfold bindL
    exact bindL_get (i := i) (List.nodup_cons.mp nd).2 (by simpa using h1) (by simpa using h2) hk
theorem bindC_get {kindOf : Str → Option NameKind} {x : Str} {v : Value} : ∀ {P : List Str} {vs : List Value} {i : Nat} {m : Str → Option Value}, P.Nodup → P[i]? = some x → vs[i]? = some v → kindOf x ≠ some .local →
    bindC kindOf (P.zip vs) m x = some v
  | [], _, _, _, _, h, _, _ => by simp at h
  | _ :: _, [], _, _, _, _, h, _ => by simp at h
  | p :: P, w :: vs, 0, m, nd, h1, h2, hk => by
    simp at h1 h2; subst h1; subst h2
    show bindC kindOf ((p, w) :: P.zip vs) m p = _
    unfold bindC
    rw [bindC_out fun v hv => (List.nodup_cons.mp nd).1 (List.of_mem_zip hv).1, if_neg hk]
    simp
  | p :: P, w :: vs, i + 1, m, nd, h1, h2, hk => by
    show bindC kindOf ((p, w) :: P.zip vs) m x = _
    unfold bindC
    exact bindC_get (i := i) (List.nodup_cons.mp nd).2 (by simpa using h1) (by simpa using h2) hk

/-- the names' values at the entry -/
def start (N : List Str) (vs : List V) : St := vs.map some ++ List.replicate (N.length - vs.length) none

/-- the context of a def's body, at its entry; an exception leaves the frame, then lies as CX says -/
def cxOf (CX : CXT) (P : Program) (w : World) (K : PySem.W.Frag) (mg : Str → Option Value) (base : Heap) (N : List Str) (qual : Str) (scope : Scope) (f : Addr) (cd : Value) (A : Around) (outer : List Env) (s : Shared) (H : Hp) (E : XK) : Cx where
  prog := P
  w := w
  K := K
  mg := mg
  base := base
  A := A.deeper (envOfC qual scope s.heap.objs.size f cd)
  N := N
  s₀ := s
  H₀ := H
  env := envOfC qual scope s.heap.objs.size f cd
  outer := outer
  stack := envOfC qual scope s.heap.objs.size f cd :: outer
  ex := []
  calm := true
  fn := fun _ => true
  pn := []
  xe := fun e s' => wpAny (model P w) (A.deeper (envOfC qual scope s.heap.objs.size f cd)) (leaving (envOfC qual scope s.heap.objs.size f cd) e) (fun _ s'' => CX outer H s E e s'') (fun e' s'' => CX outer H s E e' s'') s'

theorem cell_has {sc : Scope} {n : Nat} {x : Str} (h : sc.names.lookup x = some .cell) : ∃ c, (cellsFrom n sc.names []).lookup x = some c := by
  have q := PySem.W.cellsFrom_some sc.names n [] (.inl h)
  exact Option.isSome_iff_exists.mp q

theorem inv_start {CX : CXT} {P : Program} {w : World} {K : PySem.W.Frag} {mg : Str → Option Value} {base : Heap} {N ps : List Str} {qual : Str} {scope : Scope} {f : Addr} {cd : Value} {A : Around} {outer : List Env} {s s1 : Shared} {H : Hp} {E : XK} {us : List Value} {vs : List V}
    (S : FnScope N ps scope) (hd : A.handled = none) (e0 : Env0 P w K mg base A outer s H) (hl : vs.length = ps.length) (r : Vals vs us)
    (x : InCallC s s.heap.objs.size (bindL (envOfC qual scope s.heap.objs.size f cd).kindOf (ps.zip us) fun _ => none) (cellsFrom (s.heap.objs.size + 1) scope.names []) (bindC (envOfC qual scope s.heap.objs.size f cd).kindOf (ps.zip us) fun _ => none) s1) :
    Inv (cxOf CX P w K mg base N qual scope f cd A outer s H E) [] (start N vs) H s1 := by
  have hpl : ps.length ≤ N.length := by have := congrArg List.length S.pre; rw [List.length_take] at this; omega
  obtain ⟨h1, tk, rfl, hk⟩ := x.done
  have noA : ∀ b : Addr, b ∉ (cxOf CX P w K mg base N qual scope f cd A outer s H E).ex := fun b z => absurd (show b ∈ ([] : List Addr) from z) (by simp)
  refine ⟨⟨e0.mod, S.kind, rfl, rfl, Nat.le_refl _, fun y z c h1 h2 => ?_, fun y hy => ?_, fun y c _ h => ?_, fun _ => hd, Around.frames_deeper e0.frames, .inr ⟨rfl, rfl⟩, fun b z => absurd z (noA b), e0.bs, e0.bsz, fun b _ _ => noA b, fun b z => absurd z (noA b), e0.funs, e0.frf⟩,
    rfl, e0.bare, Un.kept hk, ⟨_, x.toInCall.ns, fun i y v h1 h2 h3 => ?_⟩, fun y c h => ⟨_, x.cell y c h⟩, e0.hok.fresh (Nat.le_refl _), fun y c h => ?_, fun p hp => absurd (show p ∈ ([] : List (Addr × Obj)) from hp) (by simp), e0.hok.kept hk, ?_⟩
  · exact name_of_addr x.apart (PySem.mem_of_lookup h1) (PySem.mem_of_lookup h2)
  · have hy : scope.names.lookup y = some .cell ∨ scope.names.lookup y = some .free := hy
    rcases hy with hy | hy
    · exact cell_has hy
    · exact absurd rfl (S.nofree _ (PySem.mem_of_lookup hy))
  · exact Nat.le_of_lt (x.above y c (PySem.mem_of_lookup h))
  · have hi : i < vs.length := by
      unfold start at h2
      by_cases hi : i < vs.length
      · exact hi
      · rw [List.getElem?_append_right (by simpa using hi)] at h2
        rw [List.getElem?_replicate] at h2
        split at h2 <;> cases h2
    have ha : vs[i]? = some v := by
      unfold start at h2
      rw [List.getElem?_append_left (by simpa using hi), List.getElem?_map] at h2
      cases e : vs[i]? with
      | none => rw [e] at h2; cases h2
      | some a => rw [e] at h2; cases h2; rfl
    obtain ⟨u, hu, rv⟩ := r.get ha
    have hp : ps[i]? = some y := by
      rw [← S.pre, List.getElem?_take_of_lt (by omega)]; exact h1
    have ndP : ps.Nodup := by rw [← S.pre]; exact S.nd.sublist (List.take_sublist _ _)
    refine ⟨u, rv, ?_⟩
    rcases S.par y (List.mem_of_getElem? hp) with k | k
    · exact .inl ⟨k, bindL_get ndP hp hu k⟩
    · obtain ⟨c, e⟩ := cell_has (n := s.heap.objs.size + 1) k
      refine .inr ⟨.inl k, c, e, ?_⟩
      have q := x.cell y c e
      rw [bindC_get ndP hp hu (by show scope.names.lookup y ≠ _; rw [k]; decide)] at q
      exact q
  · exact e0.hok.fresh (Nat.le_of_lt (x.above y c (PySem.mem_of_lookup h)))
  · unfold start
    show _ = N.length
    rw [List.length_append, List.length_map, List.length_replicate]
    omega

/-- THE RULE: a def (or a method) of the text, by its body. The body's reading t is chosen for each entry; it is run at the parameters' values -/
theorem fn_of {CX : CXT} {P : Program} {w : World} {K : PySem.W.Frag} {mg : Str → Option Value} {base : Heap} {k : Nat} {f : Addr} {name qual : Str} {params : Arguments} {body : List Stmt} {scope : Scope} {dV kV doc pm cdv ct oc : Value} {an od : Option Addr}
    {osl : Array (Option Value)} {N ps : List Str} {sp : Sp} (lk : K.lookup f = some ⟨oc, od, .func (PySem.W.fnOf name qual params body scope dV kV doc pm an cdv ct), osl⟩) (hcd : PySem.W.codeIn K cdv qual = true) (S : FnScope N ps scope)
    (len : ∀ vs H Q E, sp vs H Q E → vs.length = ps.length)
    (hbody : ∀ (A : Around) (outer : List Env) (s : Shared) (H : Hp) (vs : List V) (Q : VK) (E : XK), Room k (A.deeper (envOfC qual scope s.heap.objs.size f cdv)) → sp vs H Q E →
      ∃ t, PSs (cxOf CX P w K mg base N qual scope f cdv A outer s H E) body t ∧ t { nx := fun _ H' => Q .non H', rt := Q } (start N vs) H) :
    FnOk P w K mg base CX (k + 1) f (PySem.W.fnOf name qual params body scope dV kV doc pm an cdv ct) ps sp := by
  refine ⟨len, fun A outer s H args us vs Q E hr e0 hb r hsp => ?_⟩
  have hl := len _ _ _ _ hsp
  have KX : K.In s.heap := e0.mod.kin.keeps fun b o e => (e0.bs b o e).1
  have lim : s.heap.NoLimit := e0.mod.nolimit.keeps fun b o e => (e0.bs b o e).1
  have hkind : ∀ y ∈ ps.zip us, scope.names.lookup y.1 = some .local ∨ (scope.names.lookup y.1 = some .cell ∧ ((cellsFrom (s.heap.objs.size + 1) scope.names []).lookup y.1).isSome = true) := fun ⟨n, v⟩ hy => by
    rcases S.par n (List.of_mem_zip hy).1 with q | q
    · exact .inl q
    · exact .inr ⟨q, PySem.W.cellsFrom_some _ _ _ (.inl q)⟩
  refine codeAny_call_function hr.depth (KX _ _ lk) rfl S.co S.gen rfl (PySem.W.codeRec_of KX hcd) (hb _ _ _ _ ?_)
  refine wpAny_newFunctionEnv_cells S.kind hkind fun env he s1 x => ?_
  subst he
  refine ⟨lim.keeps x.toInCall.keep, codeAny_func ?_⟩
  obtain ⟨t, ht, hq⟩ := hbody A outer s H vs Q E (hr.deeper _) hsp
  have I : Inv (cxOf CX P w K mg base N qual scope f cdv A outer s H E) [] (start N vs) H s1 := inv_start S hr.hd e0 hl r x
  refine wpAny_mono (ht [] s1 (start N vs) H _ I hq) (fun fl s' hs => ?_) fun e s' hs => hs
  have fin : ∀ {σ' : St} {H' : Hp} {v : V} {u : Value}, Inv (cxOf CX P w K mg base N qual scope f cdv A outer s H E) [] σ' H' s' → RelV v u → Q v H' → CE outer P w H s Q u s' :=
    fun {σ' H' v u} J rv q => ⟨v, H', J.os, J.bare, J.base, J.hok, rv, q⟩
  cases fl with
  | ret u =>
    obtain ⟨v, σ', H', J, rv, q⟩ := hs
    exact fin J rv q
  | next =>
    obtain ⟨σ', H', J, q⟩ := hs
    exact fin (v := V.non) (u := Value.none) J rfl q
  | brk =>
    obtain ⟨_, _, _, q⟩ := hs
    exact False.elim q
  | cont =>
    obtain ⟨_, _, _, q⟩ := hs
    exact False.elim q
end L2

namespace L2
open PySem PySem.Spec PyProof.Rows
section
variable {X : Cx} {x : Str} {p pos : Pos} {e : Expr} {es : List Expr} {t : TA} {id T : String} {r : List V → Hp → VK → Prop}

def tCB (r : List V → Hp → VK → Prop) (t : TA) : TE := fun σ H Q => t σ H fun vs H1 => r vs H1 Q
/-- f(e, ..), f a built-in function -/
theorem pe_callB (hc : CallR X (.builtin id) r) (hg : Gl X x) (hm : X.mg x = none) (hv : bootBuiltins x = some (.builtin id)) (ha : PA X (e :: es) t) (hn : x ≠ "__name__" := by decide) (hdb : (x == ("__debug__" : Str)) = false := by decide)
    (he : starEach (e :: es) X.env = (false, eval e X.env) :: starEach es X.env := by rfl) (hpl : (backTo pos (starEach es X.env)).any (·.1) = false := by rfl) : PE X (.Call (.Name x p) (e :: es) [] pos) (tCB r t) := by
  intro pins s σ H Q I h
  refine wpAny_Call_Name_kw (ld_blt I hg hm hv ?_ hn hdb)
  exact PyProof.Rows.callWith_builtin1 (thn (ha pos pins s σ H _ I h) fun us s1 ⟨vs, H1, I1, r1, q1⟩ => hc pins s1 σ H1 vs us Q I1 r1 q1) he hpl
/-- T(e, ..), T a built-in type -/
theorem pe_callTy (hc : CallR X (.type T) r) (hg : Gl X x) (hm : X.mg x = none) (hv : bootBuiltins x = some (.type T)) (ha : PA X (e :: es) t) (hn : x ≠ "__name__" := by decide) (hdb : (x == ("__debug__" : Str)) = false := by decide)
    (he : starEach (e :: es) X.env = (false, eval e X.env) :: starEach es X.env := by rfl) (hpl : (backTo pos (starEach es X.env)).any (·.1) = false := by rfl) : PE X (.Call (.Name x p) (e :: es) [] pos) (tCB r t) := by
  intro pins s σ H Q I h
  refine wpAny_Call_Name_kw (ld_blt I hg hm hv ?_ hn hdb)
  exact PyProof.Rows.callWith_type1 (thn (ha pos pins s σ H _ I h) fun us s1 ⟨vs, H1, I1, r1, q1⟩ => hc pins s1 σ H1 vs us Q I1 r1 q1) he hpl
end
end L2

namespace HT
open PySem PyProof.Rows



section
open PySem.SeqAt
open PySem.AutoSeq1 (wpAny_loadPart')
open PySem.MeetsSeq PySem.MeetsSeq2 PySem.MeetsSeq3

end

section
variable {prog : Program} {w : World} {A : Around} {E : Value → Shared → Prop} {s : Shared}


/-- t + u, t not empty -/
theorem cat_tup {t b : Addr} {vs ws : List Value} {Q : Value → Shared → Prop} (ht : IsTup s.heap t vs.toArray) (hb : IsTup s.heap b ws.toArray) (hv : vs ≠ [])
    (h1 : ws = [] → Q (.ref t) s) (h2 : ws ≠ [] → Q (.ref s.heap.objs.size) { s with heap := s.heap.push { cls := .type "tuple", data := .seq (vs ++ ws).toArray } })
    (hsz : vs.length + ws.length ≤ sizeLine) : wpAny (model prog w) A (binaryOp .Add (.ref t) (.ref b)) Q E s := by
  obtain ⟨⟨cls, dd, data, sl⟩, ho, hc, n, hd⟩ := id ht
  obtain ⟨⟨cls2, dd2, data2, sl2⟩, ho2, hc2, n2, hd2⟩ := id hb
  simp only at hc hd hc2 hd2
  subst hc hd hc2 hd2
  have e : vs.toArray ++ ws.toArray = (vs ++ ws).toArray := by simp
  by_cases hw : ws = []
  · exact concat_meets ⟨_, ho, rfl⟩ ⟨_, ho2, rfl⟩ noFill_tuple_add seq_tuple_add PySem.F.slot_tuple_add PySem.F.entry_tuple_add (PySem.F.args_tuple_add_2 _ _)
      (tuple_addW1 t b vs.toArray ws.toArray n n2 dd dd2 sl sl2 (by simpa using hv) (by simp [hw])) ⟨ho, ho2, h1 hw⟩
  · refine concat_meets ⟨_, ho, rfl⟩ ⟨_, ho2, rfl⟩ noFill_tuple_add seq_tuple_add PySem.F.slot_tuple_add PySem.F.entry_tuple_add (PySem.F.args_tuple_add_2 _ _)
      (tuple_addW2 t b vs.toArray ws.toArray n n2 dd dd2 sl sl2 (by simpa using hv) (by simpa using hw) (by rw [List.size_toArray, List.size_toArray]; exact hsz)) ⟨ho, ho2, ?_⟩
    rw [e]
    exact h2 hw

/-! ### t[a:b], not the whole -/
/-- a slice's bound as a place among n (d where it is left out) -/
def sIx (n d : Nat) : Option Int → Nat
  | none => d
  | some v => if v < 0 then (v + (n : Int)).toNat else min v.toNat n
theorem sIx_none (n d : Nat) : sIx n d none = d := rfl
theorem sIx_nat (n d k : Nat) : sIx n d (some (k : Int)) = min k n := by
  show (if (k : Int) < 0 then ((k : Int) + (n : Int)).toNat else min (k : Int).toNat n) = min k n
  rw [if_neg (by omega), Int.toNat_natCast]

end
end HT

namespace L2
open PySem PySem.Spec PyProof.Rows

/-! ### the parts of a slice -/
abbrev TO := St → Hp → (Option Int → Hp → Prop) → Prop
/-- a slice's part (left out, or an int) -/
def PO (X : Cx) (e : Option Expr) (t : TO) : Prop :=
  ∀ (pins : List (Addr × Obj)) (s : Shared) (σ : St) (H : Hp) (Q : Option Int → Hp → Prop), Inv X pins σ H s → t σ H Q →
    wpAny (model X.prog X.w) X.A (evalPart e X.env) (fun u s' => ∃ o H', Inv X pins σ H' s' ∧ IsPart u o ∧ Q o H') X.xe s
def tNoPart : TO := fun _ H Q => Q none H
def tPart (t : TE) : TO := fun σ H Q => t σ H fun x H1 => ∃ i, x = .int i ∧ Q (some i) H1


section
variable {X : Cx} {e : Expr} {te : TE} {lo hi : Option Expr} {tl th : TO} {pos p2 : Pos}

theorem po_none : PO X none tNoPart := by
  intro pins s σ H Q I h
  rw [evalPart_none]
  exact wpAny_pure ⟨none, H, I, .none, h⟩
theorem po_some (h : PE X e te) : PO X (some e) (tPart te) := by
  intro pins s σ H Q I hw
  rw [evalPart_some]
  refine thn (h pins s σ H _ I hw) fun u s1 ⟨x, H1, I1, r1, q1⟩ => ?_
  obtain ⟨i, rfl, q⟩ := q1
  obtain ⟨t, rfl⟩ := r1
  exact ⟨some i, H1, I1, .int i t, q⟩

/-- what a slice of a value is, by values: the slice object stands at sl -/
def SlR (X : Cx) (r : V → Option Int → Option Int → Hp → VK → Prop) : Prop :=
  ∀ (pins : List (Addr × Obj)) (s : Shared) (σ : St) (H : Hp) (x : V) (v vl vu : Value) (lo hi : Option Int) (sl : Addr) (Q : VK), Inv X pins σ H s → RelV x v → s.heap.IsSliceOf sl vl vu .none → IsPart vl lo → IsPart vu hi → r x lo hi H Q →
    ∃ T id, typeLookup (.type T) "__getitem__" = pure (some (.builtin id)) ∧ s.TypeIs v T ∧ wpAny (model X.prog X.w) X.A (getItem v (.ref sl)) (EP X pins σ Q) X.xe s
def tSl (r : V → Option Int → Option Int → Hp → VK → Prop) (te : TE) (tl th : TO) : TE := fun σ H Q => te σ H fun x H1 => tl σ H1 fun l H2 => th σ H2 fun u H3 => r x l u H3 Q
/-- a[lo:hi], any a -/
theorem pe_slice {r : V → Option Int → Option Int → Hp → VK → Prop} (hr : SlR X r) (he : PE X e te) (hl : PO X lo tl) (hu : PO X hi th) : PE X (.Subscript e (.Slice lo hi none p2) pos) (tSl r te tl th) := by
  intro pins s σ H Q I h
  refine Subscript_ (thn (he pins s σ H _ I h) fun v s1 ⟨x, H1, I1, r1, q1⟩ => ?_)
  refine wpAny_Slice (thn (hl pins s1 σ H1 _ I1 q1) fun vl s2 ⟨l, H2, I2, pl, q2⟩ => thn (hu pins s2 σ H2 _ I2 q2) fun vu s3 ⟨u, H3, I3, pu, q3⟩ => ?_)
  rw [evalPart_none]
  refine wpAny_pure ?_
  have I4 : Inv X pins σ H3 { s3 with heap := s3.heap.push { cls := .type "slice", data := .fields #[vl, vu, .none] } } := I3.kept (t' := s3.toks) fun b ob q => Heap.get?_push_of_some _ q
  obtain ⟨T, id, hT, ht, hg⟩ := hr pins { s3 with heap := s3.heap.push { cls := .type "slice", data := .fields #[vl, vu, .none] } } σ H3 x v vl vu l u s3.heap.objs.size Q I4 r1 (Heap.IsSliceOf.new ..) pl pu q3
  show wpAny (model X.prog X.w) X.A (subscriptTail e (.Slice lo hi none p2) v (.ref s3.heap.objs.size)) (EP X pins σ Q) X.xe { s3 with heap := s3.heap.push { cls := .type "slice", data := .fields #[vl, vu, .none] } }
  exact tail_any (ops := [.ref s3.heap.objs.size, v]) ht hT hg (by with_unfolding_all rfl)

/-- the items of xs[lo:hi] -/
def cutV (xs : List V) (lo hi : Option Int) : List V := (xs.drop (HT.sIx xs.length 0 lo)).take (HT.sIx xs.length xs.length hi - HT.sIx xs.length 0 lo)
theorem cutV_length (xs : List V) (lo hi : Option Int) : (cutV xs lo hi).length ≤ xs.length := by
  unfold cutV
  rw [List.length_take, List.length_drop]
  omega

/-! ### t < u, t + u -/
/-- t + u, t not empty: u empty gives t itself -/
def rCatT (K : PySem.W.Frag) : R2 := fun x y H Q => ∃ a b xs ys, x = .ref a ∧ y = .ref b ∧ SqT K H a xs ∧ SqT K H b ys ∧ xs ≠ [] ∧ xs.length + ys.length ≤ sizeLine ∧
  (ys = [] → Q (.ref a) H) ∧ (ys ≠ [] → ∀ p, H p = none → Q (.ref p) (upd H p (.tup (xs ++ ys))))
theorem Vals.nil_iff {xs : List V} {us : List Value} (r : Vals xs us) : us = [] ↔ xs = [] := by
  cases r with
  | nil => simp
  | cons _ _ => simp
theorem op_catT : OpR X (binaryOp .Add) (rCatT X.K) := by
  intro pins s σ H x y v u Q I rx ry h
  obtain ⟨a, b, xs, ys, rfl, rfl, ha, hb, hx, hz, q1, q2⟩ := h
  cases rx
  cases ry
  obtain ⟨its, r1, p1, _⟩ := I.tuple ha
  obtain ⟨its2, r2, p2, _⟩ := I.tuple hb
  refine HT.cat_tup p1 p2 (fun z => hx (r1.nil_iff.mp z)) (fun z => ⟨.ref a, H, I, rfl, q1 (r2.nil_iff.mp z)⟩) (fun z => ?_) (by rw [← r1.length, ← r2.length]; exact hz)
  refine ⟨.ref s.heap.objs.size, _, I.laid (t' := s.toks) (o := .tup (xs ++ ys)) (fun b ob q => Heap.get?_push_of_some _ q) (Nat.le_refl _) ?_, rfl, q2 (fun w => z (r2.nil_iff.mpr w)) _ (I.hok.fresh (Nat.le_refl _))⟩
  exact ⟨by rw [List.length_append]; exact hz, _, r1.append r2, IsTup.new _ _⟩
end
end L2

namespace L2
open PySem PySem.Spec PyProof.Rows

/-! ### places -/
/-- the place that an index of any sign means -/
def ixN (n : Nat) (i : Int) : Option Nat := if 0 ≤ i then (if i < n then some i.toNat else none) else if -(n : Int) ≤ i then some (i + n).toNat else none
def atI {α : Type} (xs : List α) (i : Int) : Option α := (ixN xs.length i).bind fun j => xs[j]?
theorem ixN_seq {n : Nat} {i : Int} {j : Nat} (h : ixN n i = some j) : seqIndex? i n = some j ∧ j < n ∧ -(n : Int) ≤ i ∧ i < n := by
  unfold ixN at h
  by_cases h0 : 0 ≤ i
  · rw [if_pos h0] at h
    by_cases h1 : i < n
    · rw [if_pos h1] at h
      have e : i.toNat = j := Option.some.inj h
      exact ⟨by rw [seqIndex_of h0 h1, e], by omega, by omega, h1⟩
    · rw [if_neg h1] at h; cases h
  · rw [if_neg h0] at h
    by_cases h1 : -(n : Int) ≤ i
    · rw [if_pos h1] at h
      have e : (i + n).toNat = j := Option.some.inj h
      exact ⟨by rw [seqIndex_neg (by omega) h1, e], by omega, h1, by omega⟩
    · rw [if_neg h1] at h; cases h
theorem atI_get {α : Type} {xs : List α} {i : Int} {v : α} (h : atI xs i = some v) : ∃ j, seqIndex? i xs.length = some j ∧ xs[j]? = some v ∧ j < xs.length ∧ -(xs.length : Int) ≤ i ∧ i < xs.length := by
  unfold atI at h
  cases e : ixN xs.length i with
  | none => rw [e] at h; cases h
  | some j =>
    rw [e] at h
    obtain ⟨h1, h2, h3, h4⟩ := ixN_seq e
    exact ⟨j, h1, h, h2, h3, h4⟩
theorem atI_nat {α : Type} {xs : List α} {j : Nat} {v : α} (h : xs[j]? = some v) : atI xs (j : Int) = some v := by
  have hj : j < xs.length := (List.getElem?_eq_some_iff.mp h).1
  have e : ixN xs.length (j : Int) = some j := by
    unfold ixN
    rw [if_pos (by omega), if_pos (by omega)]; simp
  unfold atI; rw [e]; exact h

/-! ### what may be subscripted -/
/-- what stands as an index of a plain subscript -/
def PlainIx (b : Expr) : Prop := ∀ o i, subscripted b false o i = operate [o, i] (getItem o i)
/-- a subscript by values -/
def IxR (X : Cx) (r : R2) : Prop :=
  ∀ (value slice : Expr) (pins : List (Addr × Obj)) (s : Shared) (σ : St) (H : Hp) (x y : V) (v u : Value) (Q : VK), Inv X pins σ H s → RelV x v → RelV y u → r x y H Q →
    subscripted slice false v u = operate [v, u] (getItem v u) → wpAny (model X.prog X.w) X.A (subscriptTail value slice v u) (EP X pins σ Q) X.xe s
/-- a call of a builtin's method by values: the receiver, the arguments -/
def MtR (X : Cx) (id : String) (r : V → List V → Hp → VK → Prop) : Prop :=
  ∀ (pins : List (Addr × Obj)) (s : Shared) (σ : St) (H : Hp) (x : V) (xs : List V) (v : Value) (us : List Value) (Q : VK), Inv X pins σ H s → RelV x v → Vals xs us → r x xs H Q →
    wpAny (model X.prog X.w) X.A (call (.builtin id) (v :: us)) (EP X pins σ Q) X.xe s
section
variable {X : Cx} {a b : Expr} {ta tb : TE} {pos : Pos}
theorem IxR.or {r r' : R2} (h : IxR X r) (h' : IxR X r') : IxR X (fun x y H Q => r x y H Q ∨ r' x y H Q) := by
  intro value slice pins s σ H x y v u Q I rx ry q hs
  rcases q with q | q
  · exact h value slice pins s σ H x y v u Q I rx ry q hs
  · exact h' value slice pins s σ H x y v u Q I rx ry q hs
/-- a[b] -/
theorem pe_ix {r : R2} (hr : IxR X r) (ha : PE X a ta) (hb : PE X b tb) (hs : PlainIx b) : PE X (.Subscript a b pos) (tOp r ta tb) := by
  intro pins s σ H Q I h
  exact Subscript_ (binT ha hb I h fun v u s2 x y H2 I2 rx ry q => hr a b pins s2 σ H2 x y v u Q I2 rx ry q (hs _ _))

def rIxL (K : PySem.W.Frag) : R2 := fun x y H Q => ∃ p xs i v, x = .ref p ∧ y = .int i ∧ SqL K H p xs ∧ atI xs i = some v ∧ Q v H
def rIxT (K : PySem.W.Frag) : R2 := fun x y H Q => ∃ p xs i v, x = .ref p ∧ y = .int i ∧ SqT K H p xs ∧ atI xs i = some v ∧ Q v H
def rIxS : R2 := fun x y H Q => ∃ z i c, x = .str z ∧ y = .int i ∧ z.length ≤ sizeLine ∧ atI z.cps.toList i = some c ∧ Q (.str ⟨#[c]⟩) H
theorem ix_list : IxR X (rIxL X.K) := by
  intro value slice pins s σ H x y v u Q I rx ry h hs
  obtain ⟨p, xs, i, z, rfl, rfl, hq, he, q⟩ := h
  cases rx
  obtain ⟨t, rfl⟩ := ry
  obtain ⟨its, r, pl, hz⟩ := I.list hq
  obtain ⟨j, h1, h2, h3, h4, h5⟩ := atI_get he
  obtain ⟨w, ew, rw'⟩ := r.get h2
  have hl := r.length
  have hn := line63
  have fin : EP X pins σ Q w s := ⟨z, H, I, rw', q⟩
  by_cases h0 : 0 ≤ i
  · have hj : i.toNat = j := by
      rw [seqIndex_of h0 h5] at h1
      exact Option.some.inj h1
    exact item_listR pl.isList h0 (by omega) (by rw [hj]; simpa using ew) fin hs
  · have hj : (i + (its.toArray.size : Int)).toNat = j := by
      rw [seqIndex_neg (by omega) h4] at h1
      rw [List.size_toArray, ← hl]
      exact Option.some.inj h1
    exact subscriptTail_builtinR (x := w) pl.isList.typeIs slot_list_getitem.lookup
      (wpAny_getItem_list_neg (Q := fun r s' => r = w ∧ EP X pins σ Q r s') pl.isList (by omega) (by rw [List.size_toArray] <;> omega) (by omega) (by rw [hj]; simpa using ew) ⟨rfl, fin⟩) hs
theorem ix_tup : IxR X (rIxT X.K) := by
  intro value slice pins s σ H x y v u Q I rx ry h hs
  obtain ⟨p, xs, i, z, rfl, rfl, hq, he, q⟩ := h
  cases rx
  obtain ⟨t, rfl⟩ := ry
  obtain ⟨its, r, pl, hz⟩ := I.tuple hq
  obtain ⟨j, h1, h2, h3, h4, h5⟩ := atI_get he
  obtain ⟨w, ew, rw'⟩ := r.get h2
  have hl := r.length
  have hn := line63
  have fin : EP X pins σ Q w s := ⟨z, H, I, rw', q⟩
  exact subscriptTail_builtinR (x := w) pl.typeIs slot_tuple_getitem.lookup
    (getItem_tuple (j := j) (Q := fun r s' => r = w ∧ EP X pins σ Q r s') pl (by omega) (by omega) (by rw [List.size_toArray, ← hl]; exact h1) (by simpa using ew) ⟨rfl, fin⟩) hs
theorem ix_str : IxR X rIxS := by
  intro value slice pins s σ H x y v u Q I rx ry h hs
  obtain ⟨z, i, c, rfl, rfl, hz, he, q⟩ := h
  obtain ⟨t, rfl⟩ := rx
  obtain ⟨t', rfl⟩ := ry
  obtain ⟨j, h1, h2, h3, h4, h5⟩ := atI_get he
  have hl : z.cps.toList.length = z.length := by simp [Str.length]
  rw [hl] at h1 h4 h5
  have hn := line63
  exact tail_any (typeIs_str s z t) slot_str_getitem.lookup (getItem_str (c := c) (by
    have e1 : decide (i < -(2 ^ 63 : Int)) = false := decide_eq_false (by omega)
    have e2 : decide (i ≥ 2 ^ 63) = false := decide_eq_false (by omega)
    rw [e1, e2, Bool.or_false]) (by rw [h1]; simpa using h2) ⟨.str ⟨#[c]⟩, H, I.tok _, ⟨_, rfl⟩, q⟩) hs
/-- list, tuple or str -/
def rIx (K : PySem.W.Frag) : R2 := fun x y H Q => rIxL K x y H Q ∨ rIxT K x y H Q ∨ rIxS x y H Q
theorem ix_seq : IxR X (rIx X.K) := ix_list.or (ix_tup.or ix_str)

/-! ### xs[i] = v, any sign -/
/-- the list's object behind a store -/
theorem mapSeq_set (its : List Value) (n j : Nat) (u : Value) : Obj.mapSeq (·.setIfInBounds j u) { cls := .type "list", data := .seq its.toArray n } = { cls := .type "list", data := .seq (its.set j u).toArray n } := by
  simp [Obj.mapSeq]
theorem Inv.lst {pins : List (Addr × Obj)} {σ : St} {H : Hp} {s : Shared} {p : Addr} {xs : List V} (I : Inv X pins σ H s) (h : H p = some (.lst xs)) :
    ∃ (its : List Value) (n : Nat), Vals xs its ∧ s.heap.get? p = some { cls := .type "list", data := .seq its.toArray n } ∧ xs.length ≤ sizeLine := by
  obtain ⟨z, its, n, r, e⟩ := I.hok p _ h
  exact ⟨its, n, r, e, z⟩
/-- the list at p is written by an update of its object -/
theorem Inv.lstUpd {pins : List (Addr × Obj)} {σ : St} {H : Hp} {s : Shared} {p : Addr} {xs ys : List V} {its its' : List Value} {n n' : Nat} {f : Obj → Obj} (I : Inv X pins σ H s) (h : H p = some (.lst xs))
    (ho : s.heap.get? p = some { cls := .type "list", data := .seq its.toArray n }) (hf : f { cls := .type "list", data := .seq its.toArray n } = { cls := .type "list", data := .seq its'.toArray n' }) (r : Vals ys its') (hz : ys.length ≤ sizeLine) (t : Nat) :
    Inv X pins σ (upd H p (.lst ys)) { s with heap := s.heap.update p f, toks := t } := by
  have e : (s.heap.update p f).get? p = some { cls := .type "list", data := .seq its'.toArray n' } := by
    rw [Heap.get?_update_self f ho (by rw [hf] <;> rfl), hf]
  refine I.write (x := p) (e := p) (by rw [h]; trivial) (.inl rfl) (fun b u hb q => (Heap.get?_update_other _ _ (Ne.symm hb)).trans q) ⟨_, e⟩ ?_
  exact ⟨hz, its', n', r, e⟩
def rSetL : V → V → V → Hp → (Hp → Prop) → Prop := fun o i v H Q => ∃ p xs k j, o = .ref p ∧ i = .int k ∧ H p = some (.lst xs) ∧ ixN xs.length k = some j ∧ Q (upd H p (.lst (xs.set j v)))
theorem set_list : PSet X rSetL := by
  intro pins s σ H o i v ov iv u Q I ro ri rv h
  obtain ⟨p, xs, k, j, rfl, rfl, hp, hj, q⟩ := h
  cases ro
  obtain ⟨t, rfl⟩ := ri
  obtain ⟨its, n, r, ho, hz⟩ := I.lst hp
  obtain ⟨h1, h2, h3, h4⟩ := ixN_seq hj
  have hl := r.length
  have hn := line63
  have I' : Inv X pins σ (upd H p (.lst (xs.set j v))) { s with heap := s.heap.update p (Obj.mapSeq (·.setIfInBounds j u)) } :=
    I.lstUpd hp ho (mapSeq_set its n j u) (r.set rv j) (by rw [List.length_set]; exact hz) s.toks
  by_cases h0 : 0 ≤ k
  · have hk : k.toNat = j := by
      rw [seqIndex_of h0 h4] at h1
      exact Option.some.inj h1
    exact PySem.W.ki_setAt ho h0 (by omega) (by rw [List.size_toArray, ← hl]; exact h4) (by rw [hk]; exact ⟨_, I', q⟩)
  · have hk : (k + (its.toArray.size : Int)).toNat = j := by
      rw [seqIndex_neg (by omega) h3] at h1
      rw [List.size_toArray, ← hl]
      exact Option.some.inj h1
    exact PySem.W.ki_setBack ho (by omega) (by rw [List.size_toArray, ← hl]; exact h3) (by omega) (by rw [hk]; exact ⟨_, I', q⟩)

/-! ### slices -/
theorem slice_bounds (lo hi : Option Int) (n : Nat) : (sliceBounds lo hi none n).1 = ((HT.sIx n 0 lo : Nat) : Int) ∧ (sliceBounds lo hi none n).2.1 = ((HT.sIx n n hi : Nat) : Int) ∧ (sliceBounds lo hi none n).2.2 = 1 := by
  refine ⟨?_, ?_, rfl⟩
  · cases lo with
    | none => simp [sliceBounds, HT.sIx]
    | some i =>
      simp only [sliceBounds, HT.sIx, Option.getD_none, show (1 : Int) > 0 by decide, if_true]
      by_cases h : i < 0
      · simp only [h, if_true] <;> omega
      · simp only [h, if_false] <;> omega
  · cases hi with
    | none => simp [sliceBounds, HT.sIx]
    | some i =>
      simp only [sliceBounds, HT.sIx, Option.getD_none, show (1 : Int) > 0 by decide, if_true]
      by_cases h : i < 0
      · simp only [h, if_true] <;> omega
      · simp only [h, if_false] <;> omega
theorem slicePick_cut (its : List Value) (lo hi : Option Int) : slicePick its.toArray lo hi none = ((its.drop (HT.sIx its.length 0 lo)).take (HT.sIx its.length its.length hi - HT.sIx its.length 0 lo)).toArray := by
  obtain ⟨h1, h2, h3⟩ := slice_bounds lo hi its.toArray.size
  unfold slicePick
  rw [h1, h2, h3]
  simp only [sliceRange_one, pick_run, List.size_toArray] <;> rfl
/-- xs[lo:hi] of a list: a new list -/
def rSlL (K : PySem.W.Frag) : V → Option Int → Option Int → Hp → VK → Prop := fun x lo hi H Q => ∃ a xs, x = .ref a ∧ SqL K H a xs ∧ ∀ p, H p = none → Q (.ref p) (upd H p (.lst (cutV xs lo hi)))
theorem sl_list : SlR X (rSlL X.K) := by
  intro pins s σ H x v vl vu lo hi sl Q I rx hs pl pu h
  obtain ⟨a, xs, rfl, hx, q⟩ := h
  cases rx
  obtain ⟨its, r, ht, hz⟩ := I.list hx
  have hlen := r.length
  refine ⟨"list", _, slot_list_getitem.lookup, ht.isList.typeIs, ?_⟩
  refine wpAny_getItem_list_slice ht.isList hs pl pu .none (by simp) ?_ (by rw [List.size_toArray] <;> omega)
  rw [slicePick_cut, ← hlen]
  refine ⟨.ref s.heap.objs.size, _, I.laid (t' := s.toks) (o := .lst (cutV xs lo hi)) (fun b ob q => Heap.get?_push_of_some _ q) (Nat.le_refl _) ?_, rfl, q _ (I.hok.fresh (Nat.le_refl _))⟩
  exact ⟨Nat.le_trans (cutV_length xs lo hi) hz, _, 0, (r.drop (HT.sIx xs.length 0 lo)).take (HT.sIx xs.length xs.length hi - HT.sIx xs.length 0 lo), Heap.get?_push_size _ rfl⟩

/-! ### in, not in: flat items -/

/-! ### len, list(x), tuple(x) of any list or tuple that is read -/
theorem call_list_of : CallR X (.type "list") (fun xs H Q => ∃ p ys, xs = [.ref p] ∧ (SqL X.K H p ys ∨ SqT X.K H p ys) ∧ ∀ l, H l = none → Q (.ref l) (upd H l (.lst ys))) := by
  intro pins s σ H xs us Q I r h
  obtain ⟨p, ys, rfl, hq, q⟩ := h
  obtain ⟨u, rfl, rx⟩ := vals1 r
  cases rx
  have fin : ∀ (its : List Value), Vals ys its → ys.length ≤ sizeLine → ∀ (h' : Heap) (c' : Nat), (∀ b o', s.heap.get? b = some o' → h'.get? b = some o') →
      h'.get? s.heap.objs.size = some { cls := .type "list", dict := none, data := .seq its.toArray c', slots := #[] } → EP X pins σ Q (.ref s.heap.objs.size) { s with heap := h' } := fun its r' hz h' c' kp e =>
    ⟨.ref s.heap.objs.size, _, I.laid (t' := s.toks) kp (Nat.le_refl _) (show ObjOk X.prog X.w _ h' _ (.lst ys) from ⟨hz, its, c', r', e⟩), rfl, q _ (I.hok.fresh (Nat.le_refl _))⟩
  rcases hq with hq | hq
  · obtain ⟨its, r', pl, hz⟩ := I.list hq
    have hlen := r'.length
    obtain ⟨o, ho, hc, n, hd⟩ := pl.isList
    exact call_list_seq p (.inl rfl) ho hc hd (fun h' c' kp e => fin its r' hz h' c' kp e) (by simp only [List.size_toArray] <;> omega)
  · obtain ⟨its, r', pl, hz⟩ := I.tuple hq
    have hlen := r'.length
    obtain ⟨o, ho, hc, n, hd⟩ := pl
    exact call_list_seq p (.inr rfl) ho hc hd (fun h' c' kp e => fin its r' hz h' c' kp e) (by simp only [List.size_toArray] <;> omega)

/-! ### the call of a builtin's method: o.m(..) -/
/-- the value is of that builtin type -/
def tyV (K : PySem.W.Frag) (T : String) (x : V) (H : Hp) : Prop := match x with
  | .str _ => T = "str"
  | .int _ => T = "int"
  | .ref p => (T = "list" ∧ ∃ xs, SqL K H p xs) ∨ (T = "tuple" ∧ ∃ o, K.lookup p = some o ∧ o.cls = .type "tuple" ∧ o.dict = none) ∨
      (T = "dict" ∧ ((∃ kvs, H p = some (.dK kvs)) ∨ ∃ kvs, H p = some (.dT kvs))) ∨ (T = "set" ∧ ∃ S n, H p = some (.set S n))
  | _ => False
theorem tyV_is {pins : List (Addr × Obj)} {σ : St} {H : Hp} {s : Shared} {T : String} {x : V} {v : Value} (I : Inv X pins σ H s) (r : RelV x v) (ty : tyV X.K T x H) :
    s.TypeIs v T ∧ ∀ a, v = .ref a → ∃ ob, s.heap.get? a = some ob ∧ ob.dict = none := by
  cases x with
  | str z =>
    obtain ⟨t, rfl⟩ := r
    cases (show T = "str" from ty)
    exact ⟨typeIs_str s z t, fun _ e => nomatch e⟩
  | int i =>
    obtain ⟨t, rfl⟩ := r
    cases (show T = "int" from ty)
    exact ⟨typeIs_int s i t, fun _ e => nomatch e⟩
  | ref p =>
    cases r
    rcases ty with ⟨rfl, xs, hq⟩ | ⟨rfl, o, hk, hc, hd⟩ | ⟨rfl, hk⟩ | ⟨rfl, S, n, hk⟩
    · obtain ⟨its, _, pl, _⟩ := I.list hq
      refine ⟨pl.isList.typeIs, fun a e => ?_⟩
      cases e
      obtain ⟨o, n, e, c, hd, _⟩ := pl
      exact ⟨o, e, hd⟩
    · refine ⟨⟨o, I.kIn p o hk, hc⟩, fun a e => ?_⟩
      cases e
      exact ⟨o, I.kIn _ o hk, hd⟩
    · have z : ∃ o, s.heap.get? p = some o ∧ o.ExactDict := by
        rcases hk with ⟨kvs, hk⟩ | ⟨kvs, hk⟩
        · obtain ⟨_, _, _, _, o, _, _, e, ex, _⟩ := I.hok p _ hk
          exact ⟨o, e, ex⟩
        · obtain ⟨_, _, _, _, o, _, _, e, ex, _⟩ := I.hok p _ hk
          exact ⟨o, e, ex⟩
      obtain ⟨o, e, ex⟩ := z
      refine ⟨⟨o, e, ex.1⟩, fun a e2 => ?_⟩
      cases e2
      exact ⟨o, e, ex.2.1⟩
    · obtain ⟨o, _, _, _, e, ex, _⟩ := I.hok p _ hk
      refine ⟨⟨o, e, ex.1⟩, fun a e2 => ?_⟩
      cases e2
      exact ⟨o, e, ex.2.1⟩
  | _ => exact False.elim ty
def tBM (K : PySem.W.Frag) (T : String) (r : V → List V → Hp → VK → Prop) (to : TE) (t : TA) : TE := fun σ H Q => to σ H fun x H1 => tyV K T x H1 ∧ t σ H1 fun xs H2 => r x xs H2 Q
variable {o e : Expr} {es : List Expr} {to : TE} {t : TA} {name : Str} {apos cpos : Pos} {T id : String} {r : V → List V → Hp → VK → Prop}
theorem pe_bm (pa : PlainAttrs T) (slot : Slot T name id) (hty : typeOf (.builtin id) = pure (.type "method_descriptor")) (hm : MtR X id r) (ho : PE X o to) (ha : PA X (e :: es) t)
    (hbase : attributeBase o name X.env (eval o X.env) = eval o X.env := by rfl)
    (hfew : ((backTo cpos (starEach (e :: es) X.env)).all (fun x => !x.1) && (backToKw cpos (keywordEach [] X.env)).all (fun x => x.1.isSome)
      && decide ((e :: es).length + ([] : List Keyword).length + (if ([] : List Keyword).isEmpty then 0 else 1) < 30)) = true := by rfl)
    (hline : (apos.endLine == cpos.line) = true := by rfl) (hs : starEach (e :: es) X.env = (false, eval e X.env) :: starEach es X.env := by rfl) (hplain : (backTo cpos (starEach es X.env)).any (·.1) = false := by rfl) :
    PE X (.Call (.Attribute o name apos) (e :: es) [] cpos) (tBM X.K T r to t) := by
  intro pins s σ H Q I h
  refine wpAny_Call_method_late hbase hfew hline rfl (thn (ho pins s σ H _ I h) fun v s1 ⟨x, H1, I1, r1, ty, q1⟩ => ?_)
  obtain ⟨h1, h2⟩ := tyV_is I1 r1 ty
  refine ⟨T, id, pa, slot, hty, h1, h2, ?_⟩
  have hA := ha cpos pins s1 σ H1 _ I1 q1
  rw [hs] at hA ⊢
  refine Calls.callWith_builtin (by show (false || (backTo cpos (starEach es X.env)).any (·.1)) = false; rw [hplain] <;> rfl) (Calls.evalArgs_plain ?_)
  exact thn hA fun us s2 ⟨vs, H2, I2, r2, q2⟩ => hm pins s2 σ H2 x vs v us Q I2 r1 r2 q2
/- xs.append(e), list.index on a module's tuple .. are MtR facts of 06m -/
end
end L2

namespace L2
open PySem PySem.Spec PyProof.Rows

def MtM (X : Cx) (id : String) (r : V → List V → Hp → VK → Prop) : Prop :=
  ∀ (pins : List (Addr × Obj)) (s : Shared) (σ : St) (H : Hp) (x : V) (xs : List V) (v : Value) (us : List Value) (Q : VK), Inv X pins σ H s → RelV x v → Vals xs us → r x xs H Q →
    wpAny (model X.prog X.w) X.A (call (.builtin id) (v :: us)) (EP X pins σ Q) X.xe s

/-! ### lists of values -/
theorem Vals.one : ∀ {x : V} {us : List Value}, Vals [x] us → ∃ u, us = [u] ∧ RelV x u
  | _, _, .cons r .nil => ⟨_, rfl, r⟩
theorem Vals.rep {xs : List V} {us : List Value} (h : Vals xs us) : ∀ k : Nat, Vals (List.replicate k xs).flatten (List.replicate k us).flatten
  | 0 => .nil
  | k + 1 => by
    rw [List.replicate_succ, List.replicate_succ, List.flatten_cons, List.flatten_cons]
    exact Vals.append h (Vals.rep h k)
theorem foldl_rep (its : List Value) : ∀ (k : Nat) (acc : List Value),
    List.foldl (fun x1 x2 => x1 ++ x2) acc.toArray (List.replicate k its.toArray) = (acc ++ (List.replicate k its).flatten).toArray
  | 0, acc => by simp
  | k + 1, acc => by
    have e : acc.toArray ++ its.toArray = (acc ++ its).toArray := by simp
    have e2 : (acc ++ its) ++ (List.replicate k its).flatten = acc ++ (List.replicate (k + 1) its).flatten := by
      rw [List.replicate_succ, List.flatten_cons, List.append_assoc]
    rw [← e2, ← foldl_rep its k (acc ++ its), ← e, List.replicate_succ, List.foldl_cons]

section
variable {X : Cx} {pins : List (Addr × Obj)} {σ : St} {H : Hp} {s : Shared} {l b : Addr} {xs ys zs : List V}

/-! ### the two steps: a tracked list is rewritten, a new list is laid -/
theorem Inv.lset {its its' : List Value} {n : Nat} {f : Array Value → Array Value} {t' : Nat} (I : Inv X pins σ H s) (hH : H l = some (.lst xs))
    (e : s.heap.get? l = some { cls := .type "list", data := .seq its.toArray n }) (hf : f its.toArray = its'.toArray) (hv : Vals ys its') (hz : ys.length ≤ sizeLine) :
    Inv X pins σ (upd H l (.lst ys)) { s with heap := s.heap.update l (Obj.mapSeq f), toks := t' } := by
  have q := PySem.IsL.update e f
  rw [hf] at q
  refine I.write (x := l) (e := l) (by rw [hH]; exact trivial) (.inl rfl) (fun b' u hb hu => (Heap.get?_update_other s.heap (Obj.mapSeq f) (Ne.symm hb)).trans hu) ⟨_, q⟩ ?_
  exact ⟨hz, its', _, hv, q⟩
theorem Inv.lnew {its : List Value} {t' : Nat} (I : Inv X pins σ H s) (hv : Vals ys its) (hz : ys.length ≤ sizeLine) :
    Inv X pins σ (upd H s.heap.objs.size (.lst ys)) { s with heap := s.heap.push { cls := .type "list", data := .seq its.toArray }, toks := t' } :=
  I.laid (fun _ _ q => Heap.get?_push_of_some _ q) (Nat.le_refl _) ⟨hz, its, 0, hv, Heap.get?_push_size _ rfl⟩
theorem Inv.fresh (I : Inv X pins σ H s) : H s.heap.objs.size = none := I.hok.fresh (Nat.le_refl _)
theorem Inv.lstM (I : Inv X pins σ H s) (hH : H l = some (.lst xs)) : xs.length ≤ sizeLine ∧ ∃ (its : List Value) (n : Nat), Vals xs its ∧ xs.length = its.length ∧ s.heap.get? l = some { cls := .type "list", data := .seq its.toArray n } := by
  obtain ⟨z, its, n, r, e⟩ := I.hok l _ hH
  exact ⟨z, its, n, r, r.length, e⟩

theorem notLongL {n : Nat} (h : n ≤ sizeLine) : Builtin.List.listTooLong n = false := by
  unfold Builtin.List.listTooLong
  exact decide_eq_false (by omega)
end

section
variable {X : Cx}

/-! ### methods -/
def rAppend : V → List V → Hp → VK → Prop := fun x vs H Q => ∃ l xs y, x = .ref l ∧ vs = [y] ∧ H l = some (.lst xs) ∧ xs.length < sizeLine ∧ Q .non (upd H l (.lst (xs ++ [y])))
theorem mt_append : MtM X "list.append" rAppend := by
  intro pins s σ H x vs v us Q I rx rv h
  obtain ⟨l, xs, y, rfl, rfl, hH, hz, q⟩ := h
  cases rx
  obtain ⟨u, rfl, ru⟩ := rv.one
  obtain ⟨z, its, n, r, hl, e⟩ := I.lstM hH
  refine call_meets F.slot_list_append ⟨_, e, rfl⟩ F.entry_list_append (F.args_list_append_2 _ _) (PySem.list_append l its.toArray n u (by rw [List.size_toArray]; omega)) ⟨e, ?_⟩
  refine ⟨.non, _, I.lset (its' := its ++ [u]) hH e (by simp) (r.append (.cons ru .nil)) ?_, rfl, q⟩
  rw [List.length_append, List.length_singleton]
  omega






/-! ### list + list, list += list, list * int -/
/-- a list times an int (a negative one is nothing) -/
def rRep : R2 := fun x y H Q => ∃ l k xs, x = .ref l ∧ y = .int k ∧ H l = some (.lst xs) ∧ -(2 ^ 63) ≤ k ∧ k < 2 ^ 63 ∧ xs.length * k.toNat ≤ sizeLine ∧
  ∀ p, H p = none → Q (.ref p) (upd H p (.lst (List.replicate k.toNat xs).flatten))
theorem len_rep {α : Type} (xs : List α) (k : Nat) : (List.replicate k xs).flatten.length = k * xs.length := by
  induction k with
  | zero => simp
  | succ k ih => rw [List.replicate_succ, List.flatten_cons, List.length_append, ih, Nat.succ_mul, Nat.add_comm]
theorem op_rep : OpR X (binaryOp .Mult) rRep := by
  intro pins s σ H x y v u Q I rx ry h
  obtain ⟨l, k, xs, rfl, rfl, hH, h1, h2, hz, q⟩ := h
  cases rx
  obtain ⟨t, rfl⟩ := ry
  obtain ⟨z, its, n, r, hl, e⟩ := I.lstM hH
  have hlen : its.toArray.size * k.toNat ≤ sizeLine := by rw [List.size_toArray, ← hl]; exact hz
  have hcap : ¬ its.toArray.size * k.toNat > (2 ^ 63 - 1) / 8 := by
    have : (sizeLine : Nat) ≤ (2 ^ 63 - 1) / 8 := by decide
    omega
  have hfit : ¬ (!Builtin.List.listFitsIndex k) = true := by
    rw [fitsIndex_both h1 h2]
    exact Bool.false_ne_true
  have hlong : ¬ Builtin.List.listTooLong (its.toArray.size * k.toNat) = true := by
    rw [notLongL hlen]
    exact Bool.false_ne_true
  have hnew : List.foldl (fun x1 x2 => x1 ++ x2) #[] (List.replicate (if its.toArray.isEmpty = true then 0 else k.toNat) its.toArray) = (List.replicate k.toNat its).flatten.toArray := by
    have f0 : ∀ m : Nat, List.foldl (fun x1 x2 => x1 ++ x2) #[] (List.replicate m its.toArray) = (List.replicate m its).flatten.toArray := fun m => by
      have := foldl_rep its m []
      rw [List.nil_append] at this
      exact this
    rw [f0]
    cases its with
    | nil => simp
    | cons a r' => rw [if_neg (by simp)]
  refine wpAny_binaryOp_repeat_ref (T := "list") (U := "int") (by decide) ⟨_, e, rfl⟩ (fun s' => typeIs_int s' k t) noFill_list_mul F.fills_int_mul F.slot_int_rmul repeat_list F.slot_int_index.lookup
    (call_meets F.slot_int_rmul (typeIs_int s k t) F.entry_int_rmul (F.args_int_rmul_2 _ _) (int___rmul___int_list k t l its.toArray n)
      ⟨e, rfl, ⟨_, e, rfl⟩, call_meets F.slot_list_mul ⟨_, e, rfl⟩ F.entry_list_mul (F.args_list_mul_2 _ _) (AutoListH.list___mul___list_int_3 l its.toArray n k t hfit hcap hlong) ⟨e, ?_⟩⟩)
  rw [hnew]
  exact ⟨.ref _, _, I.lnew (t' := s.toks) (r.rep k.toNat) (by rw [len_rep, Nat.mul_comm]; exact hz), rfl, q _ I.fresh⟩

/-! ### del xs[i] -/
end

/-! ### xs[a:b] = ys -/
section
variable {prog : Program} {w : World} {A : Around} {E : Value → Shared → Prop} {s : Shared}
set_option maxRecDepth 100000 in
end

section
variable {X : Cx}
end
end L2

namespace Att
open PySem PySem.W PySem.Calls PyProof.Rows

/-! ### the script -/
theorem ints_of_wellAll {P : Params} {h : Heap} : ∀ (ns : List Int) (vs : List Value), WellAll P h vs (ns.map WData.int) → IntsAre vs ns := by
  intro ns
  induction ns with
  | nil =>
    intro vs w
    rw [List.map_nil] at w
    cases w
    exact .nil
  | cons n ns ih =>
    intro vs w
    rw [List.map_cons] at w
    cases w with
    | cons a b =>
      cases a
      exact .cons _ _ (ih _ b)

theorem script_of {l : OpenLaw} {n : Nat} (hn : l.most = some n) {P : Params} {h : Heap} {args : List WData} {vals : List Value}
    (hpre : l.row.toRowW.claim.pre args = true) (hwl : WellAll P h vals args) :
    ∃ a vs ns, vals = [Value.ref a] ∧ args = [WData.list (ns.map WData.int)] ∧ h.get? a = some { cls := .type "list", data := .seq vs.toArray } ∧ IntsAre vs ns ∧ ns.length ≤ n := by
  have hsh : WShape.hasAll [] args [.list .int] = true := (pre_splitW hpre).1
  have hc : l.pre.holds [] { args := args } = true := (pre_splitW hpre).2
  obtain ⟨d, r, rfl, h1, h2⟩ := hasAllW_cons hsh
  obtain rfl := hasAllW_nil h2
  obtain ⟨xs, rfl, h3⟩ := hasW_list h1
  obtain ⟨ns, rfl⟩ := items_int h3
  have hlen : ns.length ≤ n := by
    unfold OpenLaw.pre at hc
    have h4 : (WTm.not (.lt (.lit (.int (n : Int))) (.len (.arg 0)))).holds [] { args := [.list (ns.map .int)] } = true := by
      have h4 := (holds_andW hc).1
      rw [hn] at h4
      exact h4
    have h5 := condW_of h4 (w_not (w_lt w_lit (w_len_list (w_arg rfl))))
    rw [List.length_map] at h5
    refine Nat.le_of_not_lt fun q => ?_
    have q' : (n : Int) < ((ns.length : Nat) : Int) := by omega
    first
      | (rw [decide_eq_true q'] at h5; exact absurd h5 (by decide))
      | (simp at h5; omega)
  cases hwl with
  | cons w1 w2 =>
    cases w2
    cases w1 with
    | list ho hall => exact ⟨_, _, ns, rfl, rfl, ho, ints_of_wellAll ns _ hall, hlen⟩

theorem post_true (l : OpenLaw) (args : List WData) : l.row.toRowW.claim.post args (.bool true) args = true :=
  postW_of (r := l.row.toRowW) (X := (true == true))
    (show WShape.has [] (.bool true) .bool = true by first | rfl | decide | simp [WShape.has, WShape.arms, WShape.armsAll])
    (show (WTm.eq .res (.lit (.bool true))).value [] { args := args, res := some (.bool true), after := args } = some (.bool (true == true)) from w_eq_bool (w_res rfl) w_lit) rfl

/-! ### the attachment: holds_open's last premise (the goal 'hc' behind k_head) from a wpAny of the law's body -/

/-- the same from a codeAny of the CALL (for a layer whose function contracts speak of calls) -/
theorem attach_call {l : OpenLaw} {n : Nat} {q : Program} {loose : List Str} {XP : (Str → Option Value) → Heap → Prop} {YP : World → Heap → Prop} {d : DefRec}
    (hn : l.most = some n) (hdf : d.params.defaults = [])
    (call : ∀ (w : World) (s₀ s₁ : Shared) (mg mb : Str → Option Value) (fa : Addr) (o : Obj) (pm cd doc : Value) (a : Addr) (vs : List Value) (ns : List Int),
      Ground q loose [] XP w s₀ mg mb s₁.heap → YP w s₁.heap →
      s₁.heap.get? fa = some o → o.data = .func (docDef d.name d.params d.body d.scope pm cd doc) → s₁.heap.CodeRec cd d.name → mg d.name = some (.ref fa) →
      s₁.heap.get? a = some { cls := .type "list", data := .seq vs.toArray } → IntsAre vs ns → ns.length ≤ n → s₁.gens = #[] →
      codeAny (model l.prog w) callerA (.call (.ref fa) ⟨[.ref a], []⟩) (fun r s' => r = .ok (.ret (.bool true)) ∧ OldK s₁.heap s'.heap ∧ s'.os = s₁.os ∧ AllBare s'.gens) s₁) :
    WalkO q loose XP YP l.row.toRowW d [] (fun f vs => PySem.call f vs) := by
  intro w s₀ s₁ mg mb G Y fa o pm cd doc dV kV ho hd hcd hD hmg hg args vals as hpre hlay hrd hwl hlo
  obtain rfl : dV = .none := Dflts.none hD hdf
  obtain rfl : kV = .none := Dflts.noKw hD
  obtain ⟨a, vs, ns, rfl, rfl, hobj, hints, hlen⟩ := script_of hn hpre hwl
  refine enter_call (codeAny_mono (call w s₀ s₁ mg mb fa o pm cd doc a vs ns G Y ho (fd_plain hd) hcd hmg hobj hints hlen hg) fun r s' hq => ?_)
  obtain ⟨rfl, h2, h3, h4⟩ := hq
  exact ⟨.inl ⟨.bool true, .bool true, [], rfl, fun _ => rfl, .bool true, post_true l _, fun _ => ⟨List.Pairwise.nil, fun _ hm => (nomatch hm)⟩⟩, h2, h3, h4⟩


/-! ### rules over ANY heap (no ledger) from facts about the written part K: the library's own take a ledger (News) for what they write -/
section
variable {prog : Program} {w : World} {A : Around} {E : Value → Shared → Prop} {s : Shared} {K : Frag}





/-! the whole heap as the ledger: makes every rule that writes through a ledger a rule over any heap -/

end
end Att

namespace L2
open PySem PySem.Spec PyProof.Rows

theorem vals_ints : ∀ {vs : List Value} {ns : List Int}, IntsAre vs ns → Vals (ns.map V.int) vs
  | _, _, .nil => .nil
  | _, _, .cons n t h => .cons ⟨t, rfl⟩ (vals_ints h)

/-- nothing is tracked but the script, known to the object (or it is an object of the module) -/
def Only (H : Hp) : Prop := ∀ b, H b = none ∨ ∃ o xs, H b = some (.frz o (.lst xs))

/-- THE HEAD: the law's promise, at the heap behind the top. F, the promise of the law's def, may use that base is part of the heap (so K.In base, base.Ns mainGlobals mg stand in Mod) -/
theorem law_call {P : Program} {w : World} {K : PySem.W.Frag} {mg mb : Str → Option Value} {CX : CXT} {k : Nat} {fa a : Addr} {fd : FuncData} {x : Str} {sp : Sp} {s₁ : Shared} {vs : List Value} {ns : List Int}
    (KX : K.In s₁.heap) (hns : s₁.heap.Ns mainGlobals mg) (hb : s₁.heap.Ns builtinsNs mb) (hbb : ∀ x : Str, x ≠ "__name__" → mb x = bootBuiltins x) (hlim : s₁.heap.NoLimit) (hg : s₁.gens = #[])
    (ha : s₁.heap.get? a = some { cls := .type "list", data := .seq vs.toArray }) (hi : IntsAre vs ns) (hl : ns.length ≤ sizeLine) (hr : Room k callerA)
    (F : ∀ base : Heap, K.In base → base.Ns mainGlobals mg → FnOk P w K mg base CX k fa fd [x] sp) (hbind : ∀ (s : Shared) (u : Value), BindsTo s fd ⟨[u], []⟩ [(x, u)])
    (hsp : ∀ H : Hp, Only H → SqL K H a (ns.map V.int) → sp [.ref a] H (fun v _ => v = .bl true) fun _ _ _ => False)
    (hCX : ∀ H e s', CX [] H s₁ (fun _ _ _ => False) e s' → False) :
    codeAny (model P w) callerA (.call (.ref fa) ⟨[.ref a], []⟩) (fun r s' => r = .ok (.ret (.bool true)) ∧ OldK s₁.heap s'.heap ∧ s'.os = s₁.os ∧ AllBare s'.gens) s₁ := by
  have rv := vals_ints hi
  have lenV := hi.length
  -- from an abstract heap in which nothing but the script may be tracked
  have core : ∀ H : Hp, Only H → SqL K H a (ns.map V.int) → HOk P w H s₁.heap → (∀ b, H b ≠ none → b = a) → (H a ≠ none → K.lookup a = none) →
      codeAny (model P w) callerA (.call (.ref fa) ⟨[.ref a], []⟩) (fun r s' => r = .ok (.ret (.bool true)) ∧ OldK s₁.heap s'.heap ∧ s'.os = s₁.os ∧ AllBare s'.gens) s₁ := by
    intro H hO hS hok hA hK
    have base_of : ∀ {b : Addr} {o : Obj}, s₁.heap.get? b = some o → H b = none → (hidT s₁.heap H).get? b = some o := fun e n => hidT_get e n
    have noA : ∀ {b : Addr} {o : Obj} {es : Array DictEntry} {ep : Nat}, s₁.heap.get? b = some o → o.data = .dict es ep → H b = none := fun {b o es ep} e d => by
      cases q : H b with
      | none => rfl
      | some u =>
        have e' : b = a := hA b (by rw [q]; simp)
        subst e'
        rw [ha] at e; cases e
        have d' : Data.seq vs.toArray _ = Data.dict es ep := d
        cases d'
    have nsK : ∀ {b : Addr} {m : Str → Option Value}, s₁.heap.Ns b m → (hidT s₁.heap H).Ns b m := fun {b m} ⟨o, es, ep, e, d, r⟩ => ⟨o, es, ep, base_of e (noA e d), d, r⟩
    have hKb : K.In (hidT s₁.heap H) := fun b o e => base_of (KX b o e) (by
      cases q : H b with
      | none => rfl
      | some u =>
        have e' : b = a := hA b (by rw [q]; simp)
        subst e'
        rw [hK (by rw [q]; simp)] at e; cases e)
    have hM : Mod K mg (hidT s₁.heap H) := ⟨hKb, nsK hns, ⟨mb, nsK hb, hbb⟩, let ⟨mc, h1, h2⟩ := hlim; ⟨mc, nsK h1, h2⟩⟩
    have e0 : Env0 P w K mg (hidT s₁.heap H) callerA [] s₁ H := ⟨rfl, hM, fun b o e => of_hidT e, Nat.le_of_eq (hidT_size _ _), trivial, fun b hb => absurd (show b ∈ ([] : List Addr) from hb) (by simp), hok, .of_eq hg⟩
    refine codeAny_mono ((F _ hKb (nsK hns)).run callerA [] s₁ H ⟨[.ref a], []⟩ [.ref a] [.ref a] _ _ hr e0 (hbind s₁ (.ref a)) (.cons rfl .nil) (hsp H hO hS)) fun r s' h => ?_
    cases r with
    | error e => exact (hCX H e s' h).elim
    | ok fl =>
      cases fl with
      | next => exact False.elim h
      | brk => exact False.elim h
      | cont => exact False.elim h
      | ret u =>
        obtain ⟨v, H', os, bare, un, hok', r', q⟩ := h
        have q' : v = .bl true := q
        subst q'
        obtain rfl : u = Value.bool true := r'
        refine ⟨rfl, OldK.of_keep fun b o e => ?_, os, bare⟩
        cases q : H b with
        | none => exact un.keep b o e q (by intro z; exact absurd (show b ∈ ([] : List Addr) from z) (by simp)) (by simp)
        | some u =>
          rcases hO b with z | ⟨ob, xs, z⟩
          · rw [q] at z; cases z
          · have z2 := un.frzs b ob _ z
            obtain ⟨e1, _⟩ := hok b _ z
            obtain ⟨e2, _⟩ := hok' b _ z2
            rw [e] at e1; cases e1
            exact e2
  cases hk : K.lookup a with
  | some o =>
    -- the script is one of the module's own objects
    have e := KX a o hk
    rw [ha] at e
    cases e
    refine core (fun _ => none) (fun _ => .inl rfl) (.inr ⟨_, vs.toArray, _, hk, rfl, rfl, rfl, by rw [List.size_toArray, lenV]; exact hl, by simpa using rv⟩) (fun b u z => by have z' : (none : Option HO) = some u := z; cases z') (fun b z => absurd rfl z) fun z => absurd rfl z
  | none =>
    refine core (fun b => if b = a then some (.frz { cls := .type "list", data := .seq vs.toArray } (.lst (ns.map V.int))) else none) (fun b => ?_) (.inl (.inr ⟨{ cls := .type "list", data := .seq vs.toArray }, if_pos rfl⟩)) (fun b u z => ?_) (fun b z => ?_) fun _ => hk
    · by_cases hb : b = a
      · exact .inr ⟨_, _, if_pos hb⟩
      · exact .inl (if_neg hb)
    · by_cases hb : b = a
      · have z' := (if_pos hb).symm.trans z
        cases z'
        subst hb
        exact ⟨ha, by rw [List.length_map]; exact hl, vs, _, rv, ha⟩
      · have z' := (if_neg hb).symm.trans z
        cases z'
    · by_cases hb : b = a
      · exact hb
      · exact absurd (if_neg hb) z
end L2

namespace L2
open PySem PySem.Spec PyProof.Rows


/-- the goal that k_head leaves (case hc), from the law's promise. F gives the function object fd (K's own) once, then the promise over every base -/
theorem walk_of {l : PySem.W.OpenLaw} {n k : Nat} {q : Program} {loose : List Str} {XP : (Str → Option Value) → Heap → Prop} {YP : World → Heap → Prop} {d : DefRec} {K : Params → PySem.W.Frag} {CX : World → CXT} {sp : World → Sp} {x : Str}
    (hn : l.most = some n) (hn2 : n ≤ sizeLine) (hdf : d.params.defaults = []) (hr : Room k callerA)
    (hY : ∀ (w : World) (h : Heap), YP w h → (K w.params).In h)
    (F : ∀ (w : World) (mg : Str → Option Value) (fa : Addr) (h : Heap), (K w.params).In h → h.Ns mainGlobals mg → mg d.name = some (.ref fa) →
      ∃ fd : FuncData, (∀ (s : Shared) (u : Value), BindsTo s fd ⟨[u], []⟩ [(x, u)]) ∧
        ∀ base : Heap, (K w.params).In base → base.Ns mainGlobals mg → FnOk l.prog w (K w.params) mg base (CX w) k fa fd [x] (sp w))
    (hsp : ∀ (w : World) (H : Hp) (a : Addr) (ns : List Int), ns.length ≤ n → Only H → SqL (K w.params) H a (ns.map V.int) → sp w [.ref a] H (fun v _ => v = .bl true) fun _ _ _ => False)
    (hCX : ∀ (w : World) (H : Hp) (s : Shared) (e : Value) (s' : Shared), CX w [] H s (fun _ _ _ => False) e s' → False) :
    PySem.W.WalkO q loose XP YP l.row.toRowW d [] (fun f vs => PySem.call f vs) := by
  refine Att.attach_call hn hdf fun w s₀ s₁ mg mb fa o pm cd doc a vs ns G Y ho hd hcd hmg hobj hints hlen hg => ?_
  have KX := hY w _ Y
  obtain ⟨fd, hb, hF⟩ := F w mg fa _ KX G.T.g hmg
  exact law_call KX G.T.g G.T.b G.T.builtins G.T.nolimit hg hobj hints (Nat.le_trans hlen hn2) hr hF hb (fun H hO hS => hsp w H a ns hlen hO hS) fun H e s' => hCX w H s₁ e s'
end L2

/- THE LAST THEOREM (shape; LID, My.* are yours):
   My.Adr: a structure of the addresses that your layer names (classes, functions); My.Txt K t: a structure (Prop) of the equations over K;
   My.txt_mk : {K} {implicit addresses ..} (e1 : nsIn K mainGlobals "law" = some (some (.ref f))) (e2 : K.lookup f = some ⟨oc, od, .func (fnOf "law" "law" params body scope dV kV doc pm an cdv ct), sl⟩) (e3 : codeIn K cdv "law" = true) .. : ∃ t, My.Txt K t

set_option maxRecDepth 100000 in
set_option maxHeartbeats 0 in
theorem PySem.Challenge.cw_LID_holds : PySem.Challenge.rw_LID.Holds := by
  w_on; o_law; k_head; (case hw => w_witness2)
  k_fill
  refine L2.walk_of (l := PySem.Challenge.rw_LID) (n := 63) (k := 40) (x := "script") (CX := fun w => ..) (sp := fun _ => My.sp_law) rfl (by decide) rfl ⟨rfl, by decide, by decide⟩ (fun w h Y => PySem.W.kIn_of Y) ?F ?S ?C
  case F =>
    intro w mg fa h KX G hmg
    have T : ∃ t, My.Txt (L2.KOf KX) t := by
      dsimp only [L2.KOf]                          -- K must stand as «<heap const> w.params» for k_is
      refine' My.txt_mk ?e1 ?e2 ?e3 ..
      (case e1 => PySem.W.k_is)                    -- in the order: a name -> its address -> its object -> its parts
      (case e2 => PySem.W.k_is)
      ..
    obtain ⟨t, T⟩ := T
    have e0 := hmg.symm.trans (PySem.W.mg_of KX G T.law)
    cases e0                                       -- fa is the law's own address
    exact ⟨_, fun s u => .of_eq rfl, fun base kb nb => My.law_fn T kb nb⟩     -- if «.of_eq rfl» comes too early: refine' ⟨_, ?b, fun base kb nb => My.law_fn T kb nb⟩; exact fun s u => .of_eq rfl
  case S => exact fun w H a ns hl hO hS => ..
  case C => exact ..
(the tactic k_is has no namespace: write k_is) -/

/-! SHORT WORDS over the layer: a def of the text, its body, what a loop and a test want. -/
namespace L2
open PySem PySem.Spec PyProof.Rows

/-! ### the text by places -/
def defArgs (s : Stmt) : Arguments := match s with
  | .FunctionDef _ a _ _ _ _ _ _ _ _ => a
  | _ => { posonlyargs := [], args := [], vararg := none, kwonlyargs := [], kw_defaults := [], kwarg := none, defaults := [] }
def defBody (s : Stmt) : List Stmt := match s with
  | .FunctionDef _ _ b _ _ _ _ _ _ _ => b
  | _ => []
def defScope (s : Stmt) : Scope := match s with
  | .FunctionDef _ _ _ _ _ _ sc _ _ _ => sc
  | _ => { kind := .function, names := [], isGenerator := false, isCoroutine := false }

/-! ### no exception leaves a def -/
abbrev CX0 : CXT := fun _ _ _ _ _ _ => False
abbrev E0 : XK := fun _ _ _ => False
theorem pass0 {X : Cx} : Passes CX0 X E0 := fun _ _ _ _ _ _ _ h => h.elim

/-! ### a def (or method) of the text as it stands behind the top -/
structure Fun (K : PySem.W.Frag) (x qual : Str) (st : Stmt) (f : Addr) (fd : FuncData) : Prop where
  ex : ∃ (oc : Value) (od : Option Addr) (kV doc pm : Value) (an : Option Addr) (cdv ct : Value) (osl : Array (Option Value)),
    fd = PySem.W.fnOf x qual (defArgs st) (defBody st) (defScope st) .none kV doc pm an cdv ct ∧ K.lookup f = some ⟨oc, od, .func fd, osl⟩ ∧ PySem.W.codeIn K cdv qual = true
  kp : PySem.W.keepIn K (.ref f) = true
section
variable {P : Program} {w : World} {K : PySem.W.Frag} {mg : Str → Option Value} {base : Heap}
/-- THE RULE for a def: its body as a term of rules, and the reading of that term -/
theorem Fun.ok {x qual : Str} {st : Stmt} {f : Addr} {fd : FuncData} {N ps : List Str} {k : Nat} {sp : Sp} (F : Fun K x qual st f fd) (S : FnScope N ps (defScope st)) (len : ∀ vs H Q E, sp vs H Q E → vs.length = ps.length)
    (hbody : ∀ (cdv : Value) (A : Around) (outer : List Env) (s : Shared) (H : Hp) (vs : List V) (Q : VK) (E : XK), Room k (A.deeper (envOfC qual (defScope st) s.heap.objs.size f cdv)) → sp vs H Q E →
      ∃ t, PSs (cxOf CX0 P w K mg base N qual (defScope st) f cdv A outer s H E).nox (defBody st) t ∧ t { nx := fun _ H' => Q .non H', rt := Q } (start N vs) H) : FnOk P w K mg base CX0 (k + 1) f fd ps sp := by
  obtain ⟨oc, od, kV, doc, pm, an, cdv, ct, osl, rfl, lk, hcd⟩ := F.ex
  refine fn_of lk hcd S len fun A outer s H vs Q E hr hsp => ?_
  obtain ⟨t, h, q⟩ := hbody cdv A outer s H vs Q E hr hsp
  exact ⟨t, h.nox, q⟩
/-- how its arguments bind (no defaults): h is «fun _ _ _ _ _ _ us hl => match us, hl with | [_, _], _ => rfl», one _ a parameter -/
theorem Fun.binds {x qual : Str} {st : Stmt} {f : Addr} {fd : FuncData} {ps : List Str} (F : Fun K x qual st f fd)
    (h : ∀ (kV doc pm : Value) (an : Option Addr) (cdv ct : Value) (us : List Value), us.length = ps.length → bindArgs (PySem.W.fnOf x qual (defArgs st) (defBody st) (defScope st) .none kV doc pm an cdv ct) ⟨us, []⟩ = pure (ps.zip us)) : Binds K fd ps [] := by
  obtain ⟨oc, od, kV, doc, pm, an, cdv, ct, osl, rfl, lk, hcd⟩ := F.ex
  exact .all (h kV doc pm an cdv ct)
theorem fun_mk {x qual : Str} {st : Stmt} {f : Addr} {oc : Value} {od an : Option Addr} {osl : Array (Option Value)} {kV doc pm cdv ct : Value} (l : K.lookup f = some ⟨oc, od, .func (PySem.W.fnOf x qual (defArgs st) (defBody st) (defScope st) .none kV doc pm an cdv ct), osl⟩)
    (c : PySem.W.codeIn K cdv qual = true) (k : PySem.W.keepIn K (.ref f) = true) : Fun K x qual st f (PySem.W.fnOf x qual (defArgs st) (defBody st) (defScope st) .none kV doc pm an cdv ct) := ⟨⟨oc, od, kV, doc, pm, an, cdv, ct, osl, rfl, l, c⟩, k⟩
end

/-! ### expressions in short: the name that stands in the i-th slot -/
section
variable {X : Cx}
theorem pv (i : Nat) {x : Str} {pos : Pos} (hN : X.N[i]? = some x := by rfl) (hv : Vis X.env.scope x := by first | exact Or.inl rfl | exact Or.inr (Or.inl rfl) | exact Or.inr (Or.inr rfl)) (hd : (x == ("__debug__" : Str)) = false := by decide)
    (hcd : (x == ("__classdict__" : Str)) = false := by decide) : PE X (.Name x pos) (tVar i) := pe_var hN hv hd hcd
end

/-! ### tests -/
theorem iteF {A B : Prop} (h : B) : if false = true then A else B := by
  rw [if_neg Bool.false_ne_true]
  exact h
theorem iteT {A B : Prop} (h : A) : if true = true then A else B := by
  rw [if_pos rfl]
  exact h

/-! ### heaps -/
/-- all that was tracked is as it was -/
def Same (H H' : Hp) : Prop := ∀ b o, H b = some o → H' b = some o
theorem Same.refl (H : Hp) : Same H H := fun _ _ h => h
theorem Same.trans {H H1 H2 : Hp} (a : Same H H1) (b : Same H1 H2) : Same H H2 := fun c o h => b c o (a c o h)
theorem Same.free {H H' : Hp} (e : Same H H') {l : Addr} (h : H' l = Option.none) : H l = Option.none := by
  cases q : H l with
  | none => rfl
  | some o =>
    rw [e l o q] at h
    cases h
theorem Same.seq {K : PySem.W.Frag} {H H' : Hp} {a : Addr} {xs : List V} (e : Same H H') (h : SqL K H a xs) : SqL K H' a xs := by
  rcases h with (h | ⟨o, h⟩) | h
  · exact .inl (.inl (e _ _ h))
  · exact .inl (.inr ⟨o, e _ _ h⟩)
  · exact .inr h

end L2

section
set_option maxHeartbeats 4000000
/-! EXCEPTIONS over the hand layer: own classes without __init__, raised by a def, passing defs, caught in a caller by a class's name. -/
namespace L2
open PySem PySem.Spec PyProof.Rows



section
variable {X : Cx} {pins : List (Addr × Obj)} {σ : St} {H H' : Hp} {s : Shared} {B h2 : Heap}
end

/-! ### a def whose exceptions leave it -/
section
variable {P : Program} {w : World} {K : PySem.W.Frag} {mg : Str → Option Value} {base : Heap} {N : List Str} {qual : Str} {scope : Scope} {f : Addr} {cd : Value} {A : Around} {outer : List Env} {s : Shared} {H : Hp} {E : XK}
end

/-! ### raise C(e) -/
section
variable {X : Cx} {E : XK} {x : Str} {C : Addr} {np cpos pos : Pos} {e : Expr} {es : List Expr} {t : TA}
end

/-! ### a caught exception -/
/-- its object: ea, of the own class C -/
def ExcO (ea C : Addr) : HO := .ext fun h => ∃ ox, h.get? ea = some ox ∧ ox.cls = .ref C
/-- what the walk asks of an own exception class -/
structure XcI (K : PySem.W.Frag) (C : Addr) : Prop where
  cl : (PySem.W.clsIn K C).isSome = true
  ga : PySem.W.findIn K (.ref C) "__getattribute__" = some (some (.builtin "BaseException.__getattribute__"))
  gt : PySem.W.findIn K (.ref C) "__getattr__" = some none
  ca : PySem.W.findIn K (.ref C) "__class__" = some (some (.builtin "object.__class__"))
  sp : PySem.W.specialIn K (.builtin "object.__class__") "__get__" = some (some (.builtin "getset_descriptor.__get__"))
  tk : PySem.W.takesIn K (.builtin "object.__class__") = some true
  mo : PySem.W.mroIn K C (.type "object") = some true
  mb : PySem.W.mroIn K C (.type "BaseException") = some true
section
open PySem.W Builtin Builtin.ObjectAttr Builtin.Getset_descriptor
variable {prog : Program} {w : World} {A : Around} {E : Value → Shared → Prop} {s : Shared} {K : PySem.W.Frag} {x C : Addr}
theorem xc_get {tp : Value} {R : Result → Shared → Prop} (X : K.In s.heap) (L0 : Looks (model prog w) s.heap (typeOf (.ref x)) (.ref C)) (F : XcI K C) (h : R (.ok (.ret (.ref C))) s) :
    codeAny (model prog w) A (.call (.builtin "getset_descriptor.__get__") ⟨[.builtin "object.__class__", .ref x, tp], []⟩) R s := by
  obtain ⟨hh, g, dr, t, os⟩ := s
  have L1 := looks_mroIn (M := model prog w) X F.mo
  refine codeAny_call_builtin KF.slot_gs.plain KF.entry_gs ?_
  refine KF.slot_gs.check _ _ _ _ _ _ _ _ KF.type_class (KF.args_gs _ _ _) ?_
  unfold Builtin.«getset_descriptor.__get__» descrGet
  rw [dga_obj]
  refine wpAny_bind (wpAny_pure ?_)
  unfold descrGetter descrCheckInstance descrNameAndClass isInstance
  simp only [KF.owner_class]
  repeat lk
  refine ⟨Code.quiet_builtin _ (by decide +kernel), ?_⟩
  refine codeAny_builtin KF.entry_class ?_
  unfold Builtin.«object.__class__» shownTypeOf
  repeat lk
  exact h
theorem xc_find (X : K.In s.heap) (F : XcI K C) : Looks (model prog w) s.heap (find (.ref x) (.ref C) "__class__") (.bind (.builtin "getset_descriptor.__get__") (.builtin "object.__class__")) := by
  have L1 := looks_findIn (M := model prog w) X F.ca
  have L2 : Looks (model prog w) s.heap (getOf (some (.builtin "object.__class__"))) (some (.builtin "getset_descriptor.__get__")) := looks_specialIn X F.sp
  have L3 := looks_takesIn (M := model prog w) X F.tk
  unfold find
  refine L1.andThen (L2.andThen ?_)
  refine Looks.andThen (a := some (.builtin "getset_descriptor.__get__", .builtin "object.__class__")) ?_ (Looks.tag .now)
  unfold dataDescriptor?
  exact L3.andThen .now
theorem slot_one {y z : Value} : slotArgs "__getattribute__" 1 ⟨[y, z], []⟩ = pure (y, [z]) := by
  simp [slotArgs]
theorem ga_two {y z g a tp : Value} {n : Str} {Q : Fin → Shared → Prop} (hz : attrName z = pure n) (e1 : Looks (model prog w) s.heap (typeOf y) tp) (e2 : Looks (model prog w) s.heap (find y tp n) (.bind g a)) (hb : wpAny (model prog w) A (bindTo g a y tp) Q E s) :
    wpAny (model prog w) A (Builtin.«object.__getattribute__» ⟨[y, z], []⟩) Q E s := by
  obtain ⟨hh, g', d, t, os⟩ := s
  unfold Builtin.«object.__getattribute__»
  rw [slot_one]
  refine wpAny_bind (wpAny_pure ?_)
  dsimp only
  rw [hz]
  refine wpAny_bind (wpAny_pure (wpAny_bind (e1.at (wpAny_bind (e2.at ?_)))))
  exact hb
theorem bind_ref {g a tp : Value} {Q : Fin → Shared → Prop} (h : wpAny (model prog w) A (call g [a, .ref x, tp]) (fun v s' => Q (.done (.ret v)) s') E s) : wpAny (model prog w) A (bindTo g a (.ref x) tp) Q E s := by
  show wpAny _ _ (holding [a] (call g [a, .ref x, tp]) >>= ret) _ _ _
  exact wpAny_bind (wpAny_holding (wpAny_mono h (fun v s' z => wpAny_pure z) fun _ _ z => z))
theorem ga_kind : builtinKind "BaseException.__getattribute__" = some .slot := by decide +kernel
theorem ga_split : splitId "BaseException.__getattribute__" = some ("BaseException", "__getattribute__") := by decide +kernel
theorem chk_ga {z : Value} {Q : Unit → Shared → Prop} (L4 : Looks (model prog w) s.heap (isInstance (.ref x) (.type "BaseException")) true) (q : Q () s) :
    wpAny (model prog w) A (checkBuiltinCall "BaseException.__getattribute__" ⟨[.ref x, z], []⟩) Q E s := by
  have ha := PySem.F.args_bexc_ga (.ref x) z
  have hk := ga_kind
  have hs := ga_split
  generalize "BaseException.__getattribute__" = i at ha hk hs ⊢
  exact check_slot hk hs L4 ha q
theorem xc_ga {n : Str} {tk : Tok} {R : Result → Shared → Prop} (X : K.In s.heap) (L0 : Looks (model prog w) s.heap (typeOf (.ref x)) (.ref C)) (F : XcI K C) (en : n = "__class__") (h : R (.ok (.ret (.ref C))) s) :
    codeAny (model prog w) A (.call (.builtin "BaseException.__getattribute__") ⟨[.ref x, .str n tk], []⟩) R s := by
  refine codeAny_call_builtin PySem.F.attr_ValueError.ga.plain PySem.F.entry_bexc_ga ?_
  refine chk_ga (L0.andThen (looks_mroIn X F.mb)) ?_
  refine ga_two (n := n) rfl L0 (en ▸ xc_find X F) ?_
  refine bind_ref (wpAny_call (xc_get X L0 F ?_))
  exact h
theorem xc_own {n : Str} {tk : Tok} {Q : Value → Shared → Prop} (X : K.In s.heap) (L0 : Looks (model prog w) s.heap (typeOf (.ref x)) (.ref C)) (F : XcI K C) (en : n = "__class__") (h : Q (.ref C) s) :
    wpAny (model prog w) A (getAttrBy (.ref x) (.str n tk) false) Q E s := by
  obtain ⟨hh, g, d, t, os⟩ := s
  have L1 := looks_findIn (M := model prog w) X F.ga
  have L2 := looks_findIn (M := model prog w) X F.gt
  unfold getAttrBy
  refine wpAny_holding ?_
  refine wpAny_bind (L0.at (wpAny_bind (L1.at ?_)))
  have e : (Value.builtin "BaseException.__getattribute__" == Value.builtin "object.__getattribute__") = false := by decide +kernel
  dsimp only
  rw [e, Bool.and_false, if_neg Bool.false_ne_true]
  unfold getAttrByItsOwn
  refine wpAny_bind (m := hookBefore _) (L2.at ?_)
  refine wpAny_bind (wpAny_attempt (wpAny_holding ?_))
  unfold callGetattribute
  rw [Bool.false_and, if_neg Bool.false_ne_true]
  unfold boundAndCalled
  rw [PySem.F.attr_ValueError.ga.bind (.ref x)]
  refine wpAny_bind (wpAny_pure ?_)
  refine wpAny_call (xc_ga X L0 F en ?_)
  exact wpAny_pure h
theorem xc_class {Q : Option Value → Shared → Prop} (X : K.In s.heap) (L0 : Looks (model prog w) s.heap (typeOf (.ref x)) (.ref C)) (F : XcI K C) (h : Q (some (.ref C)) { s with toks := s.toks + 1 }) :
    wpAny (model prog w) A (getAttr? (.ref x) "__class__") Q E s := by
  unfold getAttr? getAttrBy?
  refine wpAny_bind (wpAny_mkText (wpAny_bind (wpAny_attempt (xc_own (s := { s with toks := s.toks + 1 }) X L0 F rfl ?_))))
  exact wpAny_pure h
end
/-- isinstance's words about a caught exception -/
theorem kitx_exc {K : PySem.W.Frag} {ea C : Addr} (F : XcI K C) : PySem.W.KitX K (.ref ea) (.ref C) (fun h => ∃ ox, h.get? ea = some ox ∧ ox.cls = .ref C) where
  ty := fun M h _ ⟨ox, h1, h2⟩ => h2 ▸ (PySem.W.Looks.ld h1).andThen .now
  it := fun M h X _ => by
    have c := F.cl
    unfold PySem.W.clsIn at c
    split at c
    · rename_i c' d' cd' sl' ho
      intro A' Q' E' s' k q
      unfold isType loadHead
      exact wpAny_bind (wpAny_loadPart (k _ _ (X _ _ ho)) (wpAny_pure q))
    · cases c
  ne := fun h tp dd its n sl X htp => by
    refine Bool.eq_false_iff.mpr fun q => ?_
    have e : C = tp := Value.ref.inj (beq_iff_eq.mp q)
    subst e
    have c := F.cl
    unfold PySem.W.clsIn at c
    split at c
    · rename_i c' d' cd' sl' ho
      have z := (X _ _ ho).symm.trans htp
      cases z
    · cases c
  ca := fun {prog w A E Q s} X p k => xc_class X (by obtain ⟨ox, h1, h2⟩ := p; exact h2 ▸ (PySem.W.Looks.ld h1).andThen .now) F k

/-! ### isinstance -/
/-- the class of a value; of a caught exception its own -/
inductive Ty (K : PySem.W.Frag) (H : Hp) : V → Value → Prop where
  | of {x : V} {t : Value} (h : TyOf K H x t) : Ty K H x t
  | exc {ea C : Addr} (e : H ea = some (ExcO ea C)) (F : XcI K C) : Ty K H (.ref ea) (.ref C)
/-- a class as a value -/
inductive ClsV : V → Value → Prop where
  | ty (T : String) : ClsV (.ty T) (.type T)
  | own (C : Addr) : ClsV (.ref C) (.ref C)
theorem ClsV.rel {x : V} {c u : Value} (h : ClsV x c) (r : RelV x u) : u = c := by
  cases h <;> exact r
section
variable {X : Cx}
def rIsi (K : PySem.W.Frag) : List V → Hp → VK → Prop := fun xs H Q => ∃ x y t c b, xs = [x, y] ∧ Ty K H x t ∧ ClsV y c ∧ PySem.W.kitOne K t c = some b ∧ Q (.bl b) H
theorem call_isi : CallR X (.builtin "isinstance") (rIsi X.K) := by
  intro pins s σ H xs us Q I r h
  obtain ⟨x, y, t, c, b, rfl, ty, cl, e, q⟩ := h
  obtain ⟨u, v, rfl, ru, rv⟩ := vals2 r
  have ev := cl.rel rv
  subst ev
  cases ty with
  | of ty => exact isinst_ok I ru ty e fun tk => ⟨.bl b, H, I.tok tk, rfl, q⟩
  | @exc ea C eh F =>
    cases (show u = Value.ref ea from ru)
    obtain ⟨⟨ox, h1, h2⟩, _⟩ := I.hok ea _ eh
    exact PySem.W.kia_one (kitx_exc F) I.kIn ⟨ox, h1, h2⟩ e (fun z => nomatch z) fun tk => ⟨.bl b, H, I.tok tk, rfl, q⟩
end

/-! ### try -/
section
variable {X : Cx} {pins : List (Addr × Obj)} {σ : St} {H H' : Hp} {s : Shared}
end
section
variable {X : Cx} {E : XK} {x n : Str} {i : Nat} {Cx0 : Addr} {np hpos pos : Pos} {body : List Stmt} {b₀ : Stmt} {suite : List Stmt} {tb ts : TS}
end
end L2

end

section
set_option maxHeartbeats 4000000
/-! MORE RULES over the hand layer: products and quotients of great numbers, script + [..], {}, what built-in names stand for, isinstance against int and bool. -/
namespace L2
open PySem PySem.Spec PyProof.Rows
theorem bt_int : bootBuiltins "int" = some (.type "int") := by decide +kernel
theorem bt_bool : bootBuiltins "bool" = some (.type "bool") := by decide +kernel
theorem bt_list : bootBuiltins "list" = some (.type "list") := by decide +kernel
theorem bt_isinstance : bootBuiltins "isinstance" = some (.builtin "isinstance") := by decide +kernel
theorem bt_len : bootBuiltins "len" = some (.builtin "len") := by decide +kernel
theorem bt_abs : bootBuiltins "abs" = some (.builtin "abs") := by decide +kernel

theorem iteN {b : Bool} {A B : Prop} (h : b = false) (q : B) : if b = true then A else B := by
  subst h
  exact iteF q
theorem iteY {b : Bool} {A B : Prop} (h : b = true) (q : A) : if b = true then A else B := by
  subst h
  exact iteT q
section
variable {X : Cx}
/-- an argument that is no star -/
def notStar : Expr → Prop
  | .Starred .. => False
  | _ => True
theorem star_of {e : Expr} {es : List Expr} {env : Env} (h : notStar e) : starEach (e :: es) env = (false, eval e env) :: starEach es env := by
  cases e <;> first | rfl | exact h.elim
theorem pk {e : Expr} {es : List Expr} {te : TE} {t : TA} (ha : PE X e te) (hr : PA X es t) (h : notStar e := by exact True.intro) : PA X (e :: es) (tCons te t) := pa_cons ha hr (star_of h)
/-- a built-in class, an own class, as a value -/
theorem pe_bt {x : Str} {T : String} {pos : Pos} (hg : Gl X x) (hm : X.mg x = none) (hv : bootBuiltins x = some (.type T)) (hn : x ≠ "__name__" := by decide) (hd : (x == ("__debug__" : Str)) = false := by decide) : PE X (.Name x pos) (tC (.ty T)) := pe_bltn hg hm hv rfl hn hd
theorem pe_gr {x : Str} {C : Addr} {pos : Pos} (hg : Gl X x) (hm : X.mg x = some (.ref C)) (hd : (x == ("__debug__" : Str)) = false := by decide) : PE X (.Name x pos) (tC (.ref C)) := pe_glob hg hm rfl hd
/-- ps_set, its facts asked last -/
theorem ps_st {pos : Pos} {i : Nat} {x : Str} {e : Expr} {te : TE} {pos' : Pos} (he : PE X e te) (hN : X.N.Nodup := by assumption) (hi : X.N[i]? = some x := by rfl) (hx : Loc X.env.scope x := by first | exact Or.inl rfl | exact Or.inr rfl) (hs : swapsWith e (some (.Name x pos')) pos.line X.env = pure false := by rfl)
    (hf : X.fn x = true ∨ X.env.scope.names.lookup x = some .local := by first | exact .inl rfl | exact .inr rfl | assumption) : PS X (.Assign [.Name x pos'] e pos) (tAsg te (gName i)) := ps_set hN hi hx he hs hf
theorem pg_nm {pos : Pos} (i : Nat) {x : Str} (hN : X.N.Nodup := by assumption) (hi : X.N[i]? = some x := by rfl) (hx : Loc X.env.scope x := by first | exact Or.inl rfl | exact Or.inr rfl) (hf : X.fn x = true ∨ X.env.scope.names.lookup x = some .local := by first | exact .inl rfl | exact .inr rfl | assumption) : PG X (.Name x pos) (gName i) := pg_name hN hi hx hf
theorem ps_pr {pos : Pos} {i j : Nat} {x y : Str} {a b : Expr} {ta : TA} {px py pt : Pos} {kt k2 pt2} (ha : PA X [a, b] ta) (hc : X.calm = true := by rfl) (hN : X.N.Nodup := by assumption) (hi : X.N[i]? = some x := by rfl) (hj : X.N[j]? = some y := by rfl) (hij : i ≠ j := by decide)
    (hx : X.env.scope.names.lookup x = some .local := by rfl) (hy : X.env.scope.names.lookup y = some .local := by rfl)
    (hw : swappedStores [.Tuple [.Name x px, .Name y py] kt pt] (.Tuple [a, b] k2 pt2) X.env = pure (some [x, y]) := by rfl)
    (hs : swapsWithSole [.Tuple [.Name x px, .Name y py] kt pt] (.Tuple [a, b] k2 pt2) pos.line X.env = pure false := by rfl) :
    PS X (.Assign [.Tuple [.Name x px, .Name y py] kt pt] (.Tuple [a, b] k2 pt2) pos) (tPar i j ta) := ps_par hc hN hi hj hij hx hy ha hw hs
theorem call_isiK {K : PySem.W.Frag} (h : X.K = K) : CallR X (.builtin "isinstance") (rIsi K) := h ▸ call_isi
/-- a number that is not too great -/
abbrev Sm (i : Int) : Prop := i.natAbs < 2 ^ 4000
def CMulX (i j : Int) : Prop := CMul i j ∨ (Sm i ∧ Sm j)
theorem op_mulX : OpR X (binaryOp .Mult) (rI CMulX fun i j => .int (i * j)) := opI fun i j _ _ _ _ _ hc q => by
  refine mul_int q ?_
  rcases hc with h | ⟨h1, h2⟩
  · exact h.ok
  · exact IntMulOk.of_le (intBits_le_iff.mpr h1) (intBits_le_iff.mpr h2) (by decide)
def CDivB (i j : Int) : Prop := j ≠ 0 ∧ Sm j
theorem op_fdivB : OpR X (binaryOp .FloorDiv) (rI CDivB fun i j => .int (i.fdiv j)) := opI fun i j _ _ _ _ _ hc q => by
  refine floordiv_int hc.1 q (Or.inl (PyProof.noPylong_of_log2 ?_))
  have h : j.natAbs ≠ 0 := by have := hc.1; omega
  have := (Nat.log2_lt h).mpr hc.2
  omega
/-- xs + ys, both only read -/
def rCatS (K : PySem.W.Frag) : R2 := fun x y H Q => ∃ l b xs zs, x = .ref l ∧ y = .ref b ∧ SqL K H l xs ∧ SqL K H b zs ∧ xs.length + zs.length ≤ sizeLine ∧ ∀ p, H p = none → Q (.ref p) (upd H p (.lst (xs ++ zs)))
theorem op_catS : OpR X (binaryOp .Add) (rCatS X.K) := by
  intro pins s σ H x y v u Q I rx ry h
  obtain ⟨l, b, xs, zs, rfl, rfl, hl, hb, hz, q⟩ := h
  cases rx
  cases ry
  obtain ⟨its, r, ⟨⟨k1, k2, k3, k4⟩, n, e, c1, c2, c3⟩, z⟩ := I.list hl
  obtain ⟨its2, r2, ⟨⟨j1, j2, j3, j4⟩, n2, e2, d1, d2, d3⟩, z2⟩ := I.list hb
  have h1 := r.length
  have h2 := r2.length
  dsimp only at c1 c3 d1 d3
  subst c1 c3 d1 d3
  have lw := list_addW l b its.toArray its2.toArray n n2 k2 j2 k4 j4 (by simp only [List.size_toArray]; omega)
  refine concat_meets ⟨_, e, rfl⟩ ⟨_, e2, rfl⟩ noFill_list_add seq_list_add
    PySem.F.slot_list_add PySem.F.entry_list_add (PySem.F.args_list_add_2 _ _) lw ⟨e, e2, ?_⟩
  have ea : its.toArray ++ its2.toArray = (its ++ its2).toArray := by simp
  rw [ea]
  exact ⟨.ref _, _, I.lnew (t' := s.toks) (r.append r2) (by rw [List.length_append]; omega), rfl, q _ I.fresh⟩
end

/-! ### isinstance against built-in classes -/
def kitT (T C : String) : Option Bool := if (Value.type T == Value.type C) = true then some true else if PySem.W.kitMeta C = true then (fastBuiltinMro T).map (·.contains (.type C)) else none
theorem kit_t {K : PySem.W.Frag} {T C : String} {b : Bool} (h : kitT T C = some b) : PySem.W.kitOne K (.type T) (.type C) = some b := h
/-- a whole number (no truth) -/
def isInt : V → Bool
  | .int _ => true
  | _ => false
theorem ty_whole {K : PySem.W.Frag} {H : Hp} {x : V} {T : String} (h : TyOf K H x (.type T)) : ∃ b1 b2, PySem.W.kitOne K (.type T) (.type "int") = some b1 ∧ PySem.W.kitOne K (.type T) (.type "bool") = some b2 ∧ isInt x = (b1 && !b2) := by
  cases h with
  | non => exact ⟨false, false, kit_t (by decide +kernel), kit_t (by decide +kernel), rfl⟩
  | bl _ => exact ⟨true, true, kit_t (by decide +kernel), kit_t (by decide +kernel), rfl⟩
  | int _ => exact ⟨true, false, kit_t (by decide +kernel), kit_t (by decide +kernel), rfl⟩
  | str _ => exact ⟨false, false, kit_t (by decide +kernel), kit_t (by decide +kernel), rfl⟩
  | flt _ => exact ⟨false, false, kit_t (by decide +kernel), kit_t (by decide +kernel), rfl⟩
  | lst _ => exact ⟨false, false, kit_t (by decide +kernel), kit_t (by decide +kernel), rfl⟩
  | frz _ => exact ⟨false, false, kit_t (by decide +kernel), kit_t (by decide +kernel), rfl⟩
  | tup _ => exact ⟨false, false, kit_t (by decide +kernel), kit_t (by decide +kernel), rfl⟩
  | dK _ => exact ⟨false, false, kit_t (by decide +kernel), kit_t (by decide +kernel), rfl⟩
  | dT _ => exact ⟨false, false, kit_t (by decide +kernel), kit_t (by decide +kernel), rfl⟩
end L2

end

namespace Fr
/-- lowest terms of t by b: x by y -/
structure Low (t b x y : Int) : Prop where
  pos : 0 < y
  cop : Int.gcd x y = 1
  eq : x * b = t * y
theorem gcd_end {a : Int} (ha : 0 ≤ a) : (Int.gcd a 0 : Int) = a := by
  rw [Int.gcd_zero_right]; omega
theorem gcd_pos {a b : Int} (h : b ≠ 0) : 0 < Int.gcd a b := Int.gcd_pos_of_ne_zero_right a h
/-- the quotients by the greatest common divisor -/
theorem quot {a b : Int} (h : b ≠ 0) : ∃ x y : Int, a = x * (Int.gcd a b : Int) ∧ b = y * (Int.gcd a b : Int) ∧ Int.gcd x y = 1 := by
  have gp := gcd_pos (a := a) h
  obtain ⟨x, hx⟩ := Int.gcd_dvd_left a b
  obtain ⟨y, hy⟩ := Int.gcd_dvd_right a b
  refine ⟨x, y, by rw [Int.mul_comm]; exact hx, by rw [Int.mul_comm]; exact hy, ?_⟩
  have e : Int.gcd a b = Int.gcd a b * Int.gcd x y := by
    have := Int.gcd_mul_left (Int.gcd a b : Int) x y
    rw [← hx, ← hy] at this
    simpa using this
  have : Int.gcd a b * 1 = Int.gcd a b * Int.gcd x y := by rw [Nat.mul_one]; exact e
  exact (Nat.eq_of_mul_eq_mul_left gp this).symm
theorem fdiv_mul {x d : Int} (h : d ≠ 0) : (x * d).fdiv d = x := by
  rw [Int.mul_comm]; exact Int.mul_fdiv_cancel_left x h
theorem low {t b : Int} (h : b ≠ 0) (d : Int) (hd : d = if b < 0 then -(Int.gcd t b : Int) else (Int.gcd t b : Int)) :
    d ≠ 0 ∧ Low t b (t.fdiv d) (b.fdiv d) := by
  obtain ⟨x, y, hx, hy, c⟩ := quot (a := t) h
  have gp : (0 : Int) < (Int.gcd t b : Int) := by have := gcd_pos (a := t) h; omega
  generalize (Int.gcd t b : Int) = g at *
  by_cases n : b < 0
  · rw [if_pos n] at hd
    subst hd
    have e1 : t.fdiv (-g) = -x := by
      have : t = (-x) * (-g) := by rw [Int.neg_mul_neg]; exact hx
      rw [this]; exact fdiv_mul (by omega)
    have e2 : b.fdiv (-g) = -y := by
      have : b = (-y) * (-g) := by rw [Int.neg_mul_neg]; exact hy
      rw [this]; exact fdiv_mul (by omega)
    refine ⟨by omega, ?_⟩
    rw [e1, e2]
    refine ⟨?_, by simpa using c, ?_⟩
    · have : y < 0 := by
        rcases Int.lt_trichotomy y 0 with q | q | q
        · exact q
        · rw [q] at hy; omega
        · have := Int.mul_pos q gp; omega
      omega
    · rw [hx, hy, Int.mul_assoc, Int.mul_neg, Int.mul_comm g y, Int.mul_neg, Int.neg_mul]
  · rw [if_neg n] at hd
    rw [hd]
    have e1 : t.fdiv g = x := by rw [hx]; exact fdiv_mul (by omega)
    have e2 : b.fdiv g = y := by rw [hy]; exact fdiv_mul (by omega)
    refine ⟨by omega, ?_⟩
    rw [e1, e2]
    refine ⟨?_, c, ?_⟩
    · rcases Int.lt_trichotomy y 0 with q | q | q
      · have := Int.mul_neg_of_neg_of_pos q gp; omega
      · rw [q] at hy; omega
      · exact q
    · rw [hx, hy, Int.mul_assoc, Int.mul_comm g y]
/-- bounds of the quotients -/
theorem fdiv_le {t d : Int} {M : Int} (hd : d ≠ 0) (h : -M ≤ t ∧ t ≤ M) (dv : d ∣ t) : -M ≤ t.fdiv d ∧ t.fdiv d ≤ M := by
  obtain ⟨k, rfl⟩ := dv
  rw [Int.mul_fdiv_cancel_left k hd]
  have h1 : k.natAbs ≤ (d * k).natAbs := by
    rw [Int.natAbs_mul]
    exact Nat.le_mul_of_pos_left _ (by omega)
  omega
end Fr

section
set_option maxHeartbeats 1000000
/-! STEPS of readings, one rule for each head; the calls of own defs by one fact; equality of data. -/
namespace L2
open PySem PySem.Spec PyProof.Rows
section
variable {σ : St} {H : Hp} {D : Ends} {t u : TS} {te ta tb tc : TE} {Q : VK} {c d : TT} {ts : TA}
theorem s_seq {n : St → Hp → Prop} {r : VK} {b k : St → Hp → Prop} (h : t (Ends.mk (u (Ends.mk n r b k)) r b k) σ H) : tSeq t u (Ends.mk n r b k) σ H := h
theorem s_asg {i : Nat} (h : te σ H fun x H1 => D.nx (σ.set i (some x)) H1) : tAsg te (gName i) D σ H := h
theorem s_ret (h : te σ H D.rt) : tRet te D σ H := h
theorem s_if (h : c σ H fun b H1 => if b = true then t D σ H1 else u D σ H1) : tIfS c t u D σ H := h
theorem s_next (h : D.nx σ H) : tNext D σ H := h
theorem s_par {i j : Nat} (h : ts σ H fun vs H1 => ∃ v w, vs = [v, w] ∧ D.nx ((σ.set i (some v)).set j (some w)) H1) : tPar i j ts D σ H := h
theorem s_gn {i : Nat} {v : V} {σ' : St} {P : St → Hp → Prop} (e : σ.set i (some v) = σ') (h : P σ' H) : gName i v σ H P := by
  subst e
  exact h
theorem s_var {i : Nat} {v : V} (h : σ[i]? = some (some v)) (q : Q v H) : tVar i σ H Q := ⟨v, h, q⟩
theorem s_c {v : V} (q : Q v H) : tC v σ H Q := q
theorem s_op {r : R2} (h : ta σ H fun x H1 => tb σ H1 fun y H2 => r x y H2 Q) : tOp r ta tb σ H Q := h
theorem s_cons {P : List V → Hp → Prop} (h : ta σ H fun x H1 => ts σ H1 fun xs H2 => P (x :: xs) H2) : tCons ta ts σ H P := h
theorem s_nil {P : List V → Hp → Prop} (h : P [] H) : tNil σ H P := h
/-- a new object is laid -/
def Al (o : HO) (n : Nat) (H : Hp) (Q : VK) : Prop := n ≤ sizeLine ∧ ∀ p, H p = none → Q (.ref p) (upd H p o)
theorem s_al {o : HO} {n : Nat} (hn : n ≤ sizeLine) (h : ∀ p H', Same H H' → H' p = some o → Q (.ref p) H') : Al o n H Q := ⟨hn, fun p hp => h p _ (fun b u e => by rw [upd_ne (ne_of_none e hp)]; exact e) upd_same⟩
theorem s_tup (h : ts σ H fun xs H1 => Al (.tup xs) xs.length H1 Q) : tTup ts σ H Q := h
theorem s_lst (h : ts σ H fun xs H1 => Al (.lst xs) xs.length H1 Q) : tLst ts σ H Q := h
theorem s_call {sp : Sp} {E : XK} (h : ts σ H fun vs H1 => sp vs H1 Q E) : tCall sp [] E ts σ H Q := by
  unfold tCall
  simpa only [List.append_nil] using h
theorem s_cb {r : List V → Hp → VK → Prop} (h : ts σ H fun vs H1 => r vs H1 Q) : tCB r ts σ H Q := h
theorem s_test {P : Bool → Hp → Prop} (h : te σ H fun x H' => ∃ k, x = .bl k ∧ P k H') : tTest te σ H P := h
theorem s_b {P : Bool → Hp → Prop} (h : te σ H fun x H' => ∃ k, x = .bl k ∧ P k H') : tB te σ H P := h
theorem s_and {P : Bool → Hp → Prop} (h : c σ H fun k H1 => if k = true then d σ H1 P else P false H1) : tAnd c d σ H P := h
theorem s_or {P : Bool → Hp → Prop} (h : c σ H fun k H1 => if k = true then P true H1 else d σ H1 P) : tOr c d σ H P := h
theorem s_not {P : Bool → Hp → Prop} (h : c σ H fun k H1 => P (!k) H1) : tNot c σ H P := h
theorem s_andV (h : ta σ H fun x H1 => ∃ c, x = .bl c ∧ if c = true then tb σ H1 Q else Q (.bl false) H1) : tAndV ta tb σ H Q := h
theorem s_notV (h : ta σ H fun x H1 => ∃ c, x = .bl c ∧ Q (.bl (!c)) H1) : tNotV ta σ H Q := h
theorem s_bl {P : Bool → Prop} {k : Bool} (h : P k) : ∃ k', V.bl k = .bl k' ∧ P k' := ⟨k, rfl, h⟩
theorem s_rI {C : Int → Int → Prop} {g : Int → Int → V} {i j : Int} (hc : C i j) (q : Q (g i j) H) : rI C g (.int i) (.int j) H Q := ⟨i, j, rfl, rfl, hc, q⟩
theorem s_rI0 {g : Int → Int → V} {i j : Int} (q : Q (g i j) H) : rI0 g (.int i) (.int j) H Q := ⟨i, j, rfl, rfl, q⟩
theorem s_eqI {i j : Int} (q : Q (.bl (decide (i = j))) H) : rEq (.int i) (.int j) H Q := ⟨rfl, by
  have e : decide (V.int i = V.int j) = decide (i = j) := by rw [Bool.eq_iff_iff]; simp
  rw [e]; exact q⟩
theorem s_neI {i j : Int} (q : Q (.bl (!decide (i = j))) H) : rNe (.int i) (.int j) H Q := ⟨rfl, by
  have e : decide (V.int i = V.int j) = decide (i = j) := by rw [Bool.eq_iff_iff]; simp
  rw [e]; exact q⟩
theorem s_ixT {K : PySem.W.Frag} {p : Addr} {xs : List V} {i : Int} {v : V} (h : SqT K H p xs) (e : atI xs i = some v) (q : Q v H) : rIxT K (.ref p) (.int i) H Q := ⟨p, xs, i, v, rfl, rfl, h, e, q⟩
theorem s_ixL {K : PySem.W.Frag} {p : Addr} {xs : List V} {i : Int} {v : V} (h : SqL K H p xs) (e : atI xs i = some v) (q : Q v H) : rIxL K (.ref p) (.int i) H Q := ⟨p, xs, i, v, rfl, rfl, h, e, q⟩
theorem s_nx {n : St → Hp → Prop} {r : VK} {b k : St → Hp → Prop} (h : n σ H) : (Ends.mk n r b k).nx σ H := h
theorem s_rt {n : St → Hp → Prop} {r : VK} {b k : St → Hp → Prop} {v : V} (h : r v H) : (Ends.mk n r b k).rt v H := h
theorem s_set {i : Nat} {v : Option V} {σ' : St} (e : σ.set i v = σ') (h : D.nx σ' H) : D.nx (σ.set i v) H := e ▸ h
theorem s_set2 {i j : Nat} {v w : Option V} {σ' : St} (e : (σ.set i v).set j w = σ') (h : D.nx σ' H) : D.nx ((σ.set i v).set j w) H := e ▸ h
end
theorem iteNt {A B : Prop} (h : B) : if (!true) = true then A else B := iteF h
theorem ln1 {a : V} : [a].length ≤ sizeLine := by show 1 ≤ sizeLine; decide
theorem ln2 {a b : V} : [a, b].length ≤ sizeLine := by show 2 ≤ sizeLine; decide
theorem ln3 {a b c : V} : [a, b, c].length ≤ sizeLine := by show 3 ≤ sizeLine; decide
theorem Same.new {H : Hp} {p : Addr} {o : HO} (h : H p = none) : Same H (upd H p o) := fun b u e => by
  rw [upd_ne (ne_of_none e h)]
  exact e
/-! ### own defs, called -/
/-- the def x is there, and keeps its promise -/
def Cal (P : Program) (w : World) (K : PySem.W.Frag) (mg : Str → Option Value) (base : Heap) (CX : CXT) (k : Nat) (x : Str) (sp : Sp) : Prop :=
  ∃ f fd ps, FnOk P w K mg base CX k f fd ps sp ∧ mg x = some (.ref f) ∧ PySem.W.keepIn K (.ref f) = true ∧ Binds K fd ps []
section
variable {X : Cx} {x : Str} {p pos : Pos} {e : Expr} {es : List Expr} {t : TA} {sp : Sp} {CX : CXT} {k : Nat} {E : XK}
theorem pe_cal (c : Cal X.prog X.w X.K X.mg X.base CX k x sp) (hr : Room k X.A) (hx : Passes CX X E) (ha : PA X (e :: es) t) (hg : Gl X x := by rfl) (hdb : (x == ("__debug__" : Str)) = false := by decide)
    (he : starEach (e :: es) X.env = (false, eval e X.env) :: starEach es X.env := by rfl) (hpl : (backTo pos (starEach es X.env)).any (·.1) = false := by rfl) : PE X (.Call (.Name x p) (e :: es) [] pos) (tCall sp [] E t) := by
  obtain ⟨f, fd, ps, G, hm, hk, hb⟩ := c
  exact pe_call G hr hg hm hk hb .nil hx ha hdb he hpl
end
end L2

end

section
set_option maxHeartbeats 1000000
namespace Fr
open PySem L2
/-- of at most n bits -/
abbrev Sz (n : Nat) (i : Int) : Prop := i.natAbs < 2 ^ n
theorem Sz.mono {n m : Nat} {i : Int} (h : Sz n i) (l : n ≤ m) : Sz m i := Nat.lt_of_lt_of_le h (Nat.pow_le_pow_right (by decide) l)
theorem Sz.sm {n : Nat} {i : Int} (h : Sz n i) (l : n ≤ 4000 := by decide) : Sm i := h.mono l
theorem Sz.of {n : Nat} {i : Int} (a : -((2 ^ n : Nat) : Int) < i) (b : i < ((2 ^ n : Nat) : Int)) : Sz n i := by
  show i.natAbs < 2 ^ n
  omega
/-- both quotients by the divisor with b's sign -/
theorem low2 {t b d : Int} (h : b ≠ 0) (hd : d = if b < 0 then -(Int.gcd t b : Int) else (Int.gcd t b : Int)) :
    d ≠ 0 ∧ d.natAbs ≤ b.natAbs ∧ Low t b (t.fdiv d) (b.fdiv d) ∧ (t.fdiv d).natAbs ≤ t.natAbs ∧ (b.fdiv d).natAbs ≤ b.natAbs := by
  obtain ⟨d0, L⟩ := low h d hd
  have dt : d ∣ t := by
    rw [hd]
    split
    · exact Int.neg_dvd.mpr (Int.gcd_dvd_left t b)
    · exact Int.gcd_dvd_left t b
  have db : d ∣ b := by
    rw [hd]
    split
    · exact Int.neg_dvd.mpr (Int.gcd_dvd_right t b)
    · exact Int.gcd_dvd_right t b
  have t1 := fdiv_le (M := t.natAbs) d0 ⟨by omega, by omega⟩ dt
  have b1 := fdiv_le (M := b.natAbs) d0 ⟨by omega, by omega⟩ db
  exact ⟨d0, Nat.le_of_dvd (by omega) (Int.natAbs_dvd_natAbs.mpr db), L, by omega, by omega⟩
/-- two lowest terms of one number are one -/
theorem Low.bottom {t b x y : Int} (L : Low t b x y) (hb : 0 < b) : y ∣ b := by
  have h : y ∣ x * b := ⟨t, by rw [L.eq, Int.mul_comm]⟩
  have c : Int.gcd y x = 1 := by rw [Int.gcd_comm]; exact L.cop
  have h' : y.natAbs ∣ x.natAbs * b.natAbs := by rw [← Int.natAbs_mul]; exact Int.natAbs_dvd_natAbs.mpr h
  exact Int.natAbs_dvd_natAbs.mp (Nat.Coprime.dvd_of_dvd_mul_left (show Nat.Coprime y.natAbs x.natAbs from c) h')
theorem Low.small {t b x y : Int} (L : Low t b x y) (hb : 0 < b) : 0 < y ∧ y ≤ b ∧ x.natAbs ≤ t.natAbs := by
  have yp := L.pos
  have h := Int.le_of_dvd hb (L.bottom hb)
  refine ⟨yp, h, ?_⟩
  have e : x.natAbs * b.natAbs = t.natAbs * y.natAbs := by rw [← Int.natAbs_mul, L.eq, Int.natAbs_mul]
  have e2 : t.natAbs * y.natAbs ≤ t.natAbs * b.natAbs := Nat.mul_le_mul_left _ (by omega)
  exact Nat.le_of_mul_le_mul_right (by rw [e]; exact e2) (by omega)
/-- lowest terms of another pair that is crosswise alike -/
theorem Low.cross {t b t' b' x y : Int} (L : Low t b x y) (hb : b ≠ 0) (e : t * b' = t' * b) : Low t' b' x y := by
  refine ⟨L.pos, L.cop, ?_⟩
  have h : (x * b') * b = (t' * y) * b := by
    calc (x * b') * b = (x * b) * b' := by rw [Int.mul_assoc, Int.mul_comm b' b, ← Int.mul_assoc]
      _ = (t * y) * b' := by rw [L.eq]
      _ = (t * b') * y := by rw [Int.mul_assoc, Int.mul_comm y b', ← Int.mul_assoc]
      _ = (t' * b) * y := by rw [e]
      _ = (t' * y) * b := by rw [Int.mul_assoc, Int.mul_comm b y, ← Int.mul_assoc]
  exact Int.eq_of_mul_eq_mul_right hb h
end Fr

end

section
set_option maxHeartbeats 1000000
namespace L2
open PySem PySem.Spec PyProof.Rows
/-! ### data: what a value tells, whole -/
mutual
inductive Rp (K : PySem.W.Frag) (H : Hp) : V → PyData → Prop where
  | non : Rp K H .non .none
  | bl (b : Bool) : Rp K H (.bl b) (.bool b)
  | int (i : Int) : Rp K H (.int i) (.int i)
  | str (x : Str) : Rp K H (.str x) (.str x)
  | tup {a : Addr} {xs : List V} {ds : List PyData} : SqT K H a xs → Rps K H xs ds → Rp K H (.ref a) (.tuple ds)
  | lst {a : Addr} {xs : List V} {ds : List PyData} : SqL K H a xs → Rps K H xs ds → Rp K H (.ref a) (.list ds)
inductive Rps (K : PySem.W.Frag) (H : Hp) : List V → List PyData → Prop where
  | nil : Rps K H [] []
  | cons {x : V} {xs : List V} {d : PyData} {ds : List PyData} : Rp K H x d → Rps K H xs ds → Rps K H (x :: xs) (d :: ds)
end
section
variable {X : Cx} {pins : List (Addr × Obj)} {σ : St} {H : Hp} {s : Shared}
mutual
theorem Inv.reads (I : Inv X pins σ H s) : ∀ {d : PyData} {x : V} {u : Value}, Rp X.K H x d → RelV x u → ∃ as, Reads s.heap u d as
  | .none, _, _, .non, r => by cases r; exact ⟨_, .none⟩
  | .bool _, _, _, .bl _, r => by cases r; exact ⟨_, .bool _⟩
  | .int _, _, _, .int _, r => by obtain ⟨t, rfl⟩ := r; exact ⟨_, .int _ _⟩
  | .str _, _, _, .str _, r => by obtain ⟨t, rfl⟩ := r; exact ⟨_, .str _ _⟩
  | .tuple ds, _, _, .tup h hs, r => by
    cases r
    obtain ⟨its, rv, ⟨o, e, c, n, d⟩, _⟩ := I.tuple h
    obtain ⟨as, q⟩ := Inv.readsAll I hs rv
    exact ⟨_, .tuple e c d (by simpa using q)⟩
  | .list ds, _, _, .lst h hs, r => by
    cases r
    obtain ⟨its, rv, ⟨o, n, e, c, _, d⟩, _⟩ := I.list h
    obtain ⟨as, q⟩ := Inv.readsAll I hs rv
    exact ⟨_, .list e c d (by simpa using q)⟩
theorem Inv.readsAll (I : Inv X pins σ H s) : ∀ {ds : List PyData} {xs : List V} {us : List Value}, Rps X.K H xs ds → Vals xs us → ∃ as, ReadsAll s.heap us ds as
  | [], _, _, .nil, r => by cases r; exact ⟨_, .nil⟩
  | d :: ds, _, _, .cons h hs, r => by
    cases r with
    | cons r1 r2 =>
      obtain ⟨as, q⟩ := Inv.reads I h r1
      obtain ⟨bs, q2⟩ := Inv.readsAll I hs r2
      exact ⟨_, .cons q q2⟩
end
def rEqD (K : PySem.W.Frag) : R2 := fun x y H Q => ∃ d e, Rp K H x d ∧ Rp K H y e ∧ SeqAt.shaped d = true ∧ SeqAt.shaped e = true ∧ Q (.bl (PyData.eqv d e)) H
def rNeD (K : PySem.W.Frag) : R2 := fun x y H Q => ∃ d e, Rp K H x d ∧ Rp K H y e ∧ SeqAt.shaped d = true ∧ SeqAt.shaped e = true ∧ Q (.bl (!PyData.eqv d e)) H
theorem op_eqD (hu : X.A.units + 64 < cLine) : OpR X (compareOp .Eq) (rEqD X.K) := by
  intro pins s σ H x y v u Q I rx ry h
  obtain ⟨d, e, hd, he, sd, se, q⟩ := h
  obtain ⟨as, ra⟩ := I.reads hd rx
  obtain ⟨bs, rb⟩ := I.reads he ry
  exact SeqAt.compareEq_shaped ra rb sd se hu ⟨.bl _, H, I, rfl, q⟩
theorem op_neD (hu : X.A.units + 64 < cLine) : OpR X (compareOp .NotEq) (rNeD X.K) := by
  intro pins s σ H x y v u Q I rx ry h
  obtain ⟨d, e, hd, he, sd, se, q⟩ := h
  obtain ⟨as, ra⟩ := I.reads hd rx
  obtain ⟨bs, rb⟩ := I.reads he ry
  exact SeqAt.compareNe_shaped ra rb sd se hu ⟨.bl _, H, I, rfl, q⟩
end
/-- what changes no tuple, no frozen thing -/
def Tups (H H' : Hp) : Prop := (∀ b xs, H b = some (.tup xs) → H' b = some (.tup xs)) ∧ ∀ b o u, H b = some (.frz o u) → H' b = some (.frz o u)
theorem Same.tups {H H' : Hp} (s : Same H H') : Tups H H' := ⟨fun b xs e => s _ _ e, fun b o u e => s _ _ e⟩
theorem Tups.lst {H : Hp} {l : Addr} {xs ys : List V} (h : H l = some (.lst xs)) : Tups H (upd H l (.lst ys)) := by
  refine ⟨fun b zs e => ?_, fun b o u e => ?_⟩
  · rw [upd_ne (ne_of e h (by intro z; cases z))]
    exact e
  · rw [upd_ne (ne_of e h (by intro z; cases z))]
    exact e
theorem Tups.sq {K : PySem.W.Frag} {H H' : Hp} {a : Addr} {xs : List V} (e : Tups H H') (h : SqT K H a xs) : SqT K H' a xs := by
  rcases h with (h | ⟨o, h⟩) | h
  · exact .inl (.inl (e.1 _ _ h))
  · exact .inl (.inr ⟨o, e.2 _ _ _ h⟩)
  · exact .inr h
theorem fr_shaped {x y : Int} : SeqAt.shaped (.tuple [.int x, .int y]) = true := rfl
theorem fr_eqv {x y z w : Int} : PyData.eqv (.tuple [.int x, .int y]) (.tuple [.int z, .int w]) = (decide (x = z) && decide (y = w)) := by
  simp [PyData.eqv, PyData.eqvAll]
  rfl
/-- the ten classes of refusals -/
structure Cs where
  (RoadError NoNumber NoNet NoWish NoWay TooMany NoShare NoStep NoSuch NoText : Addr)
end L2

end

section
set_option maxHeartbeats 1000000
namespace L2
open PySem
theorem kit_ref {K : PySem.W.Frag} {N C : Addr} {cd : ClassData} {b : Bool} (hc : PySem.W.clsIn K C = some cd) (ht : PySem.W.typeIn K (.ref C) = some (.type "type")) (hm : PySem.W.mroIn K N (.ref C) = some b) : PySem.W.kitCls K (.ref N) (.ref C) = some b := by
  show (if ((PySem.W.clsIn K C).isSome && PySem.W.typeIn K (.ref C) == some (.type "type")) = true then PySem.W.subIn K (.ref N) (.ref C) else none) = some b
  rw [hc, ht]
  exact hm
theorem kit_refN {K : PySem.W.Frag} {N C : Addr} {cd : ClassData} {b : Bool} (hc : PySem.W.clsIn K C = some cd) (ht : PySem.W.typeIn K (.ref C) = some (.type "type")) (hm : PySem.W.mroIn K N (.ref C) = some b) (ne : (N == C) = false) : PySem.W.kitOne K (.ref N) (.ref C) = some b := by
  unfold PySem.W.kitOne
  rw [if_neg (fun q => by
    have e : N = C := Value.ref.inj (beq_iff_eq.mp q)
    rw [e] at ne
    simp at ne)]
  exact kit_ref hc ht hm

end L2

end

section
set_option maxHeartbeats 1000000
/-! LIST COMPREHENSIONS over the hand layer: one clause, at most one test; an element that raises nothing. -/
namespace L2
open PySem PySem.Spec PyProof.Rows
/-- the cells of the names that a block draws from around it -/
def closL (cells : List (Str × Addr)) : List (Str × NameKind) → List (Str × Addr) → List (Str × Addr)
  | [], cs => cs
  | (n, k) :: r, cs => closL cells r (if (k == .free) = true then (n, (cells.lookup n).getD 0) :: cs else cs)
theorem clos_eq {scope : Scope} {env : Env} (h : ∀ x ∈ scope.names, x.2 = .free → ∃ c, env.cells.lookup x.1 = some c) : closureFor scope env = pure (closL env.cells scope.names []) := by
  have key : ∀ (l : List (Str × NameKind)) (cs : List (Str × Addr)), (∀ x ∈ l, x.2 = .free → ∃ c, env.cells.lookup x.1 = some c) →
      forIn (m := Sem) l cs (fun (x : Str × NameKind) (r : List (Str × Addr)) => if (x.2 == .free) = true then (do let a ← cellOf env x.1; pure (.yield ((x.1, a) :: r))) else pure (.yield r)) = pure (closL env.cells l cs) := by
    intro l
    induction l with
    | nil => intro cs _; rfl
    | cons x r ih =>
      intro cs hx
      obtain ⟨n, k⟩ := x
      rw [List.forIn_cons]
      unfold closL
      by_cases hk : k = .free
      · subst hk
        obtain ⟨c, e⟩ := hx (n, .free) List.mem_cons_self rfl
        have ec : cellOf env n = pure c := by unfold cellOf; rw [e]
        simp only [beq_self_eq_true, if_true]
        rw [ec, pure_bind, pure_bind]
        rw [e]
        exact ih _ fun y hy => hx y (List.mem_cons_of_mem _ hy)
      · have hb : (k == NameKind.free) = false := by simpa using hk
        simp only [hb, Bool.false_eq_true, if_false]
        rw [pure_bind]
        exact ih _ fun y hy => hx y (List.mem_cons_of_mem _ hy)
  have e := key scope.names [] h
  unfold closureFor
  simp only [bind_pure]
  exact e
theorem closL_lookup {cells : List (Str × Addr)} {x : Str} {c : Addr} : ∀ {l : List (Str × NameKind)} {cs : List (Str × Addr)}, (closL cells l cs).lookup x = some c →
    cs.lookup x = some c ∨ ((x, NameKind.free) ∈ l ∧ (cells.lookup x).getD 0 = c)
  | [], cs, h => .inl h
  | (n, k) :: r, cs, h => by
    unfold closL at h
    rcases closL_lookup h with q | ⟨h1, h2⟩
    · clear h
      by_cases hk : (k == NameKind.free) = true
      · rw [if_pos hk, List.lookup_cons] at q
        cases hx : x == n with
        | true =>
          rw [hx] at q
          have e1 : x = n := by simpa using hx
          have e2 : k = .free := by simpa using hk
          subst e1 e2
          exact .inr ⟨List.mem_cons_self, Option.some.inj q⟩
        | false =>
          rw [hx] at q
          exact .inl q
      · rw [if_neg hk] at q
        exact .inl q
    · exact .inr ⟨List.mem_cons_of_mem _ h1, h2⟩
theorem closL_has {cells : List (Str × Addr)} {x : Str} : ∀ {l : List (Str × NameKind)} {cs : List (Str × Addr)}, ((x, NameKind.free) ∈ l ∨ ∃ c, cs.lookup x = some c) → ∃ c, (closL cells l cs).lookup x = some c
  | [], cs, h => by
    rcases h with h | h
    · cases h
    · exact h
  | (n, k) :: r, cs, h => by
    unfold closL
    refine closL_has ?_
    rcases h with h | ⟨c, h⟩
    · rcases List.mem_cons.mp h with h | h
      · cases h
        right
        simp only [beq_self_eq_true, if_true, List.lookup_cons]
        exact ⟨_, rfl⟩
      · exact .inl h
    · right
      split
      · rw [List.lookup_cons]
        cases x == n with
        | true => exact ⟨_, rfl⟩
        | false => exact ⟨c, h⟩
      · exact ⟨c, h⟩
section
variable {prog : Program} {w : World} {A : Around} {R : Result → Shared → Prop} {s : Shared}
/-- the block's loop, the step ahead of the store told apart -/
theorem comp_loop {elt target iter : Expr} {ifs : List Expr} {scope : Scope} {pos : Pos} {it acc : Value} {env : Env} (I : Nat → Shared → Prop) (n : Nat) (h : I n s)
    (turn : ∀ n s, I n s → wpAny (model prog w) A (pyNext it) (fun r s1 => match r with
      | none => R (.ok .next) s1
      | some v => wpAny (model prog w) A (letOwnedTupleGo target it v) (fun _ s2 => wpAny (model prog w) A (assign target env v) (fun _ s3 =>
          wpAny (model prog w) A (forIn ifs true fun c r => if r = true then do let ok ← isTrue c env (eval c env); pure (ForInStep.yield ok) else pure (ForInStep.yield r)) (fun ok s4 =>
            if ok = true then wpAny (model prog w) A (eval elt env) (fun x s5 => wpAny (model prog w) A (call (.builtin "list.append") [acc, x]) (fun _ s6 => ∃ m, m < n ∧ I m s6) (fun _ _ => False) s5) (fun _ _ => False) s4
            else ∃ m, m < n ∧ I m s4) (fun _ _ => False) s3) (fun _ _ => False) s2) (fun _ _ => False) s1) (fun _ _ => False) s) :
    codeAny (model prog w) A (.compLoop (.ListComp elt [⟨target, iter, ifs, 0⟩] scope pos) 0 it acc env) R s := by
  refine codeAny_loop rfl I (fun n s hI => ?_) n h
  show wpAny _ A ((compTurn (.ListComp elt [⟨target, iter, ifs, 0⟩] scope pos) 0 it acc env).onRaise (fun x => do noteFrame x env; theTreesLotGoes x)) _ _ s
  refine wpAny_noted ?_
  rw [compTurn_list]
  refine wpAny_bind (wpAny_standAt (wpAny_bind (wpAny_mono (turn n s hI) (fun r s1 h1 => ?_) fun _ _ z => z.elim)))
  cases r with
  | none => exact wpAny_pure h1
  | some v =>
    refine wpAny_bind (wpAny_mono h1 (fun _ s2 h2 => ?_) fun _ _ z => z.elim)
    refine wpAny_bind (wpAny_mono h2 (fun _ s3 h3 => ?_) fun _ _ z => z.elim)
    refine wpAny_bind (wpAny_mono h3 (fun ok s4 h4 => ?_) fun _ _ z => z.elim)
    cases ok with
    | false => exact wpAny_pure ⟨rfl, h4⟩
    | true => exact wpAny_bind (wpAny_bind (wpAny_mono h4 (fun x s5 h5 => wpAny_bind (wpAny_mono h5 (fun _ s6 h6 => wpAny_pure (wpAny_pure ⟨rfl, h6⟩)) fun _ _ z => z.elim)) fun _ _ z => z.elim))
end

/-- the block's context: its own names first, then those it draws from around it -/
def Cx.comp (X : Cx) (s : Shared) (H : Hp) (N' : List Str) (scope : Scope) (C : Addr) (fp : List Addr) : Cx where
  prog := X.prog
  w := X.w
  K := X.K
  mg := X.mg
  base := X.base
  A := X.A
  N := N'
  s₀ := s
  H₀ := H
  env := compEnvC scope (closL X.env.cells scope.names []) C X.env
  outer := X.stack
  stack := X.stack
  ex := fp
  fn := fun _ => false
  calm := X.calm
  pn := []
  xe := fun _ _ => False
/-- a block's scope within X's: own names local, all others drawn from X's cells; capt: those it draws -/
structure CompScope (X : Cx) (scope : Scope) (own capt : List Str) (ix : List Nat) : Prop where
  kind : scope.kind = .function
  nocell : ∀ y ∈ scope.names, y.2 ≠ .cell
  locs : ∀ y ∈ scope.names, y.2 = .local → scope.names.lookup y.1 = some .local
  frees : ∀ y ∈ scope.names, y.2 = .free → X.env.scope.names.lookup y.1 = some .cell
  cap : ∀ (j : Nat) (x : Str), capt[j]? = some x → scope.names.lookup x = some .free ∧ ∃ i, ix[j]? = some i ∧ X.N[i]? = some x
  nd : (own ++ capt).Nodup
  len : ix.length = capt.length
inductive Caps (X : Cx) (scope : Scope) : List Str → List Nat → Prop where
  | nil : Caps X scope [] []
  | cons {x : Str} {i : Nat} {xs : List Str} {is : List Nat} (h1 : scope.names.lookup x = some .free) (h2 : X.N[i]? = some x) (r : Caps X scope xs is) : Caps X scope (x :: xs) (i :: is)
theorem Caps.at {X : Cx} {scope : Scope} : ∀ {capt : List Str} {ix : List Nat}, Caps X scope capt ix → ∀ (j : Nat) (x : Str), capt[j]? = some x → scope.names.lookup x = some .free ∧ ∃ i, ix[j]? = some i ∧ X.N[i]? = some x
  | _, _, .nil, j, x, h => by simp at h
  | _, _, .cons h1 h2 r, 0, x, h => by
    simp at h
    subst h
    exact ⟨h1, _, rfl, h2⟩
  | _, _, .cons h1 h2 r, j + 1, x, h => by
    obtain ⟨q1, i, q2, q3⟩ := r.at j x (by simpa using h)
    exact ⟨q1, i, by simpa using q2, q3⟩
theorem Caps.len {X : Cx} {scope : Scope} : ∀ {capt : List Str} {ix : List Nat}, Caps X scope capt ix → ix.length = capt.length
  | _, _, .nil => rfl
  | _, _, .cons _ _ r => by simp [r.len]
theorem CompScope.of {X : Cx} {scope : Scope} {own capt : List Str} {ix : List Nat} (kind : scope.kind = .function) (nocell : ∀ y ∈ scope.names, y.2 ≠ .cell) (locs : ∀ y ∈ scope.names, y.2 = .local → scope.names.lookup y.1 = some .local)
    (frees : ∀ y ∈ scope.names, y.2 = .free → X.env.scope.names.lookup y.1 = some .cell) (c : Caps X scope capt ix) (nd : (own ++ capt).Nodup) : CompScope X scope own capt ix := ⟨kind, nocell, locs, frees, c.at, nd, c.len⟩
/-- what the names hold at the block's entry -/
def capV (n : Nat) (ix : List Nat) (σ : St) : St := List.replicate n none ++ ix.map fun i => (σ[i]?).join
section
variable {X : Cx} {pins : List (Addr × Obj)} {σ : St} {H : Hp} {s : Shared} {scope : Scope} {own capt : List Str} {ix : List Nat} {fp : List Addr}
theorem lookup_relabel {env : Env} {x : Str} : ∀ {names : List (Str × NameKind)}, (∀ y ∈ names, y.2 = .free → env.scope.names.lookup y.1 = some .cell) → env.scope.kind = .function →
    (names.map fun (n, k) => if (k == NameKind.free && env.scope.kind == .function && env.kindOf n == some .cell) then (n, NameKind.cell) else (n, k)).lookup x = (names.lookup x).map fun k => if k = .free then .cell else k
  | [], _, _ => rfl
  | (n, k) :: r, h, hk => by
    have ih := lookup_relabel (x := x) (names := r) (fun y hy => h y (List.mem_cons_of_mem _ hy)) hk
    rw [List.map_cons, List.lookup_cons]
    by_cases hf : k = .free
    · subst hf
      have e : env.kindOf n = some .cell := h (n, .free) List.mem_cons_self rfl
      have e2 : (NameKind.free == NameKind.free && env.scope.kind == .function && env.kindOf n == some .cell) = true := by rw [e, hk]; rfl
      rw [if_pos e2, List.lookup_cons]
      cases x == n with
      | true => rfl
      | false => exact ih
    · have e2 : ¬ (k == NameKind.free && env.scope.kind == .function && env.kindOf n == some .cell) = true := by
        intro z
        rw [Bool.and_eq_true, Bool.and_eq_true] at z
        exact hf (by simpa using z.1.1)
      rw [if_neg e2, List.lookup_cons]
      cases x == n with
      | true => simp [hf]
      | false => exact ih
theorem comp_cells (I : Inv X pins σ H s) (CS : CompScope X scope own capt ix) {x : Str} {c : Addr} (e : (closL X.env.cells scope.names []).lookup x = some c) : (x, NameKind.free) ∈ scope.names ∧ X.env.cells.lookup x = some c := by
  rcases closL_lookup e with e | ⟨h1, h2⟩
  · cases e
  · obtain ⟨c', e'⟩ := I.ok.has x (.inl (CS.frees _ h1 rfl))
    rw [e'] at h2
    exact ⟨h1, by rw [e']; exact congrArg some h2⟩
theorem comp_ok (I : Inv X pins σ H s) (CS : CompScope X scope own capt ix) (f : ∀ b ∈ fp, FpOk X pins H b) {C : Addr} (hC : s.heap.objs.size ≤ C) (hfp : ∀ b ∈ fp, b < s.heap.objs.size) : (X.comp s H (own ++ capt) scope C fp).Ok := by
  have cl : ∀ x c, (closL X.env.cells scope.names []).lookup x = some c → (x, NameKind.free) ∈ scope.names ∧ X.env.cells.lookup x = some c := fun x c e => comp_cells I CS e
  refine ⟨I.ok.mod, CS.kind, I.ok.glob, I.ok.blt, hC, fun x y c h1 h2 => I.ok.inj x y c (cl x c h1).2 (cl y c h2).2, fun x hx => ?_, fun x c z => (by cases z), I.ok.hd, I.ok.frames, .inl rfl, fun b hb => ⟨?_, fun x c e => ?_⟩, fun b o e => I.bs b o e, ?_, fun b o e hb => ?_, fun b hb z => ?_, I.stack, fun b hb => I.stkFree b hb⟩
  · -- a name that is a cell or free there
    have e : (compEnvC scope (closL X.env.cells scope.names []) C X.env).kindOf x = (scope.names.lookup x).map fun k => if k = .free then .cell else k := lookup_relabel CS.frees I.ok.kind
    have hx' : (scope.names.lookup x).map (fun k => if k = NameKind.free then NameKind.cell else k) = some .cell ∨ (scope.names.lookup x).map (fun k => if k = NameKind.free then NameKind.cell else k) = some .free := by rw [← e]; exact hx
    cases q : scope.names.lookup x with
    | none => rw [q] at hx'; rcases hx' with z | z <;> cases z
    | some k =>
      rw [q] at hx'
      have hm := PySem.mem_of_lookup q
      by_cases hk : k = .free
      · subst hk
        exact closL_has (.inl hm)
      · rcases hx' with z | z
        · simp only [Option.map_some, if_neg hk, Option.some.injEq] at z
          subst z
          exact absurd rfl (CS.nocell _ hm)
        · simp only [Option.map_some, if_neg hk, Option.some.injEq] at z
          exact absurd z hk
  · exact Nat.ne_of_lt (Nat.lt_of_lt_of_le (hfp b hb) hC)
  · exact (f b hb).2.2.2.2.1 x c (cl x c e).2
  · exact Nat.le_trans I.ok.bsz I.sz
  · rcases (f b hb).2.2.2.1 with z | z
    · exact I.ok.noex b o e z
    · exact absurd (Nat.lt_of_lt_of_le (Heap.lt_size e) (Nat.le_trans I.ok.bsz z)) (Nat.lt_irrefl _)
  · rcases List.mem_cons.mp (I.stkSub b z) with q | q
    · exact (f b hb).2.1 q
    · exact (f b hb).2.2.1 q
/-- the block's first state -/
theorem comp_inv (I : Inv X pins σ H s) (CS : CompScope X scope own capt ix) (f : ∀ b ∈ fp, FpOk X pins H b) (hfp : ∀ b ∈ fp, b < s.heap.objs.size) {h1 : Heap} {m : Str → Option Value} {C : Addr} {n tk : Nat} (hC : s.heap.objs.size < C)
    (keep : ∀ b o, s.heap.get? b = some o → h1.get? b = some o) (hacc : h1.get? s.heap.objs.size = some { cls := .type "list", data := .seq #[] n }) (hns : h1.Ns C m) :
    Inv (X.comp s H (own ++ capt) scope C fp) [] (capV own.length ix σ) (upd H s.heap.objs.size (.lst [])) { s with heap := h1, toks := tk } := by
  have hD := I.hok.fresh (Nat.le_refl s.heap.objs.size)
  have cellK : ∀ c v, s.heap.IsCell c v → h1.IsCell c v := fun c v ⟨o, e, d⟩ => ⟨o, keep c o e, d⟩
  refine ⟨comp_ok I CS f (Nat.le_of_lt hC) hfp, rfl, I.bare, Un.laid keep (Nat.le_refl _) hD, ⟨m, hns, fun i x v e1 e2 e3 => ?_⟩, fun x c e => ?_, ?_, fun x c e => ?_, fun p hp => absurd (show p ∈ ([] : List (Addr × Obj)) from hp) (by simp), ?_, ?_⟩
  · have hi : own.length ≤ i := by
      rcases Nat.lt_or_ge i own.length with z | z
      · have e2' : (capV own.length ix σ)[i]? = some (some v) := e2
        unfold capV at e2'
        rw [List.getElem?_append_left (by simpa using z), List.getElem?_replicate] at e2'
        split at e2' <;> cases e2'
      · exact z
    have e1' : capt[i - own.length]? = some x := by
      have e1'' : (own ++ capt)[i]? = some x := e1
      rw [List.getElem?_append_right hi] at e1''
      exact e1''
    obtain ⟨hl, i0, hi0, hN⟩ := CS.cap _ _ e1'
    have hv : σ[i0]? = some (some v) := by
      have e2' : (capV own.length ix σ)[i]? = some (some v) := e2
      unfold capV at e2'
      rw [List.getElem?_append_right (by simpa using hi), List.length_replicate, List.getElem?_map, hi0] at e2'
      have e3' : (σ[i0]?).join = some v := Option.some.inj e2'
      cases q : σ[i0]? with
      | none => rw [q] at e3'; cases e3'
      | some z => rw [q] at e3'; exact congrArg some e3'
    have hm := PySem.mem_of_lookup hl
    have hcell : X.env.scope.names.lookup x = some .cell := CS.frees _ hm rfl
    obtain ⟨m0, _, hloc⟩ := I.loc
    obtain ⟨u, ru, lk⟩ := hloc i0 x v hN hv (.inr (.inl hcell))
    refine ⟨u, ru, .inr ⟨.inl ?_, ?_⟩⟩
    · have e : (compEnvC scope (closL X.env.cells scope.names []) C X.env).kindOf x = (scope.names.lookup x).map fun k => if k = .free then .cell else k := lookup_relabel CS.frees I.ok.kind
      show (compEnvC scope (closL X.env.cells scope.names []) C X.env).kindOf x = some .cell
      rw [e, hl]
      rfl
    · rcases lk with ⟨k, _⟩ | ⟨_, c, ec, z⟩
      · have k' : X.env.scope.names.lookup x = some .local := k
        rw [hcell] at k'
        cases k'
      · obtain ⟨c', e'⟩ := closL_has (cells := X.env.cells) (cs := []) (.inl hm)
        have := (comp_cells I CS e').2
        rw [ec] at this
        cases this
        exact ⟨c, e', cellK _ _ z⟩
  · obtain ⟨v, z⟩ := I.cell x c (comp_cells I CS e).2
    exact ⟨v, cellK _ _ z⟩
  · show upd H s.heap.objs.size (.lst []) C = none
    rw [upd_ne (Nat.ne_of_gt hC)]
    exact I.hok.fresh (Nat.le_of_lt hC)
  · have q := (comp_cells I CS e).2
    obtain ⟨v, z⟩ := I.cell x c q
    rw [upd_ne (Nat.ne_of_lt z.lt)]
    exact I.freeC x c q
  · exact I.hok.laid keep (Nat.le_refl _) ⟨Nat.zero_le _, [], n, .nil, hacc⟩
  · show (capV own.length ix σ).length = (own ++ capt).length
    unfold capV
    rw [List.length_append, List.length_append, List.length_replicate, List.length_map, CS.len]
/-- no test, one test -/
def tNoIf : TT := fun _ H P => P true H
def PF (X : Cx) (ifs : List Expr) (t : TT) : Prop :=
  ∀ (pins : List (Addr × Obj)) (s : Shared) (σ : St) (H : Hp) (Q : Bool → Hp → Prop), Inv X pins σ H s → t σ H Q →
    wpAny (model X.prog X.w) X.A (forIn ifs true fun c r => if r = true then do let ok ← isTrue c X.env (eval c X.env); pure (ForInStep.yield ok) else pure (ForInStep.yield r)) (TP X pins σ Q) X.xe s
theorem pf_nil : PF X [] tNoIf := fun pins s σ H Q I h => wpAny_pure ⟨H, I, h⟩
theorem pf_one {c : Expr} {t : TT} (hc : PT X c t) : PF X [c] t := fun pins s σ H Q I h => by
  rw [List.forIn_cons]
  refine wpAny_bind ?_
  rw [if_pos rfl]
  exact wpAny_bind (thn (hc pins s σ H Q I h) fun ok s1 q => wpAny_pure (wpAny_pure q))
/-- [e for x in xs if c]: what the loop that makes the list asks -/
def tComp (n : Nat) (ix : List Nat) (wi : TI) (g : TG) (tc : TT) (te : TE) : TE := fun σ H Q => wi σ H fun J H1 => ∀ acc, H1 acc = none → ∃ W : Nat → Nat → St → Hp → Prop, (∃ m, W 0 m (capV n ix σ) (upd H1 acc (.lst []))) ∧
  ∀ i m σ' H', W i m σ' H' → (J.stop i H' ∧ Q (.ref acc) H') ∨ (J.go i H' ∧ ∃ N : St → Hp → Prop, (∀ σ2 H2, N σ2 H2 → ∃ m', m' < m ∧ W (i + 1) m' σ2 H2) ∧
    ∀ x H2, J.yld i H' x H2 → g x σ' H2 fun σ3 H3 => tc σ3 H3 fun ok H4 => if ok = true then te σ3 H4 fun v H5 => ∃ ys, H5 acc = some (.lst ys) ∧ ys.length < sizeLine ∧ N σ3 (upd H5 acc (.lst (ys ++ [v]))) else N σ3 H4)
theorem comp_run {E : Value → Shared → Prop} {elt target iter : Expr} {ifs : List Expr} {pos : Pos} {g : TG} {tc : TT} {te : TE} {J : It} {it : Addr} {tn : Nat → Heap → Prop} {RR : Value → Addr → Result → Shared → Prop} {Q : VK}
    (I : Inv X pins σ H s) (hc : X.calm = true) (CS : CompScope X scope own capt ix) (T : Turn X.prog X.w X.K target J fp it tn) (st : tn 0 s.heap) (f : ∀ b ∈ fp, FpOk X pins H b)
    (hg : ∀ s H C fp, PG (X.comp s H (own ++ capt) scope C fp) target g) (hf : ∀ s H C fp, PF (X.comp s H (own ++ capt) scope C fp) ifs tc) (he : ∀ s H C fp, PE (X.comp s H (own ++ capt) scope C fp) elt te)
    (hW : ∀ acc, H acc = none → ∃ W : Nat → Nat → St → Hp → Prop, (∃ m, W 0 m (capV own.length ix σ) (upd H acc (.lst []))) ∧
      ∀ i m σ' H', W i m σ' H' → (J.stop i H' ∧ Q (.ref acc) H') ∨ (J.go i H' ∧ ∃ N : St → Hp → Prop, (∀ σ2 H2, N σ2 H2 → ∃ m', m' < m ∧ W (i + 1) m' σ2 H2) ∧
        ∀ x H2, J.yld i H' x H2 → g x σ' H2 fun σ3 H3 => tc σ3 H3 fun ok H4 => if ok = true then te σ3 H4 fun v H5 => ∃ ys, H5 acc = some (.lst ys) ∧ ys.length < sizeLine ∧ N σ3 (upd H5 acc (.lst (ys ++ [v]))) else N σ3 H4))
    (fin : ∀ D C s' H', Inv X pins σ H' s' → FpOk X pins H' C → (∃ m, s'.heap.Ns C m) → Q (.ref D) H' → RR (.ref D) C (.ok .next) s') :
    wpAny (model X.prog X.w) X.A (newList []) (fun acc s3 => wpAny (model X.prog X.w) X.A (newFunctionEnv scope X.env.globals (closL X.env.cells scope.names []) [] X.env.qual none .none (some X.env)) (fun cenv s4 =>
      codeAny (model X.prog X.w) X.A (.compStart (.ListComp elt [⟨target, iter, ifs, 0⟩] scope pos) 0 (.ref it) acc { cenv with scope := relabel scope X.env }) (RR acc cenv.locals) s4) E s3) E s := by
  refine wpAny_newObj_type (wpAny_newFunctionEnv CS.nocell (by intro y hy; simp at hy) (fun h1 hns hsb => ?_) CS.kind)
  dsimp only at hns hsb ⊢
  generalize hP : s.heap.push { cls := .type "list", dict := none, data := .seq ([] : List Value).toArray } = P2 at hns hsb ⊢
  have hC : P2.objs.size = s.heap.objs.size + 1 := by rw [← hP, Heap.size_push]
  have lt : s.heap.objs.size < P2.objs.size := by omega
  have keep : ∀ b o, s.heap.get? b = some o → h1.get? b = some o := fun b o e => by
    have hb := Heap.lt_size e
    exact hsb.extBut b o (Nat.ne_of_lt (Nat.lt_trans hb lt)) (Heap.get?_push_of_some _ (hP ▸ Heap.get?_push_of_some _ e))
  have hacc : h1.get? s.heap.objs.size = some { cls := .type "list", data := .seq #[] } := hsb.extBut _ _ (Nat.ne_of_lt lt) (Heap.get?_push_of_some _ (hP ▸ Heap.get?_push_size _ rfl))
  have hfp : ∀ b ∈ fp, b < s.heap.objs.size := fun b hb => by
    obtain ⟨o, e, _⟩ := T.obj 0 _ st b hb
    exact Heap.lt_size e
  obtain ⟨W, ⟨m0, w0⟩, turn⟩ := hW s.heap.objs.size (I.hok.fresh (Nat.le_refl _))
  have ok := comp_ok I CS f (Nat.le_of_lt lt) hfp
  have stat : ∀ {H' : Hp}, (∀ b ∈ fp, H' b = none) → ∀ b ∈ fp, FpOk (X.comp s H (own ++ capt) scope P2.objs.size fp) [] H' b := fun hn b hb =>
    ⟨hn b hb, (ok.exf b hb).1, ok.exfs b hb, .inl hb, (ok.exf b hb).2, fun p hp => absurd (show p ∈ ([] : List (Addr × Obj)) from hp) (by simp)⟩
  have back : ∀ {s' : Shared} {σ' : St} {H' : Hp}, Inv (X.comp s H (own ++ capt) scope P2.objs.size fp) [] σ' H' s' → Inv X pins σ H' s' := fun {s' σ' H'} J' =>
    I.call' J'.os J'.base J'.hok J'.bare fun b hb => ⟨(f b hb).2.2.2.1, (f b hb).2.1, (f b hb).2.2.2.2.1, (f b hb).2.2.2.2.2⟩
  have loop : ∀ tk : Nat, codeAny (model X.prog X.w) X.A (.compLoop (.ListComp elt [⟨target, iter, ifs, 0⟩] scope pos) 0 (.ref it) (.ref s.heap.objs.size) (compEnvC scope (closL X.env.cells scope.names []) P2.objs.size X.env))
      (RR (.ref s.heap.objs.size) P2.objs.size) { s with heap := h1, toks := tk } := fun tk => by
    have I1 := comp_inv (tk := tk) I CS f hfp lt keep hacc hns
    refine comp_loop (fun n s' => ∃ i σ' H', Inv (X.comp s H (own ++ capt) scope P2.objs.size fp) [] σ' H' s' ∧ tn i s'.heap ∧ (∀ b ∈ fp, H' b = none) ∧ W i n σ' H') m0 ⟨0, _, _, I1, T.keep _ _ _ st fun b _ o e => keep b o e, fun b hb => ?_, w0⟩ ?_
    · rw [upd_ne (Nat.ne_of_lt (hfp b hb))]
      exact (f b hb).1
    rintro n s3 ⟨i, σ3, H3, I3, st3, fr3, w3⟩
    rcases turn i n σ3 H3 w3 with ⟨stop, qn⟩ | ⟨go, N, hN, step⟩
    · refine thn (T.done (X.comp s H (own ++ capt) scope P2.objs.size fp) rfl rfl rfl hc i [] s3 σ3 H3 _ I3 (stat fr3) st3 stop) fun r s4 ⟨hr, I4⟩ => ?_
      subst hr
      obtain ⟨m, hm, _⟩ := I4.loc
      exact fin _ _ _ _ (back I4) (I.fpOk (Nat.le_of_lt lt) I4.free) ⟨m, hm⟩ qn
    · refine thn (T.item (X.comp s H (own ++ capt) scope P2.objs.size fp) rfl rfl rfl hc i [] s3 σ3 H3 _ I3 (stat fr3) st3 go) fun r s4 ⟨u, hr, h4⟩ => ?_
      subst hr
      refine thn h4 fun _ s5 ⟨x, H5, I5, r5, y5, st5, fr5⟩ => ?_
      have I5' := I5.pinned (stat fr5) (T.obj _ _ st5)
      refine thn (hg _ _ _ _ _ s5 σ3 H5 x u _ I5' r5 (step x H5 y5)) fun _ s6 ⟨σ6, H6, I6, q6⟩ => ?_
      have again : ∀ {s7 : Shared} {H7 : Hp}, Inv (X.comp s H (own ++ capt) scope P2.objs.size fp) ([] ++ pinsAt fp s5.heap) σ6 H7 s7 → N σ6 H7 → ∃ m, m < n ∧ ∃ i σ' H', Inv (X.comp s H (own ++ capt) scope P2.objs.size fp) [] σ' H' s7 ∧ tn i s7.heap ∧ (∀ b ∈ fp, H' b = none) ∧ W i m σ' H' := fun {s7 H7} I7 n7 => by
        obtain ⟨m', hm, w7⟩ := hN σ6 H7 n7
        refine ⟨m', hm, i + 1, σ6, H7, I7.unpinned, T.keep _ _ _ st5 fun b hb o e => (I7.pin (b, o) (List.mem_append_right _ (List.mem_append_right _ (mem_pinsAt hb e)))).1, fun b hb => ?_, w7⟩
        obtain ⟨o, e, d⟩ := T.obj _ _ st5 b hb
        exact (I7.pin (b, o) (List.mem_append_right _ (List.mem_append_right _ (mem_pinsAt hb e)))).2.1
      refine thn (hf _ _ _ _ _ s6 σ6 H6 _ I6 q6) fun okv s7 ⟨H7, I7, q7⟩ => ?_
      cases okv with
      | false =>
        rw [if_neg Bool.false_ne_true] at q7 ⊢
        exact again I7 q7
      | true =>
        rw [if_pos rfl] at q7 ⊢
        refine thn (he _ _ _ _ _ s7 σ6 H7 _ I7 q7) fun xv s8 ⟨v, H8, I8, r8, ys, hy, hz, n8⟩ => ?_
        refine thn (mt_append (X := X.comp s H (own ++ capt) scope P2.objs.size fp) _ s8 σ6 H8 (.ref s.heap.objs.size) [v] (.ref s.heap.objs.size) [xv] (fun _ H9 => N σ6 H9) I8 rfl (.cons r8 .nil) ⟨_, ys, v, rfl, rfl, hy, hz, n8⟩) fun _ s9 ⟨_, H9, I9, _, n9⟩ => again I9 n9
  refine codeAny_compStart_list (loop _) (T.self _ 0 _ _ _ (T.keep _ _ _ st fun b _ o e => keep b o e) (loop _))
theorem pe_comp {elt target iter : Expr} {ifs : List Expr} {pos : Pos} {wi : TI} {g : TG} {tc : TT} {te : TE} (hc : X.calm = true) (CS : CompScope X scope own capt ix) (hi : PI X target iter wi)
    (hg : ∀ s H C fp, PG (X.comp s H (own ++ capt) scope C fp) target g) (hf : ∀ s H C fp, PF (X.comp s H (own ++ capt) scope C fp) ifs tc) (he : ∀ s H C fp, PE (X.comp s H (own ++ capt) scope C fp) elt te)
    (hs : ∀ x, foldedSetIterable iter X.env x = pure x := by intro _; rfl) : PE X (.ListComp elt [⟨target, iter, ifs, 0⟩] scope pos) (tComp own.length ix wi g tc te) := by
  intro pins s σ H Q I h
  rw [eval_ListComp]
  refine wpAny_comprehension_free (use := none) rfl hs (clos_eq fun x hx hk => I.ok.has x.1 (.inl (CS.frees x hx hk))) CS.kind CS.locs (thn (hi pins s σ H _ I h) fun v s1 h1 => thn h1 fun itv s2 h2 => ?_)
  obtain ⟨it, fp, tn, J, H2, e, I2, T, st2, f2, hW⟩ := h2
  subst e
  refine comp_run (RR := fun acc C => compPost (model X.prog X.w) X.A X.xe none (EP X pins σ Q) acc C) I2 hc CS T st2 f2 hg hf he hW fun D C s' H' J' fC ⟨m, hn⟩ q => ⟨m, hn, fun h' sb => ⟨.ref D, H', ?_, rfl, q⟩⟩
  exact J'.turned (t' := s'.toks) (fun b o hb e => (sb.2 b hb).trans e) fC.1 fC.2.1 fC.2.2.2.1 fC.2.2.2.2.1 fC.2.2.2.2.2
/-- y = [..]: the store comes ahead of the block's end -/
theorem ps_comp {i : Nat} {y : Str} {py spos : Pos} {elt target iter : Expr} {ifs : List Expr} {pos : Pos} {wi : TI} {g : TG} {tc : TT} {te : TE} (hc : X.calm = true) (CS : CompScope X scope own capt ix) (hi : PI X target iter wi)
    (hg : ∀ s H C fp, PG (X.comp s H (own ++ capt) scope C fp) target g) (hf : ∀ s H C fp, PF (X.comp s H (own ++ capt) scope C fp) ifs tc) (he : ∀ s H C fp, PE (X.comp s H (own ++ capt) scope C fp) elt te)
    (hN : X.N.Nodup := by assumption) (hiy : X.N[i]? = some y := by rfl) (hy : Loc X.env.scope y := by first | exact Or.inl rfl | exact Or.inr rfl) (hfn : X.fn y = true ∨ X.env.scope.names.lookup y = some .local := by first | exact .inl rfl | exact .inr rfl | assumption)
    (hsw : swapsWith (.ListComp elt [⟨target, iter, ifs, 0⟩] scope pos) (some (.Name y py)) spos.line X.env = pure true := by rfl)
    (hs : ∀ x, foldedSetIterable iter X.env x = pure x := by intro _; rfl) : PS X (.Assign [.Name y py] (.ListComp elt [⟨target, iter, ifs, 0⟩] scope pos) spos) (tAsg (tComp own.length ix wi g tc te) (gName i)) := by
  intro pins s σ H D I h
  rw [exec_Assign_Name_used _ _ _ _ hsw]
  refine wpAny_bind (wpAny_standAt (wpAny_bind ?_))
  show wpAny _ X.A (do let _ ← comprehension (.ListComp elt [⟨target, iter, ifs, 0⟩] scope pos) scope X.env _ (newList []) false (eval iter X.env) (some (assign (.Name y py) X.env))) _ _ s
  refine wpAny_bind (wpAny_mono (wpAny_comprehension_free (use := some (assign (.Name y py) X.env)) (Q := fun _ s' => SP X pins D .next s') rfl hs (clos_eq fun x hx hk => I.ok.has x.1 (.inl (CS.frees x hx hk))) CS.kind CS.locs
    (thn (hi pins s σ H _ I h) fun v s1 h1 => thn h1 fun itv s2 h2 => ?_)) (fun _ s' hq => wpAny_pure (wpAny_pure hq)) fun _ _ e => e)
  obtain ⟨it, fp, tn, J, H2, e, I2, T, st2, f2, hW⟩ := h2
  subst e
  refine comp_run (Q := fun x H1 => D.nx (σ.set i (some x)) H1) (RR := fun acc C => compPost (model X.prog X.w) X.A X.xe (some (assign (.Name y py) X.env)) (fun _ s' => SP X pins D .next s') acc C) I2 hc CS T st2 f2 hg hf he hW fun Dd C s' H' J' fC ⟨m, hn⟩ q => ?_
  show wpAny _ X.A (assign (.Name y py) X.env (.ref Dd)) _ _ _
  refine wpAny_assign_Name (store_ok2 J' hN hiy hy (v := .ref Dd) rfl (fun s'' I'' ⟨a, sa, ha⟩ => ?_) hfn)
  have hCa : C ≠ a := by
    rcases ha with z | z
    · rw [z]; exact fC.2.1
    · exact Ne.symm (fC.2.2.2.2.1 y a z)
  refine ⟨m, hn.sameBut sa hCa, fun h' sb => ⟨_, H', ?_, q⟩⟩
  exact I''.turned (t' := s''.toks) (fun b o hb e => (sb.2 b hb).trans e) fC.1 fC.2.1 fC.2.2.2.1 fC.2.2.2.2.1 fC.2.2.2.2.2
end
end L2

end

section
set_option maxHeartbeats 1000000
/-! enumerate and zip of lists, walked by a tuple of names. -/
namespace L2
open PySem PySem.Spec PyProof.Rows
theorem bt_enumerate : bootBuiltins "enumerate" = some (.type "enumerate") := by decide +kernel
section
variable {X : Cx} {pins : List (Addr × Obj)} {σ : St} {H : Hp} {s : Shared}
/-- records of ours have turned, a new tuple is laid -/
theorem Inv.yields (I : Inv X pins σ H s) {ch : List Addr} (hch : ∀ b ∈ ch, FpOk X pins H b) {h' : Heap} {tk : Nat} (keep : ∀ b o, b ∉ ch → s.heap.get? b = some o → h'.get? b = some o) {t : Addr} (ht : s.heap.objs.size ≤ t)
    {xs : List V} {us : List Value} (r : Vals xs us) (hl : xs.length ≤ sizeLine) (hT : IsTup h' t us.toArray) : Inv X pins σ (upd H t (.tup xs)) { s with heap := h', toks := tk } := by
  have hn := I.hok.fresh ht
  have nt : ∀ b o, s.heap.get? b = some o → b ≠ t := fun b o e => Nat.ne_of_lt (Nat.lt_of_lt_of_le (Heap.lt_size e) ht)
  have nc : ∀ b u, H b = some u → b ∉ ch := fun b u e z => by
    have := (hch b z).1
    rw [e] at this
    cases this
  have un : Un (frs X.stack) ch H (upd H t (.tup xs)) s.heap h' := by
    refine ⟨fun b o e n hb hc => keep b o hc e, fun b o e n hb hc => ⟨o.slots, keep b o hc e⟩, fun b o e n hc => ?_, fun b o e hc => ⟨o, keep b o hc e⟩, fun b ys e => ?_, fun b o u e => ?_, fun b ps e => ⟨#[], ?_⟩⟩
    · rw [upd_ne (nt b o e)]
      exact n
    · rw [upd_ne (ne_of_none e hn)]
      exact e
    · rw [upd_ne (ne_of_none e hn)]
      exact e
    · rw [upd_ne (ne_of_none e hn), e]
      simp
  refine I.call' (s' := { s with heap := h', toks := tk }) rfl un (fun b o e => ?_) I.bare fun b hb => ⟨(hch b hb).2.2.2.1, (hch b hb).2.1, (hch b hb).2.2.2.2.1, (hch b hb).2.2.2.2.2⟩
  by_cases hb : b = t
  · subst hb
    rw [upd_same] at e
    cases e
    exact ⟨hl, us, r, hT⟩
  · rw [upd_ne hb] at e
    refine (I.hok b o e).stay (fun c u hc q => keep c u ?_ q) (fun c q => ?_) fun c ys q => ?_
    · rcases hc with rfl | hc
      · exact nc _ _ e
      · exact nc _ _ hc
    · rw [upd_ne (ne_of_none q hn)]
      exact q
    · rw [upd_ne (ne_of_none q hn)]
      exact q
end
/-- (i, x) of the list at a -/
def Ite (K : PySem.W.Frag) (a : Addr) : It :=
  ⟨fun i H => ∃ xs x, SqL K H a xs ∧ xs[i]? = some x, fun i H v H' => ∃ x t, (∀ xs, SqL K H a xs → xs[i]? = some x) ∧ v = .ref t ∧ H t = none ∧ H' = upd H t (.tup [.int i, x]), fun i H => ∃ xs, SqL K H a xs ∧ xs.length ≤ i⟩
theorem turn_enum {P : Program} {w : World} {K : PySem.W.Frag} {elts : List Expr} {k} {tp : Pos} (a e it : Addr) (hne : e ≠ it) : Turn P w K (.Tuple elts k tp) (Ite K a) [e, it] e (fun i h => (∃ old, IsEnum h e it i old) ∧ h.IsListIter it a i) where
  mem := by simp
  obj := fun i h st b hb => by
    obtain ⟨⟨old, he⟩, o, eo, c, d⟩ := st
    simp only [List.mem_cons, List.not_mem_nil, or_false] at hb
    rcases hb with rfl | rfl
    · exact ⟨_, he, fun v z => by cases z⟩
    · exact ⟨o, eo, fun v z => by rw [d] at z; cases z⟩
  keep := fun i h h' st kk => by
    obtain ⟨⟨old, he⟩, hi⟩ := st
    exact ⟨⟨old, kk e (by simp) _ he⟩, hi.at fun o q => kk it (by simp) o q⟩
  item := by
    intro X hP hw hK hc i pins s σ H E I hf st hg
    subst hP hw hK
    obtain ⟨xs, x, hq, hx⟩ := hg
    obtain ⟨⟨old, he⟩, hi⟩ := st
    obtain ⟨its, rv, p, hz⟩ := I.list hq
    obtain ⟨u, hu, ru⟩ := rv.get hx
    refine wpAny_pyNext_enum_item he hi p.isList (x := u) (by simpa using hu) hne fun h' eo hi' ht hsz kp => ?_
    refine ⟨_, rfl, wpAny_letOwnedTupleGo_enum (s := { s with heap := h', toks := s.toks + 1 }) eo fun h'' ee sb => ?_⟩
    have lt : ∀ {c o}, s.heap.get? c = some o → s.heap.objs.size ≠ c := fun q => Nat.ne_of_gt (Heap.lt_size q)
    have nfp : s.heap.objs.size ≠ e := lt he
    have ht2 : h''.get? s.heap.objs.size = some { cls := .type "tuple", data := .seq #[.int i s.toks, u] } := sb.extBut _ _ nfp ht
    refine ⟨.ref s.heap.objs.size, upd H s.heap.objs.size (.tup [.int i, x]), ?_, rfl, ⟨x, _, fun ys hy => by rw [I.list_inj hy hq]; exact hx, rfl, I.hok.fresh (Nat.le_refl _), rfl⟩, ⟨⟨_, ee⟩, hi'.extBut sb.extBut (Ne.symm hne)⟩, fun b hb => ?_⟩
    · exact I.yields (ch := [e, it]) hf (fun b o hb q => sb.extBut b o (fun z => hb (by simp [z])) (kp b o (fun z => hb (by simp [z])) (fun z => hb (by simp [z])) q)) (Nat.le_refl _) (us := [.int i s.toks, u]) (.cons ⟨_, rfl⟩ (.cons ru .nil)) (by show 2 ≤ sizeLine; decide) ⟨_, ht2, rfl, _, rfl⟩
    · have hb' : s.heap.objs.size ≠ b := by
        simp only [List.mem_cons, List.not_mem_nil, or_false] at hb
        rcases hb with rfl | rfl
        · exact nfp
        · obtain ⟨o, q, _⟩ := hi
          exact lt q
      rw [upd_ne (Ne.symm hb')]
      exact (hf b hb).1
  done := by
    intro X hP hw hK hc i pins s σ H E I hf st hg
    subst hP hw hK
    obtain ⟨xs, hq, hx⟩ := hg
    obtain ⟨⟨old, he⟩, hi⟩ := st
    obtain ⟨its, rv, p, hz⟩ := I.list hq
    have hl := rv.length
    obtain ⟨f0, f1, f2, f3, f4, f5⟩ := hf it (by simp)
    exact wpAny_pyNext_enum_end (I.ok.hd hc) he hi p.isList (by simp; omega) fun h' eb => ⟨rfl, I.turned (t' := s.toks) (fun b o hb q => eb b o hb q) f0 f1 f3 f4 f5⟩
  self := fun _ _ _ _ _ st h => by
    obtain ⟨⟨old, he⟩, hi⟩ := st
    exact wpAny_pyIter_enum he h
section
variable {X : Cx} {elts : List Expr} {k : Nat} {tp : Pos}
def iEnum (K : PySem.W.Frag) (ta : TA) : TI := fun σ H R => ta σ H fun vs H1 => ∃ a, vs = [.ref a] ∧ (∃ xs, SqL K H1 a xs) ∧ R (Ite K a) H1
theorem pi_enum {a : Expr} {ta : TA} {p pos : Pos} (hg : Gl X "enumerate") (hm : X.mg "enumerate" = none) (ha : PA X [a] ta) (hs : starEach [a] X.env = [(false, eval a X.env)] := by rfl) : PI X (.Tuple elts k tp) (.Call (.Name "enumerate" p) [a] [] pos) (iEnum X.K ta) := by
  intro pins s σ H R I h
  refine Call_ (ld_blt I hg hm bt_enumerate (PyProof.Rows.callWith_type1 (thn (ha pos pins s σ H _ I h) fun us s1 ⟨vs, H1, I1, r1, q1⟩ => ?_) hs rfl))
  obtain ⟨l, rfl, ⟨xs, hq⟩, q⟩ := q1
  obtain ⟨u, rfl, ru⟩ := r1.one
  cases ru
  obtain ⟨its, rv, pl, _⟩ := I1.list hq
  refine call_enumerate_list pl.isList fun h' ee li hsz kp => ?_
  refine wpAny_pyIter_enum (s := { s1 with heap := h' }) ee ?_
  refine ⟨_, [s1.heap.objs.size + 1, s1.heap.objs.size], _, _, H1, rfl, I1.kept (t' := s1.toks) kp, turn_enum l _ _ (Nat.succ_ne_self _), ⟨⟨_, ee⟩, li⟩, fun b hb => ?_, q⟩
  simp only [List.mem_cons, List.not_mem_nil, or_false] at hb
  rcases hb with rfl | rfl
  · exact I1.fpOk (Nat.le_succ _) (I1.hok.fresh (Nat.le_succ _))
  · exact I1.fpOk (Nat.le_refl _) (I1.hok.fresh (Nat.le_refl _))
end
end L2

end

section
set_option maxHeartbeats 1000000
/-! ONE RULE FOR EACH OPERATION: ==, !=, +, []; texts with fields; global numbers. -/
namespace L2
open PySem PySem.Spec PyProof.Rows
section
variable {X : Cx}
/-- what is equal to itself -/
def plainV : V → Bool
  | .flt _ => false
  | .byt _ => false
  | _ => true
theorem eq_same {A : Around} {s : Shared} {v : V} {u u' : Value} (r : RelV v u) (r' : RelV v u') (h : plainV v = true) : SeqAt.EqAt A s u u' true := by
  cases v with
  | non => cases r; cases r'; exact .same _
  | bl _ => cases r; cases r'; exact .same _
  | int i =>
    obtain ⟨t, rfl⟩ := r
    obtain ⟨t', rfl⟩ := r'
    have := SeqAt.EqAt.int_int (A := A) (s := s) i t i t'
    rwa [beq_self_eq_true] at this
  | str x =>
    obtain ⟨t, rfl⟩ := r
    obtain ⟨t', rfl⟩ := r'
    have := SeqAt.EqAt.str_str (A := A) (s := s) x t x t'
    rwa [beq_self_eq_true] at this
  | byt _ => cases h
  | flt _ => cases h
  | ref _ => cases r; cases r'; exact .same _
  | ty _ => cases r; cases r'; exact .same _
/-- two lists (or tuples) of the very same things -/
def TwoSame (K : PySem.W.Frag) (x y : V) (H : Hp) : Prop := ∃ a b xs, x = .ref a ∧ y = .ref b ∧ ((SqL K H a xs ∧ SqL K H b xs) ∨ (SqT K H a xs ∧ SqT K H b xs)) ∧ xs.all plainV = true
theorem vals_same {A : Around} {s : Shared} {xs : List V} {us us' : List Value} (r : Vals xs us) (r' : Vals xs us') (h : xs.all plainV = true) : ∀ j (h1 : j < us.toArray.size) (h2 : j < us'.toArray.size), SeqAt.EqAt A s us.toArray[j] us'.toArray[j] true := fun j h1 h2 => by
  have l1 := r.length
  have l2 := r'.length
  have hj : j < xs.length := by simp at h1; omega
  have hx : xs[j]? = some xs[j] := by simp [hj]
  obtain ⟨u, e1, q1⟩ := r.get hx
  obtain ⟨u', e2, q2⟩ := r'.get hx
  have p : plainV xs[j] = true := List.all_eq_true.mp h _ (List.getElem_mem hj)
  obtain ⟨_, e1'⟩ := List.getElem?_eq_some_iff.mp e1
  obtain ⟨_, e2'⟩ := List.getElem?_eq_some_iff.mp e2
  have := eq_same (A := A) (s := s) q1 q2 p
  rw [← e1', ← e2'] at this
  simpa using this
theorem all_true {n : Nat} : (List.range n).all (fun _ => true) = true := by simp
theorem op_eqS (hu : X.A.units + 64 < cLine) : OpR X (compareOp .Eq) (fun x y H Q => TwoSame X.K x y H ∧ Q (.bl true) H) := by
  intro pins s σ H x y v u Q I rx ry h
  obtain ⟨⟨a, b, xs, rfl, rfl, h, pl⟩, q⟩ := h
  cases rx
  cases ry
  rcases h with ⟨h1, h2⟩ | ⟨h1, h2⟩
  · obtain ⟨its, r1, p1, _⟩ := I.list h1
    obtain ⟨its2, r2, p2, _⟩ := I.list h2
    have e := r1.length.symm.trans r2.length
    refine SeqAt.eq_listAt p1.isList p2.isList (by simp; omega) (by omega) (vals_same r1 r2 pl) ?_
    rw [all_true]
    exact ⟨.bl true, H, I, rfl, q⟩
  · obtain ⟨its, r1, p1, _⟩ := I.tuple h1
    obtain ⟨its2, r2, p2, _⟩ := I.tuple h2
    have e := r1.length.symm.trans r2.length
    refine SeqAt.eq_tupleAt (show s.heap.IsTuple a its.toArray from p1) (show s.heap.IsTuple b its2.toArray from p2) (by omega) (vals_same r1 r2 pl) ?_
    rw [all_true]
    have e2 : (its.toArray.size == its2.toArray.size) = true := by simp [e]
    rw [e2]
    exact ⟨.bl true, H, I, rfl, q⟩
theorem op_neS (hu : X.A.units + 64 < cLine) : OpR X (compareOp .NotEq) (fun x y H Q => TwoSame X.K x y H ∧ Q (.bl false) H) := by
  intro pins s σ H x y v u Q I rx ry h
  obtain ⟨⟨a, b, xs, rfl, rfl, h, pl⟩, q⟩ := h
  cases rx
  cases ry
  rcases h with ⟨h1, h2⟩ | ⟨h1, h2⟩
  · obtain ⟨its, r1, p1, _⟩ := I.list h1
    obtain ⟨its2, r2, p2, _⟩ := I.list h2
    have e := r1.length.symm.trans r2.length
    have k := SeqAt.RcNeAt.lists (A := X.A) p1.isList p2.isList (by simp; omega) (by omega) (vals_same r1 r2 pl)
    rw [all_true] at k
    exact k X.prog X.w X.xe _ ⟨.bl false, H, I, rfl, q⟩
  · obtain ⟨its, r1, p1, _⟩ := I.tuple h1
    obtain ⟨its2, r2, p2, _⟩ := I.tuple h2
    have e := r1.length.symm.trans r2.length
    have k := SeqAt.RcNeAt.tuples (A := X.A) (show s.heap.IsTuple a its.toArray from p1) (show s.heap.IsTuple b its2.toArray from p2) (by omega) (vals_same r1 r2 pl)
    have e2 : (its.toArray.size == its2.toArray.size) = true := by simp [e]
    rw [all_true, e2] at k
    exact k X.prog X.w X.xe _ ⟨.bl false, H, I, rfl, q⟩
/-- == and != of anything -/
def rEqA (K : PySem.W.Frag) : R2 := fun x y H Q => rEq x y H Q ∨ rEqD K x y H Q ∨ (TwoSame K x y H ∧ Q (.bl true) H)
def rNeA (K : PySem.W.Frag) : R2 := fun x y H Q => rNe x y H Q ∨ rNeD K x y H Q ∨ (TwoSame K x y H ∧ Q (.bl false) H)
theorem op_eqA (hu : X.A.units + 64 < cLine) : OpR X (compareOp .Eq) (rEqA X.K) := op_eq.or ((op_eqD hu).or (op_eqS hu))
theorem op_neA (hu : X.A.units + 64 < cLine) : OpR X (compareOp .NotEq) (rNeA X.K) := op_ne.or ((op_neD hu).or (op_neS hu))
/-- + of ints, lists, tuples, texts -/
def rAddA (K : PySem.W.Frag) : R2 := fun x y H Q => rI0 (fun i j => .int (i + j)) x y H Q ∨ rCatS K x y H Q ∨ rCatT K x y H Q ∨ ∃ i j, x = .str i ∧ y = .str j ∧ i.length + j.length ≤ sizeLine ∧ Q (.str (i ++ j)) H
theorem op_addA : OpR X (binaryOp .Add) (rAddA X.K) := op_add.or (op_catS.or (op_catT.or op_add_str))
variable {σ : St} {H : Hp} {Q : VK} {K : PySem.W.Frag}
theorem s_eqAI {i j : Int} (q : Q (.bl (decide (i = j))) H) : rEqA K (.int i) (.int j) H Q := .inl (s_eqI q)
theorem s_neAI {i j : Int} (q : Q (.bl (!decide (i = j))) H) : rNeA K (.int i) (.int j) H Q := .inl (s_neI q)
theorem s_addI {i j : Int} (q : Q (.int (i + j)) H) : rAddA K (.int i) (.int j) H Q := .inl ⟨i, j, rfl, rfl, q⟩
theorem s_catL {a b : Addr} {xs ys : List V} (h1 : SqL K H a xs) (h2 : SqL K H b ys) (hl : xs.length + ys.length ≤ sizeLine) (q : ∀ p H', H p = none → Same H H' → H' p = some (.lst (xs ++ ys)) → Q (.ref p) H') : rAddA K (.ref a) (.ref b) H Q :=
  .inr (.inl ⟨a, b, xs, ys, rfl, rfl, h1, h2, hl, fun p hp => q p _ hp (Same.new hp) upd_same⟩)
theorem s_ixSL {p : Addr} {xs : List V} {i : Int} {v : V} (h : SqL K H p xs) (e : atI xs i = some v) (q : Q v H) : rIx K (.ref p) (.int i) H Q := .inl (s_ixL h e q)
theorem s_ixST {p : Addr} {xs : List V} {i : Int} {v : V} (h : SqT K H p xs) (e : atI xs i = some v) (q : Q v H) : rIx K (.ref p) (.int i) H Q := .inr (.inl (s_ixT h e q))
def rLen (K : PySem.W.Frag) : List V → Hp → VK → Prop := fun xs H Q => ∃ x n, xs = [x] ∧ LenV K x H n ∧ Q (.int n) H
def rAbs : List V → Hp → VK → Prop := fun xs H Q => ∃ i, xs = [.int i] ∧ Q (.int (if i < 0 then -i else i)) H
def rListOf (K : PySem.W.Frag) : List V → Hp → VK → Prop := fun xs H Q => ∃ p ys, xs = [.ref p] ∧ (SqL K H p ys ∨ SqT K H p ys) ∧ ∀ l, H l = none → Q (.ref l) (upd H l (.lst ys))
def rIsN : R2 := fun x y H Q => y = .non ∧ Q (.bl (decide (x = .non))) H
theorem s_lenL {p : Addr} {xs : List V} (h : SqL K H p xs) (q : Q (.int xs.length) H) : rLen K [.ref p] H Q := ⟨_, _, rfl, .inl ⟨xs, h, rfl⟩, q⟩
theorem s_abs1 {i : Int} (q : Q (.int (if i < 0 then -i else i)) H) : rAbs [.int i] H Q := ⟨i, rfl, q⟩
theorem s_isN {x : V} (q : Q (.bl (decide (x = .non))) H) : rIsN x .non H Q := ⟨rfl, q⟩
/-- list(xs): a new list -/
theorem s_listL {p : Addr} {xs : List V} (h : SqL K H p xs) (q : ∀ l H', H l = none → Same H H' → H' l = some (.lst xs) → Q (.ref l) H') : rListOf K [.ref p] H Q := ⟨p, xs, rfl, .inl h, fun l hl => q l _ hl (Same.new hl) upd_same⟩
/-! ### f".." -/
end
end L2

end

section
set_option maxHeartbeats 1000000
/-! LOOPS AND BLOCKS by what holds between two turns. -/
namespace L2
open PySem PySem.Spec PyProof.Rows
theorem Same.updN {H H1 : Hp} {l : Addr} {o : HO} (s : Same H H1) (n : H l = none) : Same H (upd H1 l o) := fun b u e => by
  rw [upd_ne (ne_of_none e n)]
  exact s b u e
/-- the loop's own part -/
def ForW (J : It) (g : TG) (tb : TS) (D : Ends) (σ : St) (H : Hp) : Prop := ∃ W : Nat → Nat → St → Hp → Prop, (∃ m, W 0 m σ H) ∧ ∀ i m σ H, W i m σ H →
  (J.stop i H ∧ D.nx σ H) ∨ (J.go i H ∧ ∃ N : St → Hp → Prop, (∀ σ' H', N σ' H' → ∃ m', m' < m ∧ W (i + 1) m' σ' H') ∧ ∀ x H', J.yld i H x H' → g x σ H' fun σ2 H2 => tb { D with nx := N, ct := N, bk := D.nx } σ2 H2)
/-- a block's own part -/
def CompW (J : It) (acc : Addr) (g : TG) (tc : TT) (te : TE) (σ : St) (H : Hp) (Q : VK) : Prop := ∃ W : Nat → Nat → St → Hp → Prop, (∃ m, W 0 m σ (upd H acc (.lst []))) ∧
  ∀ i m σ' H', W i m σ' H' → (J.stop i H' ∧ Q (.ref acc) H') ∨ (J.go i H' ∧ ∃ N : St → Hp → Prop, (∀ σ2 H2, N σ2 H2 → ∃ m', m' < m ∧ W (i + 1) m' σ2 H2) ∧
    ∀ x H2, J.yld i H' x H2 → g x σ' H2 fun σ3 H3 => tc σ3 H3 fun ok H4 => if ok = true then te σ3 H4 fun v H5 => ∃ ys, H5 acc = some (.lst ys) ∧ ys.length < sizeLine ∧ N σ3 (upd H5 acc (.lst (ys ++ [v]))) else N σ3 H4)
def jList (K : PySem.W.Frag) (x : V) (H : Hp) (R : It → Hp → Prop) : Prop := ∃ a, x = .ref a ∧ (∃ xs, SqL K H a xs) ∧ R (Itl K a) H
def jR1 (vs : List V) (H : Hp) (R : It → Hp → Prop) : Prop := ∃ j : Int, vs = [.int j] ∧ -(2 ^ 62) ≤ j ∧ j < 2 ^ 62 ∧ R (Itr 0 j.toNat) H
def jR2 (vs : List V) (H : Hp) (R : It → Hp → Prop) : Prop := ∃ i j : Int, vs = [.int i, .int j] ∧ (-(2 ^ 62) ≤ i ∧ i < 2 ^ 62 ∧ -(2 ^ 62) ≤ j ∧ j < 2 ^ 62) ∧ R (Itr i (j - i).toNat) H
def jEnum (K : PySem.W.Frag) (vs : List V) (H : Hp) (R : It → Hp → Prop) : Prop := ∃ a, vs = [.ref a] ∧ (∃ xs, SqL K H a xs) ∧ R (Ite K a) H
section
variable {K : PySem.W.Frag} {σ : St} {H : Hp} {R : It → Hp → Prop} {tl te : TE} {ta : TA} {a b : Addr} {xs ys : List V} {wi : TI} {g : TG} {tb : TS} {D : Ends} {tc : TT} {n : Nat} {ix : List Nat} {Q : VK}
theorem s_for (h : wi σ H fun J H1 => ForW J g tb D σ H1) : tFor wi g tb D σ H := h
theorem s_comp {σ' : St} (e : capV n ix σ = σ') (h : wi σ H fun J H1 => ∀ acc, H1 acc = none → CompW J acc g tc te σ' H1 Q) : tComp n ix wi g tc te σ H Q := by
  subst e
  exact h
theorem s_iList (h : tl σ H fun x H1 => jList K x H1 R) : iList K tl σ H R := h
theorem s_iR1 (h : ta σ H fun vs H1 => jR1 vs H1 R) : iRng1 ta σ H R := h
theorem s_iR2 (h : ta σ H fun vs H1 => jR2 vs H1 R) : iRng2 ta σ H R := h
theorem s_iEnum (h : ta σ H fun vs H1 => jEnum K vs H1 R) : iEnum K ta σ H R := h
theorem s_jList (h : SqL K H a xs) (q : R (Itl K a) H) : jList K (.ref a) H R := ⟨a, rfl, ⟨xs, h⟩, q⟩
theorem s_jR1 {j : Int} (h : -(2 ^ 62) ≤ j ∧ j < 2 ^ 62) (q : R (Itr 0 j.toNat) H) : jR1 [.int j] H R := ⟨j, rfl, h.1, h.2, q⟩
theorem s_jR2 {i j : Int} (h1 : -(2 ^ 62) ≤ i ∧ i < 2 ^ 62) (h2 : -(2 ^ 62) ≤ j ∧ j < 2 ^ 62) (q : R (Itr i (j - i).toNat) H) : jR2 [.int i, .int j] H R := ⟨i, j, rfl, ⟨h1.1, h1.2, h2.1, h2.2⟩, q⟩
theorem s_jEnum (h : SqL K H a xs) (q : R (Ite K a) H) : jEnum K [.ref a] H R := ⟨a, rfl, ⟨xs, h⟩, q⟩
/-- slices -/
theorem s_sl {r : V → Option Int → Option Int → Hp → VK → Prop} {lo hi : TO} (h : te σ H fun x H1 => lo σ H1 fun l H2 => hi σ H2 fun u H3 => r x l u H3 Q) : tSl r te lo hi σ H Q := h
theorem s_noPart {P : Option Int → Hp → Prop} (h : P none H) : tNoPart σ H P := h
theorem s_part {P : Option Int → Hp → Prop} (h : te σ H fun x H1 => ∃ i, x = .int i ∧ P (some i) H1) : tPart te σ H P := h
theorem s_exI {P : Int → Prop} {i : Int} (h : P i) : ∃ j, V.int i = .int j ∧ P j := ⟨i, rfl, h⟩
theorem s_slL {lo hi : Option Int} (h : SqL K H a xs) (q : ∀ p H', H p = none → Same H H' → H' p = some (.lst (cutV xs lo hi)) → Q (.ref p) H') : rSlL K (.ref a) lo hi H Q := ⟨a, xs, rfl, h, fun p hp => q p _ hp (Same.new hp) upd_same⟩
theorem cut_to {k : Nat} : cutV xs none (some (k : Int)) = xs.take k := by
  unfold cutV
  rw [HT.sIx_none, HT.sIx_nat, List.drop_zero, Nat.sub_zero, Nat.min_comm]
  rw [← List.take_take]
  exact List.take_of_length_le (by rw [List.length_take]; omega)
theorem cut_from {k : Nat} : cutV xs (some (k : Int)) none = xs.drop k := by
  unfold cutV
  rw [HT.sIx_none, HT.sIx_nat]
  by_cases h : k ≤ xs.length
  · rw [Nat.min_eq_left h]
    exact List.take_of_length_le (by rw [List.length_drop]; omega)
  · rw [Nat.min_eq_right (by omega), List.drop_length, List.take_nil]
    exact (List.drop_eq_nil_of_le (by omega)).symm
/-- unpacking -/
theorem s_gt2 {t : Addr} {v w : V} {i j : Nat} {σ' : St} {P : St → Hp → Prop} (h : SqT K H t [v, w]) (e : (σ.set i (some v)).set j (some w) = σ') (q : P σ' H) : gTup K 2 (gCons (gName i) (gCons (gName j) gNil)) (.ref t) σ H P := by
  subst e
  exact ⟨t, [v, w], rfl, h, rfl, v, [w], rfl, w, [], rfl, rfl, q⟩
theorem s_asgG (h : te σ H fun x H1 => g x σ H1 D.nx) : tAsg te g D σ H := h
/-- xs[k] = v -/
theorem s_gsub {to ti : TE} {v : V} {P : St → Hp → Prop} (h : to σ H fun o H1 => ti σ H1 fun i H2 => rSetL o i v H2 fun H3 => P σ H3) : gSub to ti rSetL v σ H P := h
theorem s_setL {p : Addr} {k : Nat} {v : V} {P : Hp → Prop} (h : H p = some (.lst xs)) (hk : k < xs.length) (q : P (upd H p (.lst (xs.set k v)))) : rSetL (.ref p) (.int (k : Int)) v H P := by
  refine ⟨p, xs, _, k, rfl, rfl, h, ?_, q⟩
  unfold ixN
  rw [if_pos (by omega), if_pos (by omega)]
  rfl
end
section
variable {K : PySem.W.Frag} {a b acc : Addr} {xs ys : List V} {g : TG} {tb : TS} {tc : TT} {te : TE} {D : Ends} {σ : St} {H : Hp} {Q : VK} {lo : Int} {n : Nat}
/-- what a turn of a block comes to -/
abbrev blk (acc : Addr) (tc : TT) (te : TE) (N : St → Hp → Prop) : St → Hp → Prop := fun σ3 H3 => tc σ3 H3 fun ok H4 => if ok = true then te σ3 H4 fun v H5 => ∃ ys, H5 acc = some (.lst ys) ∧ ys.length < sizeLine ∧ N σ3 (upd H5 acc (.lst (ys ++ [v]))) else N σ3 H4
theorem comp_list (Pv : Nat → St → Hp → Prop) (h0 : Pv 0 σ (upd H acc (.lst []))) (hl : ∀ i σ H, i ≤ xs.length → Pv i σ H → SqL K H a xs) (hs : ∀ i x σ H, xs[i]? = some x → Pv i σ H → g x σ H (blk acc tc te (Pv (i + 1)))) (hd : ∀ σ H, Pv xs.length σ H → Q (.ref acc) H) :
    ∃ W : Nat → Nat → St → Hp → Prop, (∃ m, W 0 m σ (upd H acc (.lst []))) ∧ ∀ i m σ' H', W i m σ' H' → ((Itl K a).stop i H' ∧ Q (.ref acc) H') ∨ ((Itl K a).go i H' ∧ ∃ N : St → Hp → Prop, (∀ σ2 H2, N σ2 H2 → ∃ m', m' < m ∧ W (i + 1) m' σ2 H2) ∧
      ∀ x H2, (Itl K a).yld i H' x H2 → g x σ' H2 (blk acc tc te N)) := by
  refine ⟨fun i m σ H => m = xs.length - i ∧ i ≤ xs.length ∧ Pv i σ H, ⟨_, rfl, Nat.zero_le _, h0⟩, ?_⟩
  rintro i m σ' H' ⟨rfl, hi, p⟩
  have q := hl i σ' H' hi p
  by_cases hlt : i < xs.length
  · refine .inr ⟨⟨xs, xs[i], q, by simp [hlt]⟩, Pv (i + 1), fun σ2 H2 p' => ⟨xs.length - (i + 1), by omega, rfl, hlt, p'⟩, fun x H2 y => ?_⟩
    obtain ⟨e, y⟩ := y
    subst e
    exact hs i x σ' _ (y xs q) p
  · have e : i = xs.length := by omega
    subst e
    exact .inl ⟨⟨xs, q, Nat.le_refl _⟩, hd σ' H' p⟩
/-- for i, x in enumerate(xs) -/
theorem for_enum (Pv : Nat → St → Hp → Prop) (h0 : Pv 0 σ H) (hl : ∀ i σ H, i ≤ xs.length → Pv i σ H → SqL K H a xs)
    (hs : ∀ i x t σ H H', xs[i]? = some x → Pv i σ H → Same H H' → H' t = some (.tup [.int i, x]) → g (.ref t) σ H' fun σ2 H2 => tb { D with nx := Pv (i + 1), ct := Pv (i + 1), bk := D.nx } σ2 H2) (hd : ∀ σ H, Pv xs.length σ H → D.nx σ H) :
    ∃ W : Nat → Nat → St → Hp → Prop, (∃ m, W 0 m σ H) ∧ ∀ i m σ H, W i m σ H →
      ((Ite K a).stop i H ∧ D.nx σ H) ∨ ((Ite K a).go i H ∧ ∃ N : St → Hp → Prop, (∀ σ' H', N σ' H' → ∃ m', m' < m ∧ W (i + 1) m' σ' H') ∧ ∀ x H', (Ite K a).yld i H x H' → g x σ H' fun σ2 H2 => tb { D with nx := N, ct := N, bk := D.nx } σ2 H2) := by
  refine ⟨fun i m σ H => m = xs.length - i ∧ i ≤ xs.length ∧ Pv i σ H, ⟨_, rfl, Nat.zero_le _, h0⟩, ?_⟩
  rintro i m σ' H' ⟨rfl, hi, p⟩
  have q := hl i σ' H' hi p
  by_cases hlt : i < xs.length
  · refine .inr ⟨⟨xs, xs[i], q, by simp [hlt]⟩, Pv (i + 1), fun σ2 H2 p' => ⟨xs.length - (i + 1), by omega, rfl, hlt, p'⟩, fun v H2 y => ?_⟩
    obtain ⟨x, t, hx, rfl, ht, rfl⟩ := y
    exact hs i x t σ' H' _ (hx xs q) p (Same.new ht) upd_same
  · have e : i = xs.length := by omega
    subst e
    exact .inl ⟨⟨xs, q, Nat.le_refl _⟩, hd σ' H' p⟩
end
end L2

end

section
set_option maxHeartbeats 1000000
/-! MORE BUILTINS: sum, any, all, sorted. -/
namespace L2
open PySem PySem.Spec PyProof.Rows
section
variable {X : Cx}
end
end L2

end

/-! LEAST SUMS OF TIMES: rounds over all roads; what holds behind them. -/
namespace Bf
section
variable {n st : Nat} {rs : List Ed}
end
end Bf

section
set_option maxHeartbeats 1000000
/-! MORE STEPS: blocks over enumerate and zip, +=, isinstance of a tuple wherever it lies; lists of things item by item; deep data. -/
namespace L2
open PySem PySem.Spec PyProof.Rows
/-! ### item by item -/
inductive All2 {α β : Type} (R : α → β → Prop) : List α → List β → Prop where
  | nil : All2 R [] []
  | cons {a : α} {b : β} {as : List α} {bs : List β} : R a b → All2 R as bs → All2 R (a :: as) (b :: bs)
namespace All2
variable {α β : Type} {R S : α → β → Prop} {as as' : List α} {bs bs' : List β}
theorem len (h : All2 R as bs) : as.length = bs.length := by
  induction h with
  | nil => rfl
  | cons _ _ ih => simp [ih]
theorem imp (f : ∀ a b, R a b → S a b) (h : All2 R as bs) : All2 S as bs := by
  induction h with
  | nil => exact .nil
  | cons r _ ih => exact .cons (f _ _ r) ih
theorem get (h : All2 R as bs) : ∀ {i : Nat} {a : α}, as[i]? = some a → ∃ b, bs[i]? = some b ∧ R a b := by
  induction h with
  | nil => intro i a e; simp at e
  | cons r _ ih =>
    intro i a e
    cases i with
    | zero => simp at e; subst e; exact ⟨_, rfl, r⟩
    | succ i => exact ih (by simpa using e)
theorem getR (h : All2 R as bs) : ∀ {i : Nat} {b : β}, bs[i]? = some b → ∃ a, as[i]? = some a ∧ R a b := by
  induction h with
  | nil => intro i a e; simp at e
  | cons r _ ih =>
    intro i a e
    cases i with
    | zero => simp at e; subst e; exact ⟨_, rfl, r⟩
    | succ i => exact ih (by simpa using e)
theorem append (h : All2 R as bs) (h' : All2 R as' bs') : All2 R (as ++ as') (bs ++ bs') := by
  induction h with
  | nil => exact h'
  | cons r _ ih => exact .cons r ih
theorem one {a : α} {b : β} (r : R a b) : All2 R [a] [b] := .cons r .nil
theorem push {a : α} {b : β} (h : All2 R as bs) (r : R a b) : All2 R (as ++ [a]) (bs ++ [b]) := h.append (one r)
end All2
/-! ### deep data -/
mutual
theorem eqv_self : ∀ (d : PyData), d.canLay0 = true → PyData.eqv d d = true
  | .none, _ => rfl
  | .bool b, _ => by show (b == b) = true; simp
  | .int b, _ => by show (b == b) = true; simp
  | .str b, _ => by show (b == b) = true; exact beq_self_eq_true b
  | .list ds, h => eqvAll_self ds h
  | .tuple ds, h => eqvAll_self ds h
  | .dict _, h => by cases h
theorem eqvAll_self : ∀ (ds : List PyData), PyData.canLayAll0 ds = true → PyData.eqvAll ds ds = true
  | [], _ => rfl
  | d :: ds, h => by
    have h' : (d.canLay0 && PyData.canLayAll0 ds) = true := h
    rw [Bool.and_eq_true] at h'
    show (PyData.eqv d d && PyData.eqvAll ds ds) = true
    rw [eqv_self d h'.1, eqvAll_self ds h'.2]
    rfl
end
/-! ### isinstance of a tuple wherever it lies -/
section
variable {X : Cx}
end
/-! ### steps -/
section
variable {K : PySem.W.Frag} {a b acc : Addr} {xs ys : List V} {g : TG} {tb : TS} {tc : TT} {te to ti : TE} {D : Ends} {σ : St} {H : Hp} {Q : VK}
theorem s_bm {T : String} {r : V → List V → Hp → VK → Prop} {t : TA} (h : to σ H fun x H1 => tyV K T x H1 ∧ t σ H1 fun xs H2 => r x xs H2 Q) : tBM K T r to t σ H Q := h
/-- the list as a receiver -/
theorem s_tyL {l : Addr} {P : Prop} (h : SqL K H l xs) (q : P) : tyV K "list" (.ref l) H ∧ P := ⟨.inl ⟨rfl, _, h⟩, q⟩
/-- a block's condition and its item -/
theorem blkC {N : St → Hp → Prop} (h : tc σ H fun ok H4 => if ok = true then te σ H4 fun v H5 => ∃ ys, H5 acc = some (.lst ys) ∧ ys.length < sizeLine ∧ N σ (upd H5 acc (.lst (ys ++ [v]))) else N σ H4) : blk acc tc te N σ H := h
theorem blkN {N : St → Hp → Prop} (h : te σ H fun v H5 => ∃ ys, H5 acc = some (.lst ys) ∧ ys.length < sizeLine ∧ N σ (upd H5 acc (.lst (ys ++ [v])))) : blk acc tNoIf te N σ H := show (if true = true then _ else N σ H) from iteT h
theorem compL (Pv : Nat → St → Hp → Prop) (h0 : Pv 0 σ (upd H acc (.lst []))) (hl : ∀ i σ H, i ≤ xs.length → Pv i σ H → SqL K H a xs) (hs : ∀ i x σ H, xs[i]? = some x → Pv i σ H → g x σ H (blk acc tc te (Pv (i + 1)))) (hd : ∀ σ H, Pv xs.length σ H → Q (.ref acc) H) : CompW (Itl K a) acc g tc te σ H Q := comp_list Pv h0 hl hs hd
theorem compE (Pv : Nat → St → Hp → Prop) (h0 : Pv 0 σ (upd H acc (.lst []))) (hl : ∀ i σ H, i ≤ xs.length → Pv i σ H → SqL K H a xs)
    (hs : ∀ i x t σ H H', xs[i]? = some x → Pv i σ H → Same H H' → H' t = some (.tup [.int i, x]) → g (.ref t) σ H' (blk acc tc te (Pv (i + 1)))) (hd : ∀ σ H, Pv xs.length σ H → Q (.ref acc) H) : CompW (Ite K a) acc g tc te σ H Q := by
  refine ⟨fun i m σ H => m = xs.length - i ∧ i ≤ xs.length ∧ Pv i σ H, ⟨_, rfl, Nat.zero_le _, h0⟩, ?_⟩
  rintro i m σ' H' ⟨rfl, hi, p⟩
  have q := hl i σ' H' hi p
  by_cases hlt : i < xs.length
  · refine .inr ⟨⟨xs, xs[i], q, by simp [hlt]⟩, Pv (i + 1), fun σ2 H2 p' => ⟨xs.length - (i + 1), by omega, rfl, hlt, p'⟩, fun v H2 y => ?_⟩
    obtain ⟨x, t, hx, rfl, ht, rfl⟩ := y
    exact hs i x t σ' H' _ (hx xs q) p (Same.new ht) upd_same
  · have e : i = xs.length := by omega
    subst e
    exact .inl ⟨⟨xs, q, Nat.le_refl _⟩, hd σ' H' p⟩
end
end L2

end

section
set_option maxHeartbeats 1000000
/-! SORTED, of lists of lists of whole numbers: the order of two such lists; the short sort by any order at one state. -/
namespace L2
open PySem PySem.Spec PyProof.Rows PySem.W

/-! ### the tree of the short sort, by any order at one state -/
section
variable {lt : Nat → Nat → Bool} {n : Nat}
end
end L2

end

section
set_option maxHeartbeats 1000000
namespace L2
open PySem PySem.Spec PyProof.Rows PySem.W

section
variable {X : Cx}
end
end L2

end

section
set_option maxHeartbeats 1000000
/-! SORTED, of lists of whole numbers none of which stands twice: what comes out is in order. -/
namespace L2
open PySem PySem.Spec PyProof.Rows PySem.W
section
variable {lt : Nat → Nat → Bool} {n : Nat} {p : Array Nat}
end
end L2

end

section
set_option maxHeartbeats 1000000
namespace L2
open PySem PySem.Spec PyProof.Rows PySem.W

section
variable {X : Cx}
end
end L2

end

section
set_option maxHeartbeats 1000000
/-! xs[::-1]: a list of its own items; steps for repeated lists. -/
namespace L2
open PySem PySem.Spec PyProof.Rows
section
variable {X : Cx}
end
section
variable {K : PySem.W.Frag} {σ : St} {H : Hp} {Q : VK} {te : TE} {ts : TO} {a : Addr} {xs : List V}
/-- xs * k -/
theorem s_rep {k : Nat} {x : V} (h : H a = some (.lst [x])) (hk : k ≤ 1000) (q : ∀ p H', H p = none → Same H H' → H' p = some (.lst (List.replicate k x)) → Q (.ref p) H') : rRep (.ref a) (.int (k : Int)) H Q := by
  have e : (List.replicate ((k : Int)).toNat [x]).flatten = List.replicate k x := by
    rw [show ((k : Int)).toNat = k by omega]
    clear q h hk
    induction k with
    | zero => rfl
    | succ k ih =>
      rw [List.replicate_succ, List.flatten_cons, ih, List.replicate_succ]
      rfl
  refine ⟨a, _, [x], rfl, rfl, h, by omega, by omega, ?_, fun p hp => ?_⟩
  · have : sizeLine = 16777216 := sizeLine_eq
    simp
    omega
  · rw [e]
    exact q p _ hp (Same.new hp) upd_same
end
end L2

end

section
set_option maxHeartbeats 1000000
/-! Defs that call themselves; xs[a:b:7]. -/
namespace L2
open PySem PySem.Spec PyProof.Rows
section
variable {X : Cx}
end
section
variable {K : PySem.W.Frag} {σ : St} {H : Hp} {Q : VK} {te : TE} {tl th ts : TO} {a : Addr} {xs : List V}
end
end L2

end

section
set_option maxHeartbeats 1000000
/-! a, b = a list; xs[a:b:13]; isinstance(x, (tuple, list)). -/
namespace L2
open PySem PySem.Spec PyProof.Rows

section
variable {X : Cx}
end
section
variable {K : PySem.W.Frag} {σ : St} {H : Hp} {Q : VK} {te : TE} {tl th ts : TO} {a : Addr} {xs : List V}
end
end L2

end

section
set_option maxHeartbeats 1000000
/-! C() of a class without an __init__; o.m(..) of one class of some; xs.index(y). -/
namespace L2
open PySem PySem.Spec PyProof.Rows
/-- what a class without an __init__ of its own must have to be made -/
structure Mk0 (K : PySem.W.Frag) (C : Addr) : Prop where
  makes : PySem.W.makesIn K C = true
  init : PySem.W.findIn K (.ref C) "__init__" = some (some (.builtin "object.__init__"))
  kp : PySem.W.keepIn K (.ref C) = true
/-- what isinstance asks of an instance's class -/
structure ObjC (K : PySem.W.Frag) (C : Addr) : Prop where
  cl : Cls K C
  ha : PySem.W.findIn K (.ref C) "__class__" = some (some (.builtin "object.__class__"))
  hn : PySem.W.specialIn K (.builtin "object.__class__") "__get__" = some (some (.builtin "getset_descriptor.__get__"))
  ht : PySem.W.takesIn K (.builtin "object.__class__") = some true
  hm : PySem.W.mroIn K C (.type "object") = some true
def tNew (C : Addr) : TE := fun σ H Q => ∀ x dx, H x = none → H dx = none → dx ≠ x → Q (.ref x) (upd (upd H dx (.own x)) x (.ins C dx []))
section
variable {X : Cx} {C : Addr}
theorem make_new {prog : Program} {w : World} {A : Around} {K : PySem.W.Frag} {s : Shared} {R : Result → Shared → Prop} (Y : K.In s.heap) (hm : PySem.W.makesIn K C = true) (hi : PySem.W.findIn K (.ref C) "__init__" = some (some (.builtin "object.__init__")))
    (h : R (.ok (.ret (.ref (s.heap.objs.size + 1)))) { s with heap := (s.heap.push PySem.W.emptyDict).push (PySem.W.instObj C s.heap.objs.size) }) : codeAny (model prog w) A (.call (.ref C) ⟨[], []⟩) R s := by
  refine make_map0 Y hm hi (fun self => PySem.W.Looks.of_pure (PySem.W.oi_bind self)) ?_
  obtain ⟨hh, g, d, t, os⟩ := s
  have M := PySem.W.makes_of (M := model prog w) Y hm
  have e2 : ((hh.push PySem.W.emptyDict).push (PySem.W.instObj C hh.objs.size)).get? (hh.objs.size + 1) = some (PySem.W.instObj C hh.objs.size) := by
    have := Heap.get?_push_size (hh.push PySem.W.emptyDict) (o := PySem.W.instObj C hh.objs.size) rfl
    rwa [Heap.size_push] at this
  have t1 : PySem.W.Looks (model prog w) ((hh.push PySem.W.emptyDict).push (PySem.W.instObj C hh.objs.size)) (typeOf (.ref (hh.objs.size + 1))) (.ref C) := PySem.W.Looks.andThen (PySem.W.Looks.ld e2) PySem.W.Looks.now
  have t2 : PySem.W.Looks (model prog w) ((hh.push PySem.W.emptyDict).push (PySem.W.instObj C hh.objs.size)) (isInstance (.ref (hh.objs.size + 1)) (.type "object")) true := PySem.W.Looks.andThen t1 (PySem.W.Looks.keeps M.top fun b o e => Heap.get?_push_of_some (PySem.W.instObj C hh.objs.size) (Heap.get?_push_of_some PySem.W.emptyDict e))
  refine codeAny_call_builtin PySem.W.oi_plain PySem.W.entry_oi (PySem.W.check_slot PySem.W.oi_kind PySem.W.oi_split t2 (PySem.W.oi_args (.ref (hh.objs.size + 1))) ?_)
  rw [PySem.W.oi_run]
  exact wpAny_pure ⟨rfl, h⟩
theorem pe_new {x : Str} {p pos : Pos} (M : Mk0 X.K C) (hg : Gl X x) (hm : X.mg x = some (.ref C)) (hdb : (x == ("__debug__" : Str)) = false := by decide) : PE X (.Call (.Name x p) [] [] pos) (tNew C) := by
  intro pins s σ H Q I h
  refine wpAny_Call_Name_kw (ld_glob I hg hm ?_ hdb)
  refine PySem.W.callWith_K0 I.kIn M.kp ?_
  have hq := h (s.heap.objs.size + 1) s.heap.objs.size (I.hok.fresh (Nat.le_succ _)) (I.hok.fresh (Nat.le_refl _)) (Nat.ne_of_lt (Nat.lt_succ_self _))
  have I2 := Inv.made (C := C) I
  refine wpAny_call (make_new I.kIn M.makes M.init ?_)
  exact ⟨V.ref (s.heap.objs.size + 1), _, I2, rfl, hq⟩
/-- o.m(..) of an instance of one of some classes -/
def tMethV (m : Str) (cs : List (Addr × Sp)) (E : XK) (ta : TE) (t : TA) : TE := fun σ H Q => ta σ H fun x H1 => ∃ a C dx fs sp, x = .ref a ∧ H1 a = some (.ins C dx fs) ∧ fs.lookup m = none ∧ (C, sp) ∈ cs ∧
  t σ H1 fun vs H2 => sp (x :: vs) H2 Q E
/-- what is known of one class's method -/
structure MethOk (P : Program) (w : World) (K : PySem.W.Frag) (mg : Str → Option Value) (base : Heap) (CX : CXT) (k : Nat) (m : Str) (C : Addr) (sp : Sp) : Prop where
  cl : Cls K C
  ex : ∃ f fd ps, Meth K C m f ∧ FnOk P w K mg base CX k f fd ps sp ∧ Binds K fd ps []
theorem pe_methV {CX : CXT} {k : Nat} {E : XK} {m : Str} {pos apos : Pos} {e o : Expr} {es : List Expr} {ta : TE} {t : TA} {cs : List (Addr × Sp)} {pl : Sem Bool} (hcs : ∀ z ∈ cs, MethOk X.prog X.w X.K X.mg X.base CX k m z.1 z.2) (hr : Room k X.A) (hx : Passes CX X E) (he : PE X o ta) (ha : PA X (e :: es) t)
    (hst : starEach (e :: es) X.env = (false, eval e X.env) :: starEach es X.env := by rfl) (hpl : (backTo pos (starEach es X.env)).any (·.1) = false := by rfl)
    (ht : eval (.Call (.Attribute o m apos) (e :: es) [] pos) X.env = (do
      let ov ← eval o X.env
      standAt apos.atName
      let (f, first) ← holding [ov] (getMethod ov m pl)
      callWith pos f first (backTo pos (starEach (e :: es) X.env)) (backToKw pos (keywordEach [] X.env))) := by rfl) :
    PE X (.Call (.Attribute o m apos) (e :: es) [] pos) (tMethV m cs E ta t) := by
  intro pins s σ H Q I h
  refine PySem.W.methodCall_KW (pl := pl) (thn (he pins s σ H _ I h) fun u s1 ⟨x, H1, I1, rx, a, C, dx, fs, sp, ex, ea, l, hc, q⟩ => ?_) ht
  subst ex
  obtain rfl : u = Value.ref a := rx
  obtain ⟨c, f, fd, ps, hm, F, hb⟩ := hcs _ hc
  refine getmeth_ok I1 ea c hm l ?_
  refine PySem.W.callWith_K (first := [.ref a]) (h₀ := X.base) I.ok.mod.kin hm.kp (thn (ha pos pins s1 σ H1 _ I1 q) fun us s2 ⟨vs, H2, I2, r, q2⟩ => ⟨I2.kIn, ?_⟩) hst hpl
  exact run_fn (us := .ref a :: us) (vs := .ref a :: vs) (ds := []) (dvs := []) F hr hb .nil hx I2 (.cons rfl r) (by rw [List.append_nil]; exact q2)
/-- xs.index(y): the first place of what is like y -/
def rIndex (K : PySem.W.Frag) : V → List V → Hp → VK → Prop := fun x vs H Q => ∃ l xs y ds d j, x = .ref l ∧ vs = [y] ∧ SqL K H l xs ∧ Rps K H xs ds ∧ Rp K H y d ∧ (∀ d ∈ ds, SeqAt.shaped d = true) ∧ SeqAt.shaped d = true ∧
  (∃ z, ds[j]? = some z ∧ PyData.eqv z d = true) ∧ (∀ (m : Nat) z, m < j → ds[m]? = some z → PyData.eqv z d = false) ∧ Q (.int j) H
theorem vals_get {xs : List V} {us : List Value} (h : Vals xs us) : ∀ {i : Nat} {u : Value}, us[i]? = some u → ∃ x, xs[i]? = some x ∧ RelV x u := by
  induction h with
  | nil => intro i u e; simp at e
  | cons r _ ih =>
    intro i u e
    cases i with
    | zero => simp at e; subst e; exact ⟨_, rfl, r⟩
    | succ i => exact ih (by simpa using e)
theorem rps_get {K : PySem.W.Frag} {H : Hp} {xs : List V} {ds : List PyData} (h : Rps K H xs ds) : ∀ {i : Nat} {x : V}, xs[i]? = some x → ∃ d, ds[i]? = some d ∧ Rp K H x d := by
  match h with
  | .nil => intro i x e; simp at e
  | .cons r t =>
    intro i x e
    cases i with
    | zero => simp at e; subst e; exact ⟨_, rfl, r⟩
    | succ i => exact rps_get t (by simpa using e)
theorem rps_len {K : PySem.W.Frag} {H : Hp} : ∀ {xs : List V} {ds : List PyData}, Rps K H xs ds → ds.length = xs.length
  | _, _, .nil => rfl
  | _, _, .cons _ t => congrArg Nat.succ (rps_len t)
theorem Room.units1 {k : Nat} {A : Around} (r : Room k A) : A.units + 65 < cLine := by have := r.un; omega
theorem mt_index (hu : X.A.units + 65 < cLine) : MtM X "list.index" (rIndex X.K) := by
  intro pins s σ H x vs v us Q I rx rv h
  obtain ⟨l, xs, y, ds, d, j, rfl, rfl, hl, hr, hy, sd, sy, ⟨z, ez, qz⟩, hb, q⟩ := h
  cases rx
  obtain ⟨u, rfl, ru⟩ := rv.one
  obtain ⟨its, r, ht, hz⟩ := I.list hl
  obtain ⟨bs, rb⟩ := I.reads hy ru
  obtain ⟨⟨oc, dd, odt, sl⟩, eo, ec, n, ed⟩ := ht.isList
  dsimp only at ec ed
  subst ec ed
  have one : ∀ {i : Nat} {v : Value}, its[i]? = some v → ∃ z as, ds[i]? = some z ∧ Reads s.heap v z as := fun {i v} e => by
    obtain ⟨x, ex, rx⟩ := vals_get r e
    obtain ⟨z, ez, hz⟩ := rps_get hr ex
    obtain ⟨as, ra⟩ := I.reads hz rx
    exact ⟨z, as, ez, ra⟩
  have len : ds.length = its.length := by
    rw [← r.length]
    exact rps_len hr
  have hj : j < its.toArray.size := by
    have := (List.getElem?_eq_some_iff.mp ez).1
    rw [List.size_toArray]
    omega
  have val : ∀ (i : Nat) (hi : i < its.toArray.size), ∃ z as, ds[i]? = some z ∧ Reads s.heap its.toArray[i] z as := fun i hi => one (i := i) (by simp at hi ⊢)
  refine call_meets F.slot_list_index ⟨_, eo, rfl⟩ F.entry_list_index (F.args_list_index_2 _ _) (SeqAt.list_indexAt l its.toArray n dd sl u (fun y => (SeqAt.readOf s.heap y).eqv d) j hj ?_ ?_ ?_) ⟨eo, ?_, ?_⟩
  · have : sizeLine < 2 ^ 63 - 1 := by decide
    rw [List.size_toArray, ← r.length] at hj
    omega
  · obtain ⟨z', as, ez', ra⟩ := val j hj
    rw [ez] at ez'
    cases ez'
    have ez' := ez
    rw [SeqAt.readOf_eq (SeqAt.canLay_of_shaped (sd _ (List.mem_of_getElem? ez'))) ra]
    exact qz
  · intro m hm mj
    obtain ⟨z', as, ez', ra⟩ := val m hm
    rw [SeqAt.readOf_eq (SeqAt.canLay_of_shaped (sd _ (List.mem_of_getElem? ez'))) ra]
    exact hb m z' mj ez'
  · intro y hy'
    obtain ⟨i, hi, rfl⟩ := List.mem_iff_getElem.mp (Array.mem_toList_iff.mpr hy')
    obtain ⟨z', as, ez', ra⟩ := one (i := i) (v := its[i]'(by simpa using hi)) (by simp)
    have sz := sd _ (List.mem_of_getElem? ez')
    have kq := PySem.W.keq_at (A := X.A) ra rb sz sy (by show X.A.units + 1 + 64 < cLine; omega)
    simp only [List.getElem_toArray] 
    rw [SeqAt.readOf_eq (SeqAt.canLay_of_shaped sz) ra]
    exact kq
  · exact ⟨.int j, H, I.tok _, ⟨_, rfl⟩, q⟩
end
section
variable {K : PySem.W.Frag} {σ : St} {H : Hp} {Q : VK}
theorem s_newC {C : Addr} (h : ∀ x dx H', H x = none → Same H H' → H' x = some (.ins C dx []) → Q (.ref x) H') : tNew C σ H Q := fun x dx hx hd ne =>
  h x dx _ hx (Same.trans (Same.new hd) (Same.new (by rw [upd_ne ne.symm]; exact hx))) upd_same
theorem s_index {l : Addr} {xs : List V} {y : V} {ds : List PyData} {d : PyData} {j : Nat} (h1 : SqL K H l xs) (h2 : Rps K H xs ds) (h3 : Rp K H y d) (h4 : ∀ d ∈ ds, SeqAt.shaped d = true) (h5 : SeqAt.shaped d = true) (h6 : ∃ z, ds[j]? = some z ∧ PyData.eqv z d = true) (h7 : ∀ (m : Nat) z, m < j → ds[m]? = some z → PyData.eqv z d = false) (q : Q (.int j) H) : rIndex K (.ref l) [y] H Q :=
  ⟨l, xs, y, ds, d, j, rfl, rfl, h1, h2, h3, h4, h5, h6, h7, q⟩
end
end L2

end

section
set_option maxHeartbeats 1000000
namespace Md
open PySem L2 Fr
/-- a gain of so many sixths -/
def SxS (K : PySem.W.Frag) (H : Hp) (v : V) (t : Int) : Prop := ∃ p x y, v = .ref p ∧ SqT K H p [.int x, .int y] ∧ Low t 6 x y
def ahead (w : Int) (x y : Int) : Prop := if w = 0 then y < x else if w = 1 then False else x < y
def behind (w : Int) (x y : Int) : Prop := if w = 0 then y ≤ x else if w = 1 then True else x ≤ y
/-- the place that a mood picks -/
def Pk (w : Int) (ts : List Int) (j : Nat) : Prop := ∃ x, ts[j]? = some x ∧ 0 < x ∧ (∀ (i : Nat) y, i < j → ts[i]? = some y → 0 < y → ahead w x y) ∧ (∀ (i : Nat) y, j < i → ts[i]? = some y → 0 < y → behind w x y)
def spWhole (K : PySem.W.Frag) : Sp := fun vs H Q _ => ∃ x T, vs = [x] ∧ TyOf K H x (.type T) ∧ Q (.bl (isInt x)) H
def spLess (K : PySem.W.Frag) : Sp := fun vs H Q _ => ∃ v1 v2 t1 t2, vs = [v1, v2] ∧ SxS K H v1 t1 ∧ SxS K H v2 t2 ∧ Q (.bl (decide (t1 < t2))) H
def spLeast (K : PySem.W.Frag) : Sp := fun vs H Q _ => ∃ (l : Addr) (xs : List V) (ts : List Int), vs = [.ref l] ∧ SqL K H l xs ∧ All2 (SxS K H) xs ts ∧ ts ≠ [] ∧ ∀ v t, SxS K H v t → t ∈ ts → (∀ y ∈ ts, t ≤ y) → Q v H
def spPick (K : PySem.W.Frag) (w : Int) : Sp := fun vs H Q _ => ∃ (s : V) (l : Addr) (xs : List V) (ts : List Int), vs = [s, .ref l] ∧ SqL K H l xs ∧ All2 (SxS K H) xs ts ∧ ts.length ≤ 8 ∧ (∃ t ∈ ts, 0 < t) ∧ ∀ (j : Nat) H', Same H H' → Pk w ts j → Q (.int j) H'
def spCell (K : PySem.W.Frag) : Sp := fun vs H Q _ => ∃ (a : Addr) (ns : List Int) (k : Int), vs = [.ref a, .int k] ∧ SqL K H a (ns.map V.int) ∧ 0 ≤ k ∧ ∀ z : Int, Q (.int z) H
def spGcd6 (K : PySem.W.Frag) : Sp := fun vs H Q _ => ∃ a : Int, vs = [.int a, .int 6] ∧ Q (.int (Int.gcd a 6)) H
def spSix (K : PySem.W.Frag) : Sp := fun vs H Q _ => ∃ t : Int, vs = [.int t] ∧ ∀ v H', Same H H' → SxS K H' v t → Q v H'
def spDrawn (K : PySem.W.Frag) : Sp := fun vs H Q _ => ∃ (a : Addr) (ns : List Int), vs = [.ref a] ∧ SqL K H a (ns.map V.int) ∧ ns.length ≤ 63 ∧ ∀ l (ts : List Int) H', Same H H' → H' l = some (.lst (ts.map V.int)) → H l = none → 1 ≤ ts.length → ts.length ≤ 8 → (∃ t ∈ ts, 0 < t) → Q (.ref l) H'
def spDue (K : PySem.W.Frag) : Sp := fun vs H Q _ => ∃ (l : Addr) (ts : List Int) (w : Int), vs = [.ref l, .int w] ∧ SqL K H l (ts.map V.int) ∧ 0 ≤ w ∧ w < 3 ∧ ts.length ≤ 8 ∧ (∃ t ∈ ts, 0 < t) ∧ ∀ j : Nat, Pk w ts j → Q (.int j) H
/-- the three moods in a list -/
def Moods (cK cH cW : Addr) (H : Hp) (lm : Addr) : Prop := ∃ a b c da db dc, H lm = some (.lst [.ref a, .ref b, .ref c]) ∧ H a = some (.ins cK da []) ∧ H b = some (.ins cH db []) ∧ H c = some (.ins cW dc [])
def spPicks (K : PySem.W.Frag) (cK cH cW : Addr) : Sp := fun vs H Q _ => ∃ (lm l : Addr) (ts : List Int) (s : Int), vs = [.ref lm, .ref l, .int s] ∧ Moods cK cH cW H lm ∧ SqL K H l (ts.map V.int) ∧ ts.length ≤ 8 ∧ (∃ t ∈ ts, 0 < t) ∧ ∀ H', Same H H' → Q (.bl true) H'
def spLaw (K : PySem.W.Frag) : Sp := fun vs H Q _ => ∃ (a : Addr) (ns : List Int), vs = [.ref a] ∧ SqL K H a (ns.map V.int) ∧ ns.length ≤ 63 ∧ ∀ H', Q (.bl true) H'
abbrev t_is_less (K : PySem.W.Frag) : TS :=
  (tRet (tOp (rI0 fun i j => .bl (decide (i < j))) (tOp (rI CMulX fun i j => .int (i * j)) (tOp (rIx K) (tVar 0) (tC (.int 0))) (tOp (rIx K) (tVar 1) (tC (.int 1)))) (tOp (rI CMulX fun i j => .int (i * j)) (tOp (rIx K) (tVar 1) (tC (.int 0))) (tOp (rIx K) (tVar 0) (tC (.int 1))))))
abbrev t_least_of (K : PySem.W.Frag) : TS :=
  (tSeq (tAsg (tOp (rIx K) (tVar 0) (tC (.int 0))) (gName 1))
    (tSeq (tFor (iList K (tVar 0)) (gName 2) (tIfS (tB (tCall (spLess K) [] E0 (tCons (tVar 2) (tCons (tVar 1) tNil)))) (tAsg (tVar 2) (gName 1)) tNext))
    (tRet (tVar 1))))
abbrev t_Keen_pick (K : PySem.W.Frag) : TS :=
  (tSeq (tAsg (tC (.int 0)) (gName 2))
    (tSeq (tFor (iEnum K (tCons (tVar 1) tNil)) (gTup K 2 (gCons (gName 3) (gCons (gName 4) gNil))) (tIfS (tB (tCall (spLess K) [] E0 (tCons (tOp (rIx K) (tVar 1) (tVar 2)) (tCons (tVar 4) tNil)))) (tAsg (tVar 3) (gName 2)) tNext))
    (tRet (tVar 2))))
abbrev t_Hasty_pick (K : PySem.W.Frag) (aN : Addr) : TS :=
  (tRet (tOp (rIx K) (tComp 2 [] (iEnum K (tCons (tVar 1) tNil)) (gTup K 2 (gCons (gName 0) (gCons (gName 1) gNil))) (tB (tCall (spLess K) [] E0 (tCons (tC (.ref aN)) (tCons (tVar 1) tNil)))) (tVar 0)) (tC (.int 0))))
abbrev t_Wary_pick (K : PySem.W.Frag) (aN : Addr) : TS :=
  (tRet (tBM K "list" (rIndex K) (tVar 1) (tCons (tCall (spLeast K) [] E0 (tCons (tComp 1 [] (iList K (tVar 1)) (gName 0) (tB (tCall (spLess K) [] E0 (tCons (tC (.ref aN)) (tCons (tVar 0) tNil)))) (tVar 0)) tNil)) tNil)))
abbrev t__law_cell (K : PySem.W.Frag) : TS :=
  (tSeq (tIfS (tTest (tOp (rI0 fun i j => .bl (decide (i < j))) (tVar 1) (tCB (rLen K) (tCons (tVar 0) tNil)))) (tRet (tOp (rIx K) (tVar 0) (tVar 1))) tNext)
    (tRet (tC (.int 0))))
abbrev t__law_whole (K : PySem.W.Frag) : TS :=
  (tRet (tAndV (tCB (rIsi K) (tCons (tVar 0) (tCons (tC (.ty "int")) tNil))) (tNotV (tCB (rIsi K) (tCons (tVar 0) (tCons (tC (.ty "bool")) tNil))))))
abbrev t__law_divisor (K : PySem.W.Frag) : TS :=
  (tSeq (tWhile (tTest (tOp (rNeA K) (tVar 1) (tC (.int 0)))) (tPar 0 1 (tCons (tVar 1) (tCons (tOp (rI (fun _ j => 0 < j) fun i j => .int (i % j)) (tVar 0) (tVar 1)) tNil))))
    (tRet (tCB rAbs (tCons (tVar 0) tNil))))
abbrev t__law_sixths (K : PySem.W.Frag) : TS :=
  (tSeq (tAsg (tCall (spGcd6 K) [] E0 (tCons (tVar 0) (tCons (tC (.int 6)) tNil))) (gName 1))
    (tRet (tTup (tCons (tOp (rI CDivB fun i j => .int (i.fdiv j)) (tVar 0) (tVar 1)) (tCons (tOp (rI CDivB fun i j => .int (i.fdiv j)) (tC (.int 6)) (tVar 1)) tNil)))))
abbrev t__law_drawn (K : PySem.W.Frag) : TS :=
  (tSeq (tAsg (tOp (rAddA K) (tC (.int 1)) (tOp (rI (fun _ j => 0 < j) fun i j => .int (i % j)) (tCall (spCell K) [] E0 (tCons (tVar 0) (tCons (tC (.int 0)) tNil))) (tC (.int 8)))) (gName 1))
    (tSeq (tAsg (tOp rRep (tLst (tCons (tC (.int 0)) tNil)) (tVar 1)) (gName 2))
    (tSeq (tFor (iRng2 (tCons (tC (.int 3)) (tCons (tCB (rLen K) (tCons (tVar 0) tNil)) tNil))) (gName 3) (tSeq (tAsg (tOp (rI (fun _ j => 0 < j) fun i j => .int (i % j)) (tOp (rI CMulX fun i j => .int (i * j)) (tOp (rIx K) (tVar 0) (tVar 3)) (tC (.int 48271))) (tC (.int 2147483629))) (gName 5))
    (tSeq (tAsg (tOp (rIx K) (tLst (tCons (tC (.int 0)) (tCons (tOp (rI0 fun i j => .int (i - j)) (tOp (rI (fun _ j => 0 < j) fun i j => .int (i % j)) (tOp (rI CDivB fun i j => .int (i.fdiv j)) (tVar 5) (tC (.int 4))) (tC (.int 37))) (tC (.int 18))) (tCons (tOp (rI0 fun i j => .int (i - j)) (tOp (rI (fun _ j => 0 < j) fun i j => .int (i % j)) (tOp (rI CMulX fun i j => .int (i * j)) (tVar 5) (tC (.int 982451653))) (tOp (rAddA K) (tOp (rI CMulX fun i j => .int (i * j)) (tC (.int 12)) (tOp (rI CPow fun i j => .int (i ^ j.toNat)) (tC (.int 10)) (tC (.int 18)))) (tC (.int 1)))) (tOp (rI CMulX fun i j => .int (i * j)) (tC (.int 6)) (tOp (rI CPow fun i j => .int (i ^ j.toNat)) (tC (.int 10)) (tC (.int 18))))) tNil)))) (tOp (rI (fun _ j => 0 < j) fun i j => .int (i % j)) (tVar 5) (tC (.int 3)))) (gName 6))
    (tAsg (tOp (rAddA K) (tOp (rIx K) (tVar 2) (tOp (rI (fun _ j => 0 < j) fun i j => .int (i % j)) (tOp (rI0 fun i j => .int (i - j)) (tVar 3) (tC (.int 3))) (tVar 1))) (tVar 6)) (gSub (tVar 2) (tOp (rI (fun _ j => 0 < j) fun i j => .int (i % j)) (tOp (rI0 fun i j => .int (i - j)) (tVar 3) (tC (.int 3))) (tVar 1)) rSetL)))))
    (tSeq (tIfS (tTest (tOp (rEqA K) (tOp (rI (fun _ j => 0 < j) fun i j => .int (i % j)) (tCall (spCell K) [] E0 (tCons (tVar 0) (tCons (tC (.int 1)) tNil))) (tC (.int 2))) (tC (.int 1)))) (tAsg (tOp (rIx K) (tVar 2) (tOp (rI (fun _ j => 0 < j) fun i j => .int (i % j)) (tOp (rI CDivB fun i j => .int (i.fdiv j)) (tCall (spCell K) [] E0 (tCons (tVar 0) (tCons (tC (.int 1)) tNil))) (tC (.int 16))) (tVar 1))) (gSub (tVar 2) (tOp (rI (fun _ j => 0 < j) fun i j => .int (i % j)) (tOp (rI CDivB fun i j => .int (i.fdiv j)) (tCall (spCell K) [] E0 (tCons (tVar 0) (tCons (tC (.int 1)) tNil))) (tC (.int 2))) (tVar 1)) rSetL)) tNext)
    (tSeq (tAsg (tOp (rI (fun _ j => 0 < j) fun i j => .int (i % j)) (tCall (spCell K) [] E0 (tCons (tVar 0) (tCons (tC (.int 2)) tNil))) (tVar 1)) (gName 4))
    (tSeq (tIfS (tTest (tOp (rI0 fun i j => .bl (decide (i < j))) (tOp (rIx K) (tVar 2) (tVar 4)) (tC (.int 1)))) (tAsg (tOp (rI0 fun i j => .int (i - j)) (tC (.int 1)) (tOp (rIx K) (tVar 2) (tVar 4))) (gSub (tVar 2) (tVar 4) rSetL)) tNext)
    (tRet (tVar 2))))))))
abbrev t__law_due (K : PySem.W.Frag) : TS :=
  (tSeq (tAsg (tC .non) (gName 2))
    (tSeq (tFor (iRng1 (tCons (tCB (rLen K) (tCons (tVar 0) tNil)) tNil)) (gName 3) (tIfS (tTest (tOp (rI0 fun i j => .bl (decide (j < i))) (tOp (rIx K) (tVar 0) (tVar 3)) (tC (.int 0)))) (tIfS (tTest (tOp rIsN (tVar 2) (tC .non))) (tAsg (tVar 3) (gName 2)) (tIfS (tAnd (tTest (tOp (rEqA K) (tVar 1) (tC (.int 0)))) (tTest (tOp (rI0 fun i j => .bl (decide (j < i))) (tOp (rIx K) (tVar 0) (tVar 3)) (tOp (rIx K) (tVar 0) (tVar 2))))) (tAsg (tVar 3) (gName 2)) (tIfS (tAnd (tTest (tOp (rEqA K) (tVar 1) (tC (.int 2)))) (tTest (tOp (rI0 fun i j => .bl (decide (i < j))) (tOp (rIx K) (tVar 0) (tVar 3)) (tOp (rIx K) (tVar 0) (tVar 2))))) (tAsg (tVar 3) (gName 2)) tNext))) tNext))
    (tRet (tVar 2))))
abbrev t__law_picks (K : PySem.W.Frag) (cK cH cW : Addr) : TS :=
  (tSeq (tAsg (tComp 1 [] (iList K (tVar 1)) (gName 0) tNoIf (tCall (spSix K) [] E0 (tCons (tVar 0) tNil))) (gName 3))
    (tSeq (tAsg (tCB (rListOf K) (tCons (tVar 3) tNil)) (gName 4))
    (tSeq (tFor (iRng1 (tCons (tC (.int 3)) tNil)) (gName 5) (tSeq (tAsg (tOp (rI (fun _ j => 0 < j) fun i j => .int (i % j)) (tOp (rAddA K) (tVar 2) (tVar 5)) (tC (.int 3))) (gName 6))
    (tSeq (tAsg (tMethV "pick" [(cK, spPick K 0), (cH, spPick K 1), (cW, spPick K 2)] E0 (tOp (rIx K) (tVar 0) (tVar 6)) (tCons (tVar 4) tNil)) (gName 7))
    (tIfS (tOr (tNot (tB (tCall (spWhole K) [] E0 (tCons (tVar 7) tNil)))) (tOr (tTest (tOp (rNeA K) (tVar 7) (tCall (spDue K) [] E0 (tCons (tVar 1) (tCons (tVar 6) tNil))))) (tTest (tOp (rNeA K) (tVar 4) (tVar 3))))) (tRet (tC (.bl false))) tNext))))
    (tRet (tC (.bl true))))))
abbrev t_law (K : PySem.W.Frag) (cK cH cW : Addr) : TS :=
  (tSeq (tAsg (tCall (spDrawn K) [] E0 (tCons (tVar 0) tNil)) (gName 1))
    (tSeq (tAsg (tLst (tCons (tNew cK) (tCons (tNew cH) (tCons (tNew cW) tNil)))) (gName 2))
    (tSeq (tIfS (tOr (tNot (tB (tCB (rIsi K) (tCons (tOp (rIx K) (tVar 2) (tC (.int 1))) (tCons (tC (.ref cK)) tNil))))) (tNot (tB (tCB (rIsi K) (tCons (tOp (rIx K) (tVar 2) (tC (.int 2))) (tCons (tC (.ref cK)) tNil)))))) (tRet (tC (.bl false))) tNext)
    (tSeq (tIfS (tOr (tB (tCB (rIsi K) (tCons (tOp (rIx K) (tVar 2) (tC (.int 0))) (tCons (tC (.ref cH)) tNil)))) (tB (tCB (rIsi K) (tCons (tOp (rIx K) (tVar 2) (tC (.int 0))) (tCons (tC (.ref cW)) tNil))))) (tRet (tC (.bl false))) tNext)
    (tSeq (tIfS (tOr (tB (tCB (rIsi K) (tCons (tOp (rIx K) (tVar 2) (tC (.int 1))) (tCons (tC (.ref cW)) tNil)))) (tB (tCB (rIsi K) (tCons (tOp (rIx K) (tVar 2) (tC (.int 2))) (tCons (tC (.ref cH)) tNil))))) (tRet (tC (.bl false))) tNext)
    (tSeq (tAsg (tOp (rI CDivB fun i j => .int (i.fdiv j)) (tCall (spCell K) [] E0 (tCons (tVar 0) (tCons (tC (.int 0)) tNil))) (tC (.int 8))) (gName 3))
    (tSeq (tAsg (tOp (rI (fun _ j => 0 < j) fun i j => .int (i % j)) (tOp (rI CDivB fun i j => .int (i.fdiv j)) (tCall (spCell K) [] E0 (tCons (tVar 0) (tCons (tC (.int 1)) tNil))) (tC (.int 128))) (tCB (rLen K) (tCons (tVar 1) tNil))) (gName 4))
    (tSeq (tIfS (tOr (tNot (tB (tCall (spPicks K cK cH cW) [] E0 (tCons (tVar 2) (tCons (tVar 1) (tCons (tVar 3) tNil)))))) (tNot (tB (tCall (spPicks K cK cH cW) [] E0 (tCons (tVar 2) (tCons (tOp (rAddA K) (tSl (rSlL K) (tVar 1) (tPart (tVar 4)) tNoPart) (tSl (rSlL K) (tVar 1) tNoPart (tPart (tVar 4)))) (tCons (tOp (rAddA K) (tVar 3) (tC (.int 1))) tNil))))))) (tRet (tC (.bl false))) tNext)
    (tRet (tCall (spPicks K cK cH cW) [] E0 (tCons (tVar 2) (tCons (tVar 1) (tCons (tOp (rAddA K) (tVar 3) (tC (.int 2))) tNil)))))))))))))
end Md

end

section
set_option maxHeartbeats 4000000
namespace Md
open PySem L2 Fr
local macro_rules | `(tactic| walk_at "rd1") => `(tactic| first | ((with_reducible refine' s_set2 ?hs ?_); (case hs => ((simp only [List.set_cons_succ, List.set_cons_zero]) <;> exact rfl))) | ((with_reducible refine' s_set ?hs ?_); (case hs => ((simp only [List.set_cons_succ, List.set_cons_zero]) <;> exact rfl))) | (with_reducible refine s_seq ?_) | (with_reducible refine s_asg ?_) | (with_reducible refine s_if ?_) | (with_reducible refine s_asgG ?_) | (with_reducible refine s_gsub ?_) | (with_reducible refine s_sl ?_) | (with_reducible refine s_noPart ?_) | (with_reducible refine s_part ?_) | (with_reducible refine s_exI ?_) | (with_reducible refine s_ret ?_) | (with_reducible refine s_op ?_) | (with_reducible refine s_c ?_) | (with_reducible refine s_cons ?_) | (with_reducible refine s_nil ?_) | (with_reducible refine s_call ?_) | (with_reducible refine s_cb ?_) | (with_reducible refine s_test ?_) | (with_reducible refine s_b ?_) | (with_reducible refine s_and ?_) | (with_reducible refine s_or ?_) | (with_reducible refine s_not ?_) | (with_reducible refine s_andV ?_) | (with_reducible refine s_orV ?_) | (with_reducible refine s_notV ?_) | (with_reducible refine s_ifx ?_) | (with_reducible refine s_chain ?_) | (with_reducible refine s_un ?_) | (with_reducible refine s_tup ?_) | (with_reducible refine s_lst ?_) | (with_reducible refine s_drop ?_) | (with_reducible refine s_retN ?_) | (with_reducible refine s_next ?_) | (with_reducible refine s_break ?_) | (with_reducible refine s_cont ?_) | (with_reducible refine s_par ?_) | ((with_reducible refine' s_var ?hv ?_); (case hv => exact rfl)) | (with_reducible refine s_bl ?_) | (with_reducible refine s_rI0 ?_) | (with_reducible refine s_eqI ?_) | (with_reducible refine s_neI ?_) | (with_reducible refine s_eqB ?_) | (with_reducible refine s_rU ?_) | (with_reducible refine s_eqAI ?_) | (with_reducible refine s_neAI ?_) | (with_reducible refine s_eqAB ?_) | (with_reducible refine s_addI ?_) | ((with_reducible refine' s_ixST ?hq ?he ?_); (case hq => assumption); (case he => exact rfl)) | ((with_reducible refine' s_ixSL ?hq ?he ?_); (case hq => assumption); (case he => exact rfl)) | ((with_reducible refine' s_abs1 ?_)) | ((with_reducible refine' s_lenL ?hq ?_); (case hq => assumption)) | ((with_reducible refine' s_lenT ?hq ?_); (case hq => assumption)) | (with_reducible refine s_isN ?_) | (with_reducible refine s_for ?_) | (with_reducible refine s_iList ?_) | (with_reducible refine s_iTup ?_) | (with_reducible refine s_iR1 ?_) | (with_reducible refine s_iR2 ?_) | (with_reducible refine s_iEnum ?_) | (with_reducible refine s_iZip ?_) | ((with_reducible refine' s_jList ?hq ?_); (case hq => assumption)) | ((with_reducible refine' s_jTup ?hq ?_); (case hq => assumption)) | ((with_reducible refine' s_jEnum ?hq ?_); (case hq => assumption)) | ((with_reducible refine' s_jZip ?hq ?hr ?_); (case hq => assumption); (case hr => assumption)) | ((with_reducible refine' s_aug ?hv ?_); (case hv => exact rfl)) | (with_reducible refine s_augS ?_) | (with_reducible refine s_ipI ?_) | (with_reducible refine s_int1 ?_) | (with_reducible refine s_bm ?_) | (with_reducible refine s_bm0 ?_) | ((with_reducible refine' s_tyL ?hq ?_); (case hq => assumption)) | (with_reducible refine s_notN ?_) | (with_reducible refine s_min2 ?_) | (with_reducible refine s_max2 ?_) | (with_reducible refine s_nx ?_) | (with_reducible refine s_rt ?_) | (with_reducible refine s_bk ?_) | (with_reducible refine s_ct ?_) | (with_reducible refine iteT ?_) | (with_reducible refine iteNt ?_) | (with_reducible refine iteNf ?_) | ((with_reducible refine iteN ?hz ?_); (case hz => exact rfl)) | ((with_reducible refine iteY ?hz ?_); (case hz => exact rfl)) | (with_reducible refine iteF ?_) | ((with_reducible refine' s_ixT ?hq ?he ?_); (case hq => assumption); (case he => exact rfl)) | ((with_reducible refine' s_ixL ?hq ?he ?_); (case hq => assumption); (case he => exact rfl)) | ((with_reducible refine s_rI ?hc ?_); (case hc => first | assumption | exact mulOk (by assumption) (by assumption) | exact (show (0 : Int) < _ by decide) | omega)))
local macro_rules | `(tactic| walk_at "rd") => `(tactic| repeat walk_at "rd1")
variable {K : PySem.W.Frag} {c : Cs} {H : Hp} {vs : List V} {Q : VK} {E : XK}
abbrev EN (Q : VK) : Ends := { nx := fun _ H' => Q .non H', rt := Q }
theorem ne_mono {j : Nat} {σ : St} {H : Hp} {Q Q' : Bool → Hp → Prop} (hQ : ∀ b H1, Q b H1 → Q' b H1) (h : tTest (tOp (rNeA K) (tVar j) (tC (.int 0))) σ H Q) : tTest (tOp (rNeA K) (tVar j) (tC (.int 0))) σ H Q' := by
  obtain ⟨v, e, h⟩ := h
  refine ⟨v, e, ?_⟩
  rcases h with ⟨h1, k, e2, q⟩ | ⟨d, e', h1, h2, h3, h4, k, e2, q⟩ | ⟨h1, k, e2, q⟩
  · exact .inl ⟨h1, k, e2, hQ _ _ q⟩
  · exact .inr (.inl ⟨d, e', h1, h2, h3, h4, k, e2, hQ _ _ q⟩)
  · exact .inr (.inr ⟨h1, k, e2, hQ _ _ q⟩)
theorem cm {i j : Int} (h : -(2 ^ 64) < j ∧ j < 2 ^ 64) : CMulX i j := .inl (.inr h)
theorem cml {i j : Int} (h : -(2 ^ 64) < i ∧ i < 2 ^ 64) : CMulX i j := .inl (.inl h)
theorem cd {i j : Int} (h : j ≠ 0) (l : j.natAbs < 2 ^ 64) : CDivB i j := ⟨h, Nat.lt_trans l (Nat.pow_lt_pow_right (by decide) (by decide))⟩
theorem rd__law_whole (h : spWhole K vs H Q E) : t__law_whole K (EN Q) (start ["_law_found"] vs) H := by
  obtain ⟨x, t, rfl, ty, q⟩ := h
  show t__law_whole K (EN Q) [some x] H
  obtain ⟨b1, b2, e1, e2, eb⟩ := ty_whole ty
  walk_at "rd"
  refine ⟨_, _, _, _, b1, rfl, .of ty, .ty _, e1, ?_⟩
  walk_at "rd"
  rw [eb] at q
  cases b1 with
  | false => exact iteF q
  | true =>
    refine iteT ?_
    walk_at "rd"
    refine ⟨_, _, _, _, b2, rfl, .of ty, .ty _, e2, ?_⟩
    walk_at "rd"
    exact q
theorem low_one {x B t b t' b' : Int} (b0 : 0 < B) (L : Low x B t b) (L' : Low x B t' b') : t = t' ∧ b = b' := by
  have h1 : b ∣ b' := (L.cross (t' := t') (b' := b') (by omega) L'.eq.symm).bottom L'.pos
  have h2 : b' ∣ b := (L'.cross (t' := t) (b' := b) (by omega) L.eq.symm).bottom L.pos
  have p := L.pos
  have p' := L'.pos
  have e : b = b' := Int.le_antisymm (Int.le_of_dvd p' h1) (Int.le_of_dvd p h2)
  subst e
  exact ⟨Int.eq_of_mul_eq_mul_right (by omega) (L.eq.trans L'.eq.symm), rfl⟩
theorem rd__law_cell (h : spCell K vs H Q E) : t__law_cell K (EN Q) (start ["_law_script", "_law_k"] vs) H := by
  obtain ⟨a, ns, k, rfl, S, k0, q⟩ := h
  show t__law_cell K (EN Q) [some (.ref a), some (.int k)] H
  walk_at "rd"
  by_cases hk : k < ((ns.map V.int).length : Int)
  · refine iteY (decide_eq_true hk) ?_
    walk_at "rd"
    rw [List.length_map] at hk
    obtain ⟨j, rfl⟩ := Int.eq_ofNat_of_zero_le k0
    have hj : j < ns.length := by omega
    exact s_ixSL S (atI_nat (v := .int ns[j]) (by simp [hj])) (q _)
  · refine iteN (decide_eq_false hk) ?_
    walk_at "rd"
    exact q _
theorem place {m : Int} {n : Nat} (h : 0 < n) : ∃ j : Nat, m % (n : Int) = (j : Int) ∧ j < n := by
  have a0 := Int.emod_nonneg m (show (n : Int) ≠ 0 by omega)
  have a1 := Int.emod_lt_of_pos m (show (0 : Int) < (n : Int) by omega)
  obtain ⟨j, ej⟩ := Int.eq_ofNat_of_zero_le a0
  exact ⟨j, ej, by omega⟩
theorem low_fn {t b x y : Int} (b0 : 0 < b) (L : Low t b x y) : x = t.fdiv (Int.gcd t b) ∧ y = b.fdiv (Int.gcd t b) := by
  obtain ⟨d0, dl, L', _, _⟩ := low2 (t := t) (b := b) (d := (Int.gcd t b : Int)) (by omega) (by rw [if_neg (by omega)])
  exact low_one b0 L L'
theorem gcd_em (a b : Int) : Int.gcd b (a % b) = Int.gcd a b := by
  have e := Int.mul_ediv_add_emod a b
  apply Nat.dvd_antisymm
  · apply Int.ofNat_dvd.mp
    have h1 := Int.gcd_dvd_left b (a % b)
    have h2 := Int.gcd_dvd_right b (a % b)
    refine Int.dvd_coe_gcd ?_ h1
    have h3 : ((Int.gcd b (a % b) : Nat) : Int) ∣ b * (a / b) + a % b := Int.dvd_add (Int.dvd_mul_of_dvd_left h1) h2
    rwa [e] at h3
  · apply Int.ofNat_dvd.mp
    have h1 := Int.gcd_dvd_left a b
    have h2 := Int.gcd_dvd_right a b
    refine Int.dvd_coe_gcd h2 ?_
    rw [show a % b = a - b * (a / b) by omega]
    exact Int.dvd_sub h1 (Int.dvd_mul_of_dvd_left h2)
theorem SxS.mono {H H' : Hp} {v : V} {t : Int} (m : Tups H H') (h : SxS K H v t) : SxS K H' v t := by
  obtain ⟨p, x, y, e, S, L⟩ := h
  exact ⟨p, x, y, e, m.sq S, L⟩
theorem nought0 {aN : Addr} (hN : ∀ H, Rp K H (.ref aN) (.tuple [.int 0, .int 1])) (H : Hp) : SxS K H (.ref aN) 0 := by
  refine ⟨aN, 0, 1, rfl, ?_, by decide, by decide, by decide⟩
  cases hN H with
  | tup h hs =>
    cases hs with
    | cons r1 hs =>
      cases r1
      cases hs with
      | cons r2 hs =>
        cases r2
        cases hs
        exact h
theorem less_iff {t1 t2 x1 y1 x2 y2 : Int} (A : Low t1 6 x1 y1) (B : Low t2 6 x2 y2) : x1 * y2 < x2 * y1 ↔ t1 < t2 := by
  have e1 : 6 * (x1 * y2) = t1 * (y1 * y2) := by rw [← Int.mul_assoc, Int.mul_comm 6 x1, A.eq, Int.mul_assoc]
  have e2 : 6 * (x2 * y1) = t2 * (y1 * y2) := by rw [← Int.mul_assoc, Int.mul_comm 6 x2, B.eq, Int.mul_assoc, Int.mul_comm y2 y1]
  have p : 0 < y1 * y2 := Int.mul_pos A.pos B.pos
  constructor
  · intro h
    have : t1 * (y1 * y2) < t2 * (y1 * y2) := by omega
    exact Int.lt_of_mul_lt_mul_right this (Int.le_of_lt p)
  · intro h
    have := Int.mul_lt_mul_of_pos_right h p
    omega
theorem rd_is_less (h : spLess K vs H Q E) : t_is_less K (EN Q) (start ["one", "other"] vs) H := by
  obtain ⟨v1, v2, t1, t2, rfl, ⟨p1, x1, y1, rfl, S1, A⟩, ⟨p2, x2, y2, rfl, S2, B⟩, q⟩ := h
  show t_is_less K (EN Q) [some (.ref p1), some (.ref p2)] H
  obtain ⟨a1, a2, _⟩ := A.small (by decide)
  obtain ⟨b1, b2, _⟩ := B.small (by decide)
  have m1 : CMulX x1 y2 := cm ⟨by omega, by omega⟩
  have m2 : CMulX x2 y1 := cm ⟨by omega, by omega⟩
  walk_at "rd"
  have e : decide (x1 * y2 < x2 * y1) = decide (t1 < t2) := by
    rw [decide_eq_decide]
    exact less_iff A B
  rw [e]
  exact q
theorem at0 (x : V) (xs : List V) : atI (x :: xs) 0 = some x := atI_nat (xs := x :: xs) (j := 0) (v := x) rfl
theorem rd_least_of (h : spLeast K vs H Q E) : t_least_of K (EN Q) (start ["amounts", "least", "amount"] vs) H := by
  obtain ⟨l, xs, ts, rfl, S, al, ne, q⟩ := h
  show t_least_of K (EN Q) [some (.ref l), none, none] H
  obtain ⟨x, xs', t, ts', rfl, rfl, r⟩ : ∃ x xs' t ts', xs = x :: xs' ∧ ts = t :: ts' ∧ SxS K H x t := by
    cases al with
    | nil => exact absurd rfl ne
    | cons r _ => exact ⟨_, _, _, _, rfl, rfl, r⟩
  walk_at "rd"
  refine s_ixSL S (at0 x xs') ?_
  walk_at "rd"
  refine for_list (xs := x :: xs') (fun i σ H' => H' = H ∧ ∃ v u v2, σ = [some (.ref l), some v, v2] ∧ SxS K H v u ∧ u ∈ t :: ts' ∧ ∀ (i' : Nat) y, i' < i → (t :: ts')[i']? = some y → u ≤ y) ⟨rfl, x, t, none, rfl, r, by simp, fun i' y h => by omega⟩ ?_ ?_ ?_
  · rintro i σ H' _ ⟨rfl, _⟩
    exact S
  · rintro i z σ H' hx ⟨rfl, v, u, v2, rfl, hv, hu, mn⟩
    obtain ⟨y, ey, hz⟩ := al.get hx
    refine s_gn (σ' := [some (.ref l), some v, some z]) rfl ?_
    dsimp only
    walk_at "rd"
    refine ⟨_, _, _, _, rfl, hz, hv, ?_⟩
    walk_at "rd"
    by_cases c : y < u
    · refine iteY (decide_eq_true c) ?_
      walk_at "rd"
      refine ⟨rfl, z, y, _, rfl, hz, List.mem_of_getElem? ey, fun i' y' hi e => ?_⟩
      rcases (by omega : i' < i ∨ i' = i) with h | rfl
      · have := mn i' y' h e
        omega
      · rw [ey] at e
        cases e
        omega
    · refine iteN (decide_eq_false c) ?_
      walk_at "rd"
      refine ⟨rfl, v, u, _, rfl, hv, hu, fun i' y' hi e => ?_⟩
      rcases (by omega : i' < i ∨ i' = i) with h | rfl
      · exact mn i' y' h e
      · rw [ey] at e
        cases e
        omega
  · rintro σ H' ⟨rfl, v, u, v2, rfl, hv, hu, mn⟩
    walk_at "rd"
    refine q v u hv hu fun y hy => ?_
    obtain ⟨i, hi, rfl⟩ := List.mem_iff_getElem.mp hy
    exact mn i _ (by rw [al.len]; exact hi) (by simp)
theorem rd_Keen_pick (h : spPick K 0 vs H Q E) : t_Keen_pick K (EN Q) (start ["self", "gains", "best", "place", "gain"] vs) H := by
  obtain ⟨s, l, xs, ts, rfl, S, al, l8, ⟨t0, m0, p0⟩, q⟩ := h
  show t_Keen_pick K (EN Q) [some s, some (.ref l), none, none, none] H
  walk_at "rd"
  have ll := al.len
  have nz : 0 < ts.length := List.length_pos_of_mem m0
  refine for_enum (xs := xs) (fun i σ H' => (∃ (j : Nat) (x : Int) (v3 v4 : Option V), σ = [some s, some (.ref l), some (.int j), v3, v4] ∧ j ≤ i ∧ ts[j]? = some x ∧ ∀ (i' : Nat) y, i' < i → ts[i']? = some y → y ≤ x ∧ (i' < j → y < x)) ∧ Same H H') ⟨⟨0, ts[0], none, none, rfl, Nat.le_refl _, by simp, fun i' y h => by omega⟩, Same.refl _⟩ ?_ ?_ ?_
  · rintro i σ H1 _ ⟨_, s1⟩
    exact s1.seq S
  · rintro i z t σ H1 H2 hx ⟨⟨j, x, v3, v4, rfl, ji, ex, mx⟩, s1⟩ s2 et
    have s12 := Same.trans s1 s2
    have S2 := s12.seq S
    obtain ⟨y, ey, hz⟩ := al.get hx
    obtain ⟨v, ev, hv⟩ := al.getR ex
    refine s_gt2 (SqT.of et) rfl ?_
    dsimp only [List.set]
    walk_at "rd"
    refine s_ixSL S2 (atI_nat ev) ?_
    walk_at "rd"
    refine ⟨_, _, _, _, rfl, hv.mono s12.tups, hz.mono s12.tups, ?_⟩
    walk_at "rd"
    by_cases c : x < y
    · refine iteY (decide_eq_true c) ?_
      walk_at "rd"
      refine ⟨⟨i, y, _, _, rfl, by omega, ey, fun i' y' hi e => ?_⟩, s12⟩
      rcases (by omega : i' < i ∨ i' = i) with h | rfl
      · have := (mx i' y' h e).1
        exact ⟨by omega, fun _ => by omega⟩
      · rw [ey] at e
        cases e
        exact ⟨by omega, fun h => by omega⟩
    · refine iteN (decide_eq_false c) ?_
      walk_at "rd"
      refine ⟨⟨j, x, _, _, rfl, by omega, ex, fun i' y' hi e => ?_⟩, s12⟩
      rcases (by omega : i' < i ∨ i' = i) with h | rfl
      · exact mx i' y' h e
      · rw [ey] at e
        cases e
        exact ⟨by omega, fun h => by omega⟩
  · rintro σ H1 ⟨⟨j, x, v3, v4, rfl, _, ex, mx⟩, s1⟩
    have il : ∀ {i : Nat} {y : Int}, ts[i]? = some y → i < xs.length := fun e => by rw [ll]; exact (List.getElem?_eq_some_iff.mp e).1
    walk_at "rd"
    refine q j H1 s1 ⟨x, ex, ?_, fun i y hi e _ => ?_, fun i y hi e _ => ?_⟩
    · obtain ⟨i0, h0, rfl⟩ := List.mem_iff_getElem.mp m0
      have := (mx i0 _ (by omega) (List.getElem?_eq_getElem h0)).1
      omega
    · exact (mx i y (il e) e).2 hi
    · exact (mx i y (il e) e).1
def Hd (ts : List Int) (i : Nat) : List Nat → Prop
  | [] => ∀ (i' : Nat) y, i' < i → ts[i']? = some y → y ≤ 0
  | j :: _ => ∃ x, ts[j]? = some x ∧ 0 < x ∧ ∀ (i' : Nat) y, i' < j → ts[i']? = some y → y ≤ 0
theorem rd_Hasty_pick {aN : Addr} (hN : ∀ H, Rp K H (.ref aN) (.tuple [.int 0, .int 1])) (h : spPick K 1 vs H Q E) : t_Hasty_pick K aN (EN Q) (start ["self", "gains"] vs) H := by
  obtain ⟨s, l, xs, ts, rfl, S, al, l8, ⟨t0, m0, p0⟩, q⟩ := h
  show t_Hasty_pick K aN (EN Q) [some s, some (.ref l)] H
  refine s_ret ?_
  refine s_op ?_
  refine s_comp (σ' := [none, none]) rfl ?_
  walk_at "rd"
  intro acc na
  have ll := al.len
  refine compE (xs := xs) (fun i σ H' => (∃ v1 v2, σ = [v1, v2]) ∧ Same H H' ∧ ∃ js : List Nat, H' acc = some (.lst (js.map fun (i : Nat) => V.int i)) ∧ js.length ≤ i ∧ Hd ts i js) ⟨⟨_, _, rfl⟩, Same.new na, [], upd_same, Nat.le_refl _, fun i' y h => by omega⟩ ?_ ?_ ?_
  · rintro i σ H1 _ ⟨_, s1, _⟩
    exact s1.seq S
  · rintro i z t σ H1 H2 hx ⟨⟨v1, v2, rfl⟩, s1, js, ea, lj, hd⟩ s2 et
    have s12 := Same.trans s1 s2
    obtain ⟨y, ey, hz⟩ := al.get hx
    have il : i < ts.length := (List.getElem?_eq_some_iff.mp ey).1
    refine s_gt2 (SqT.of et) rfl ?_
    dsimp only [List.set]
    refine blkC ?_
    walk_at "rd"
    refine ⟨_, _, _, _, rfl, nought0 hN H2, hz.mono s12.tups, ?_⟩
    walk_at "rd"
    by_cases c : 0 < y
    · refine iteY (decide_eq_true c) ?_
      walk_at "rd"
      refine ⟨_, s2 _ _ ea, ?_, ⟨_, _, rfl⟩, s12.updN na, js ++ [i], by rw [upd_same]; simp, by rw [List.length_append]; simp only [List.length_singleton]; omega, ?_⟩
      · rw [List.length_map]
        exact Nat.lt_of_le_of_lt (show js.length ≤ 8 by omega) (by decide)
      · cases js with
        | nil => exact ⟨y, ey, c, fun i' y' h e => hd i' y' h e⟩
        | cons j js => exact hd
    · refine iteN (decide_eq_false c) ?_
      refine ⟨⟨_, _, rfl⟩, s12, js, s2 _ _ ea, by omega, ?_⟩
      cases js with
      | nil =>
        intro i' y' h e
        rcases (by omega : i' < i ∨ i' = i) with h | rfl
        · exact hd i' y' h e
        · rw [ey] at e
          cases e
          omega
      | cons j js => exact hd
  · rintro σ H1 ⟨_, s1, js, ea, lj, hd⟩
    cases js with
    | nil =>
      obtain ⟨i0, h0, rfl⟩ := List.mem_iff_getElem.mp m0
      have := hd i0 _ (by omega) (List.getElem?_eq_getElem h0)
      omega
    | cons j js =>
      have A1 := SqL.of (K := K) ea
      obtain ⟨x, ex, x0, b⟩ := hd
      walk_at "rd"
      refine s_ixSL A1 (at0 _ _) ?_
      walk_at "rd"
      refine q j H1 s1 ⟨x, ex, x0, fun i y hi e y0 => ?_, fun i y hi e y0 => trivial⟩
      have := b i y hi e
      omega
def lowD (t : Int) : PyData := .tuple [.int (t.fdiv (Int.gcd t 6)), .int ((6 : Int).fdiv (Int.gcd t 6))]
theorem SxS.rp {H : Hp} {v : V} {t : Int} (h : SxS K H v t) : Rp K H v (lowD t) := by
  obtain ⟨p, x, y, rfl, S, L⟩ := h
  obtain ⟨e1, e2⟩ := low_fn (by decide) L
  rw [e1, e2] at S
  exact .tup S (.cons (.int _) (.cons (.int _) .nil))
theorem sx_rps {H : Hp} {xs : List V} {ts : List Int} (h : All2 (SxS K H) xs ts) : Rps K H xs (ts.map lowD) := by
  induction h with
  | nil => exact .nil
  | cons r _ ih => exact .cons r.rp ih
theorem low_of6 (t : Int) : Low t 6 (t.fdiv (Int.gcd t 6)) ((6 : Int).fdiv (Int.gcd t 6)) := (low2 (t := t) (b := 6) (d := (Int.gcd t 6 : Int)) (by decide) (by rw [if_neg (by decide)])).2.2.1
theorem lowD_eqv {t u : Int} : PyData.eqv (lowD t) (lowD u) = decide (t = u) := by
  unfold lowD
  rw [fr_eqv]
  by_cases e : t = u
  · subst e
    simp
  · rw [decide_eq_false e]
    have A := low_of6 t
    have B := low_of6 u
    rw [Bool.and_eq_false_iff]
    by_cases h1 : t.fdiv (Int.gcd t 6) = u.fdiv (Int.gcd u 6)
    · right
      refine decide_eq_false fun h2 => e ?_
      have e1 := A.eq
      have e2 := B.eq
      rw [h1, h2, e2] at e1
      exact (Int.eq_of_mul_eq_mul_right (by have := B.pos; omega) e1).symm
    · left
      exact decide_eq_false h1
theorem lowD_shaped (t : Int) : SeqAt.shaped (lowD t) = true := fr_shaped
theorem first_at {t : Int} : ∀ {ts : List Int}, t ∈ ts → ∃ j : Nat, ts[j]? = some t ∧ ∀ (i : Nat) y, i < j → ts[i]? = some y → y ≠ t
  | [], h => by cases h
  | u :: ts, h => by
    by_cases e : u = t
    · exact ⟨0, by simp [e], fun i y hi => by omega⟩
    · have h' : t ∈ ts := by
        rcases List.mem_cons.mp h with h | h
        · exact absurd h.symm e
        · exact h
      obtain ⟨j, ej, fj⟩ := first_at h'
      refine ⟨j + 1, by simpa using ej, fun i y hi ey => ?_⟩
      cases i with
      | zero => simp at ey; omega
      | succ i => exact fj i y (by omega) (by simpa using ey)
theorem rd_Wary_pick {aN : Addr} (hN : ∀ H, Rp K H (.ref aN) (.tuple [.int 0, .int 1])) (h : spPick K 2 vs H Q E) : t_Wary_pick K aN (EN Q) (start ["self", "gains"] vs) H := by
  obtain ⟨s, l, xs, ts, rfl, S, al, l8, ⟨t0, m0, p0⟩, q⟩ := h
  show t_Wary_pick K aN (EN Q) [some s, some (.ref l)] H
  walk_at "rd"
  refine s_comp (σ' := [none]) rfl ?_
  walk_at "rd"
  intro acc na
  have ll := al.len
  refine compL (xs := xs) (fun i σ H' => (∃ v, σ = [v]) ∧ Same H H' ∧ ∃ ys, H' acc = some (.lst ys) ∧ ys.length ≤ i ∧ All2 (SxS K H') ys ((ts.take i).filter fun t => decide (0 < t))) ⟨⟨_, rfl⟩, Same.new na, [], upd_same, Nat.le_refl _, .nil⟩ ?_ ?_ ?_
  · rintro i σ H1 _ ⟨_, s1, _⟩
    exact s1.seq S
  · rintro i z σ H1 hx ⟨⟨v, rfl⟩, s1, ys, ea, ly, ay⟩
    obtain ⟨y, ey, hz⟩ := al.get hx
    have il : i < ts.length := (List.getElem?_eq_some_iff.mp ey).1
    have tk : ((ts.take (i + 1)).filter fun t => decide (0 < t)) = ((ts.take i).filter fun t => decide (0 < t)) ++ (if 0 < y then [y] else []) := by
      rw [List.take_add_one, ey, List.filter_append]
      by_cases c : 0 < y <;> simp [c]
    refine s_gn (σ' := [some z]) rfl ?_
    refine blkC ?_
    walk_at "rd"
    refine ⟨_, _, _, _, rfl, nought0 hN H1, hz.mono s1.tups, ?_⟩
    walk_at "rd"
    by_cases c : 0 < y
    · refine iteY (decide_eq_true c) ?_
      walk_at "rd"
      rw [if_pos c] at tk
      refine ⟨ys, ea, Nat.lt_of_le_of_lt (show ys.length ≤ 8 by omega) (by decide), ⟨_, rfl⟩, s1.updN na, ys ++ [z], upd_same, by rw [List.length_append]; simp only [List.length_singleton]; omega, ?_⟩
      rw [tk]
      exact (ay.push (hz.mono s1.tups)).imp fun _ _ q => q.mono (Tups.lst ea)
    · refine iteN (decide_eq_false c) ?_
      rw [if_neg c, List.append_nil] at tk
      refine ⟨⟨_, rfl⟩, s1, ys, ea, by omega, ?_⟩
      rw [tk]
      exact ay
  · rintro σ H1 ⟨_, s1, ys, ea, ly, ay⟩
    rw [ll, List.take_length] at ay
    walk_at "rd"
    have mf : ∀ {y : Int}, y ∈ ts → 0 < y → y ∈ ts.filter fun t => decide (0 < t) := fun h h0 => List.mem_filter.mpr ⟨h, decide_eq_true h0⟩
    refine ⟨acc, ys, _, rfl, SqL.of ea, ay, List.ne_nil_of_mem (mf m0 p0), fun v t hv ht mn => ?_⟩
    obtain ⟨tm, tp⟩ := List.mem_filter.mp ht
    have t0' : 0 < t := of_decide_eq_true tp
    obtain ⟨j, ej, fj⟩ := first_at tm
    walk_at "rd"
    refine s_index (j := j) (s1.seq S) (sx_rps (al.imp fun _ _ z => z.mono s1.tups)) hv.rp (fun d hd => ?_) (lowD_shaped t) ⟨lowD t, by simp [ej], by rw [lowD_eqv]; simp⟩ (fun m z hm hz => ?_) ?_
    · obtain ⟨u, _, rfl⟩ := List.mem_map.mp hd
      exact lowD_shaped u
    · rw [List.getElem?_map] at hz
      cases hu : ts[m]? with
      | none => rw [hu] at hz; cases hz
      | some u =>
        rw [hu] at hz
        cases hz
        rw [lowD_eqv]
        exact decide_eq_false (fj m u hm hu)
    · refine q j H1 s1 ⟨t, ej, t0', fun i y hi e y0 => ?_, fun i y hi e y0 => ?_⟩
      · have h1 := mn y (mf (List.mem_of_getElem? e) y0)
        have h2 := fj i y hi e
        show t < y
        omega
      · exact mn y (mf (List.mem_of_getElem? e) y0)
end Md

end

section
set_option maxHeartbeats 4000000
namespace Md
open PySem L2 Fr
local macro_rules | `(tactic| walk_at "rd1") => `(tactic| first | ((with_reducible refine' s_set2 ?hs ?_); (case hs => ((simp only [List.set_cons_succ, List.set_cons_zero]) <;> exact rfl))) | ((with_reducible refine' s_set ?hs ?_); (case hs => ((simp only [List.set_cons_succ, List.set_cons_zero]) <;> exact rfl))) | (with_reducible refine s_seq ?_) | (with_reducible refine s_asg ?_) | (with_reducible refine s_if ?_) | (with_reducible refine s_asgG ?_) | (with_reducible refine s_gsub ?_) | (with_reducible refine s_sl ?_) | (with_reducible refine s_noPart ?_) | (with_reducible refine s_part ?_) | (with_reducible refine s_exI ?_) | (with_reducible refine s_ret ?_) | (with_reducible refine s_op ?_) | (with_reducible refine s_c ?_) | (with_reducible refine s_cons ?_) | (with_reducible refine s_nil ?_) | (with_reducible refine s_call ?_) | (with_reducible refine s_cb ?_) | (with_reducible refine s_test ?_) | (with_reducible refine s_b ?_) | (with_reducible refine s_and ?_) | (with_reducible refine s_or ?_) | (with_reducible refine s_not ?_) | (with_reducible refine s_andV ?_) | (with_reducible refine s_orV ?_) | (with_reducible refine s_notV ?_) | (with_reducible refine s_ifx ?_) | (with_reducible refine s_chain ?_) | (with_reducible refine s_un ?_) | (with_reducible refine s_tup ?_) | (with_reducible refine s_lst ?_) | (with_reducible refine s_drop ?_) | (with_reducible refine s_retN ?_) | (with_reducible refine s_next ?_) | (with_reducible refine s_break ?_) | (with_reducible refine s_cont ?_) | (with_reducible refine s_par ?_) | ((with_reducible refine' s_var ?hv ?_); (case hv => exact rfl)) | (with_reducible refine s_bl ?_) | (with_reducible refine s_rI0 ?_) | (with_reducible refine s_eqI ?_) | (with_reducible refine s_neI ?_) | (with_reducible refine s_eqB ?_) | (with_reducible refine s_rU ?_) | (with_reducible refine s_eqAI ?_) | (with_reducible refine s_neAI ?_) | (with_reducible refine s_eqAB ?_) | (with_reducible refine s_addI ?_) | ((with_reducible refine' s_ixST ?hq ?he ?_); (case hq => assumption); (case he => exact rfl)) | ((with_reducible refine' s_ixSL ?hq ?he ?_); (case hq => assumption); (case he => exact rfl)) | ((with_reducible refine' s_abs1 ?_)) | ((with_reducible refine' s_lenL ?hq ?_); (case hq => assumption)) | ((with_reducible refine' s_lenT ?hq ?_); (case hq => assumption)) | (with_reducible refine s_isN ?_) | (with_reducible refine s_for ?_) | (with_reducible refine s_iList ?_) | (with_reducible refine s_iTup ?_) | (with_reducible refine s_iR1 ?_) | (with_reducible refine s_iR2 ?_) | (with_reducible refine s_iEnum ?_) | (with_reducible refine s_iZip ?_) | ((with_reducible refine' s_jList ?hq ?_); (case hq => assumption)) | ((with_reducible refine' s_jTup ?hq ?_); (case hq => assumption)) | ((with_reducible refine' s_jEnum ?hq ?_); (case hq => assumption)) | ((with_reducible refine' s_jZip ?hq ?hr ?_); (case hq => assumption); (case hr => assumption)) | ((with_reducible refine' s_aug ?hv ?_); (case hv => exact rfl)) | (with_reducible refine s_augS ?_) | (with_reducible refine s_ipI ?_) | (with_reducible refine s_int1 ?_) | (with_reducible refine s_bm ?_) | (with_reducible refine s_bm0 ?_) | ((with_reducible refine' s_tyL ?hq ?_); (case hq => assumption)) | (with_reducible refine s_notN ?_) | (with_reducible refine s_min2 ?_) | (with_reducible refine s_max2 ?_) | (with_reducible refine s_nx ?_) | (with_reducible refine s_rt ?_) | (with_reducible refine s_bk ?_) | (with_reducible refine s_ct ?_) | (with_reducible refine iteT ?_) | (with_reducible refine iteNt ?_) | (with_reducible refine iteNf ?_) | ((with_reducible refine iteN ?hz ?_); (case hz => exact rfl)) | ((with_reducible refine iteY ?hz ?_); (case hz => exact rfl)) | (with_reducible refine iteF ?_) | ((with_reducible refine' s_ixT ?hq ?he ?_); (case hq => assumption); (case he => exact rfl)) | ((with_reducible refine' s_ixL ?hq ?he ?_); (case hq => assumption); (case he => exact rfl)) | ((with_reducible refine s_rI ?hc ?_); (case hc => first | assumption | exact mulOk (by assumption) (by assumption) | exact (show (0 : Int) < _ by decide) | omega)))
local macro_rules | `(tactic| walk_at "rd") => `(tactic| repeat walk_at "rd1")
variable {K : PySem.W.Frag} {c : Cs} {H : Hp} {vs : List V} {Q : VK} {E : XK}
theorem rd__law_divisor (h : spGcd6 K vs H Q E) : t__law_divisor K (EN Q) (start ["_law_one", "_law_other"] vs) H := by
  obtain ⟨a, rfl, q⟩ := h
  show t__law_divisor K (EN Q) [some (.int a), some (.int 6)] H
  refine s_seq ?_
  refine while_by (fun σ H' => H' = H ∧ ∃ a' b', σ = [some (.int a'), some (.int b')] ∧ (0 ≤ a' ∨ 0 < b') ∧ 0 ≤ b' ∧ Int.gcd a' b' = Int.gcd a 6)
    (fun σ _ => match σ with | [_, some (.int b')] => b'.toNat | _ => 0) ⟨rfl, _, _, rfl, .inr (by decide), by decide, rfl⟩ ?_ (fun σ H Q Q' hQ h => ne_mono hQ h)
  rintro σ H' ⟨rfl, a', b', rfl, ha', hb', e⟩
  walk_at "rd"
  by_cases z : b' = 0
  · subst z
    have a0 : 0 ≤ a' := by omega
    refine iteN (by simp) ?_
    walk_at "rd"
    rw [if_neg (by omega)]
    rw [← e, gcd_end a0] at q
    exact q
  · refine iteY (by simp [z]) ?_
    have b0 : 0 < b' := by omega
    walk_at "rd"
    refine ⟨_, _, rfl, ?_⟩
    walk_at "rd"
    refine ⟨⟨rfl, b', a' % b', rfl, .inl (by omega), Int.emod_nonneg _ z, by rw [gcd_em, e]⟩, ?_⟩
    have h1 := Int.emod_lt_of_pos a' b0
    have h2 := Int.emod_nonneg a' z
    show (a' % b').toNat < b'.toNat
    omega
theorem rd__law_sixths (h : spSix K vs H Q E) : t__law_sixths K (EN Q) (start ["_law_top", "_law_share"] vs) H := by
  obtain ⟨t, rfl, q⟩ := h
  show t__law_sixths K (EN Q) [some (.int t), none] H
  walk_at "rd"
  refine ⟨t, rfl, ?_⟩
  obtain ⟨d0, dl, L, x1, y1⟩ := low2 (t := t) (b := 6) (d := (Int.gcd t 6 : Int)) (by decide) (by rw [if_neg (by decide)])
  have s6 : Sm 6 := (Sz.of (n := 10) (by decide) (by decide)).sm
  have cd : ∀ i, CDivB i (Int.gcd t 6 : Int) := fun i => ⟨d0, Nat.lt_of_le_of_lt dl s6⟩
  have cd1 := cd t
  have cd2 := cd 6
  walk_at "rd"
  exact s_al ln2 fun p H' s e => q _ H' s ⟨p, _, _, rfl, SqT.of e, L⟩
theorem rd_drawn2 {H0 : Hp} {a lt : Addr} {ns ts : List Int} {n : Nat} {v3 v4 v5 v6 : Option V} (S : SqL K H a (ns.map V.int)) (s : Same H0 H) (nt0 : H0 lt = none) (et : H lt = some (.lst (ts.map V.int))) (lt' : ts.length = n) (n1 : 1 ≤ n) (n8 : n ≤ 8)
    (q : ∀ l (ts : List Int) H', Same H0 H' → H' l = some (.lst (ts.map V.int)) → H0 l = none → 1 ≤ ts.length → ts.length ≤ 8 → (∃ t ∈ ts, 0 < t) → Q (.ref l) H') :
    (tSeq (tAsg (tOp (rI (fun _ j => 0 < j) fun i j => .int (i % j)) (tCall (spCell K) [] E0 (tCons (tVar 0) (tCons (tC (.int 2)) tNil))) (tVar 1)) (gName 4))
    (tSeq (tIfS (tTest (tOp (rI0 fun i j => .bl (decide (i < j))) (tOp (rIx K) (tVar 2) (tVar 4)) (tC (.int 1)))) (tAsg (tOp (rI0 fun i j => .int (i - j)) (tC (.int 1)) (tOp (rIx K) (tVar 2) (tVar 4))) (gSub (tVar 2) (tVar 4) rSetL)) tNext)
    (tRet (tVar 2)))) (EN Q) [some (.ref a), some (.int n), some (.ref lt), v3, v4, v5, v6] H := by
  walk_at "rd"
  refine ⟨_, _, _, rfl, S, by decide, fun z => ?_⟩
  have n0 : (0 : Int) < (n : Int) := by omega
  walk_at "rd"
  obtain ⟨p, ep, pl⟩ := place (m := z) (n := n) (by omega)
  rw [ep]
  have T := SqL.of (K := K) et
  have pl' : p < ts.length := by omega
  have gp : (ts.map V.int)[p]? = some (V.int ts[p]) := by simp [pl']
  refine s_ixSL T (atI_nat gp) ?_
  walk_at "rd"
  by_cases c : ts[p] < 1
  · refine iteY (decide_eq_true c) ?_
    walk_at "rd"
    refine s_ixSL T (atI_nat gp) ?_
    walk_at "rd"
    refine s_setL et (by rw [List.length_map]; exact pl') ?_
    walk_at "rd"
    exact q lt (ts.set p (1 - ts[p])) _ (s.updN nt0) (by rw [upd_same, List.map_set]) nt0 (by rw [List.length_set]; omega) (by rw [List.length_set]; omega) ⟨1 - ts[p], List.mem_set pl' _, by omega⟩
  · refine iteN (decide_eq_false c) ?_
    walk_at "rd"
    exact q lt ts H s et nt0 (by omega) (by omega) ⟨ts[p], List.getElem_mem _, by omega⟩
theorem pick3 {x y z j : Int} (j0 : 0 ≤ j) (j1 : j < 3) : ∃ f : Int, atI ([.int x, .int y, .int z] : List V) j = some (.int f) := by
  rcases (by omega : j = 0 ∨ j = 1 ∨ j = 2) with rfl | rfl | rfl
  · exact ⟨_, rfl⟩
  · exact ⟨_, rfl⟩
  · exact ⟨_, rfl⟩
theorem rd__law_drawn (h : spDrawn K vs H Q E) : t__law_drawn K (EN Q) (start ["_law_script", "_law_many", "_law_tops", "_law_k", "_law_at", "_law_number", "_law_more"] vs) H := by
  obtain ⟨a, ns, rfl, S, n63, q⟩ := h
  show t__law_drawn K (EN Q) [some (.ref a), none, none, none, none, none, none] H
  have le : (ns.map V.int).length = ns.length := List.length_map _
  walk_at "rd"
  refine ⟨_, _, _, rfl, S, by decide, fun z => ?_⟩
  walk_at "rd"
  have m0 := Int.emod_nonneg z (show (8 : Int) ≠ 0 by decide)
  have m1 := Int.emod_lt_of_pos z (show (0 : Int) < 8 by decide)
  obtain ⟨n, en, n1, n8⟩ : ∃ n : Nat, 1 + z % 8 = (n : Int) ∧ 1 ≤ n ∧ n ≤ 8 := ⟨(1 + z % 8).toNat, by omega, by omega, by omega⟩
  rw [en]
  have n0 : (0 : Int) < (n : Int) := by omega
  refine s_al ln1 fun l0 H1 s1 e1 => ?_
  walk_at "rd"
  refine s_rep (k := n) e1 (by omega) fun lt H2 nt s2 e2 => ?_
  have s12 := Same.trans s1 s2
  have S2 := s12.seq S
  have nt0 : H lt = none := s1.free nt
  walk_at "rd"
  rw [le]
  refine s_jR2 (by omega) (by omega) ?_
  refine for_range (fun i σ H' => (∃ v3 v5 v6, σ = [some (.ref a), some (.int n), some (.ref lt), v3, none, v5, v6]) ∧ Same H H' ∧ ∃ ts : List Int, H' lt = some (.lst (ts.map V.int)) ∧ ts.length = n) ⟨⟨_, _, _, rfl⟩, s12, List.replicate n 0, by rw [e2]; simp, by simp⟩ ?_ ?_
  · rintro i σ H3 hi ⟨⟨v3, v5, v6, rfl⟩, s3, ts, et, lt'⟩
    have S3 := s3.seq S
    have T3 := SqL.of (K := K) et
    refine s_gn (σ' := [some (.ref a), some (.int n), some (.ref lt), some (.int (3 + i)), none, v5, v6]) rfl ?_
    dsimp only
    obtain ⟨j, ej, jl⟩ : ∃ j : Nat, (3 : Int) + i = (j : Int) ∧ j < ns.length := ⟨3 + i, by omega, by omega⟩
    rw [ej]
    walk_at "rd"
    refine s_ixSL S3 (atI_nat (v := .int ns[j]) (by simp [jl])) ?_
    have c1 : CMulX ns[j] 48271 := cm (by decide)
    walk_at "rd"
    generalize ns[j] * 48271 % 2147483629 = m
    have d4 : CDivB m 4 := cd (by decide) (by decide)
    have c18 : CPow 10 18 := ⟨by decide, by decide, by decide⟩
    have c2 : CMulX m 982451653 := cm (by decide)
    have c3 : CMulX 12 (10 ^ (18 : Int).toNat) := cml (by decide)
    have c4 : CMulX 6 (10 ^ (18 : Int).toNat) := cml (by decide)
    walk_at "rd"
    refine s_al ln3 fun l3 H4 s4 e4 => ?_
    have T4 := s4.seq T3
    walk_at "rd"
    obtain ⟨f, hf⟩ := pick3 (x := 0) (y := m.fdiv 4 % 37 - 18) (z := m * 982451653 % (12 * 10 ^ (18 : Int).toNat + 1) - 6 * 10 ^ (18 : Int).toNat) (Int.emod_nonneg m (show (3 : Int) ≠ 0 by decide)) (Int.emod_lt_of_pos m (by decide))
    refine s_ixSL (SqL.of e4) hf ?_
    walk_at "rd"
    obtain ⟨p, ep, pl⟩ := place (m := (j : Int) - 3) (n := n) (by omega)
    rw [ep]
    have pl' : p < ts.length := by omega
    refine s_ixSL T4 (atI_nat (v := .int ts[p]) (by simp [pl'])) ?_
    walk_at "rd"
    rw [ep]
    refine s_setL (s4 _ _ et) (by rw [List.length_map]; exact pl') ?_
    exact ⟨⟨_, _, _, rfl⟩, (Same.trans s3 s4).updN nt0, ts.set p (ts[p] + f), by rw [upd_same, List.map_set], by rw [List.length_set]; exact lt'⟩
  · rintro σ H3 ⟨⟨v3, v5, v6, rfl⟩, s3, ts, et, lt'⟩
    have S3 := s3.seq S
    have T3 := SqL.of (K := K) et
    walk_at "rd"
    refine ⟨_, _, _, rfl, S3, by decide, fun z1 => ?_⟩
    walk_at "rd"
    by_cases c : z1 % 2 = 1
    · refine iteY (decide_eq_true c) ?_
      walk_at "rd"
      refine ⟨_, _, _, rfl, S3, by decide, fun z2 => ?_⟩
      have d16 : CDivB z2 16 := cd (by decide) (by decide)
      walk_at "rd"
      obtain ⟨p, ep, pl⟩ := place (m := z2.fdiv 16) (n := n) (by omega)
      rw [ep]
      have pl' : p < ts.length := by omega
      refine s_ixSL T3 (atI_nat (v := .int ts[p]) (by simp [pl'])) ?_
      walk_at "rd"
      refine ⟨_, _, _, rfl, S3, by decide, fun z3 => ?_⟩
      have d2 : CDivB z3 2 := cd (by decide) (by decide)
      walk_at "rd"
      obtain ⟨p', ep', pl2⟩ := place (m := z3.fdiv 2) (n := n) (by omega)
      rw [ep']
      refine s_setL et (by rw [List.length_map]; omega) ?_
      refine rd_drawn2 (ns := ns) (ts := ts.set p' ts[p]) ((s3.updN nt0).seq S) (s3.updN nt0) nt0 (by rw [upd_same, List.map_set]) (by rw [List.length_set]; exact lt') n1 n8 q
    · refine iteN (decide_eq_false c) ?_
      refine s_next ?_
      refine s_nx ?_
      exact rd_drawn2 S3 s3 nt0 et lt' n1 n8 q
end Md

end

section
set_option maxHeartbeats 4000000
namespace Md
open PySem L2 Fr
local macro_rules | `(tactic| walk_at "rd1") => `(tactic| first | ((with_reducible refine' s_set2 ?hs ?_); (case hs => ((simp only [List.set_cons_succ, List.set_cons_zero]) <;> exact rfl))) | ((with_reducible refine' s_set ?hs ?_); (case hs => ((simp only [List.set_cons_succ, List.set_cons_zero]) <;> exact rfl))) | (with_reducible refine s_seq ?_) | (with_reducible refine s_asg ?_) | (with_reducible refine s_if ?_) | (with_reducible refine s_asgG ?_) | (with_reducible refine s_gsub ?_) | (with_reducible refine s_sl ?_) | (with_reducible refine s_noPart ?_) | (with_reducible refine s_part ?_) | (with_reducible refine s_exI ?_) | (with_reducible refine s_ret ?_) | (with_reducible refine s_op ?_) | (with_reducible refine s_c ?_) | (with_reducible refine s_cons ?_) | (with_reducible refine s_nil ?_) | (with_reducible refine s_call ?_) | (with_reducible refine s_cb ?_) | (with_reducible refine s_test ?_) | (with_reducible refine s_b ?_) | (with_reducible refine s_and ?_) | (with_reducible refine s_or ?_) | (with_reducible refine s_not ?_) | (with_reducible refine s_andV ?_) | (with_reducible refine s_orV ?_) | (with_reducible refine s_notV ?_) | (with_reducible refine s_ifx ?_) | (with_reducible refine s_chain ?_) | (with_reducible refine s_un ?_) | (with_reducible refine s_tup ?_) | (with_reducible refine s_lst ?_) | (with_reducible refine s_drop ?_) | (with_reducible refine s_retN ?_) | (with_reducible refine s_next ?_) | (with_reducible refine s_break ?_) | (with_reducible refine s_cont ?_) | (with_reducible refine s_par ?_) | ((with_reducible refine' s_var ?hv ?_); (case hv => exact rfl)) | (with_reducible refine s_bl ?_) | (with_reducible refine s_rI0 ?_) | (with_reducible refine s_eqI ?_) | (with_reducible refine s_neI ?_) | (with_reducible refine s_eqB ?_) | (with_reducible refine s_rU ?_) | (with_reducible refine s_eqAI ?_) | (with_reducible refine s_neAI ?_) | (with_reducible refine s_eqAB ?_) | (with_reducible refine s_addI ?_) | ((with_reducible refine' s_ixST ?hq ?he ?_); (case hq => assumption); (case he => exact rfl)) | ((with_reducible refine' s_ixSL ?hq ?he ?_); (case hq => assumption); (case he => exact rfl)) | ((with_reducible refine' s_abs1 ?_)) | ((with_reducible refine' s_lenL ?hq ?_); (case hq => assumption)) | ((with_reducible refine' s_lenT ?hq ?_); (case hq => assumption)) | (with_reducible refine s_isN ?_) | (with_reducible refine s_for ?_) | (with_reducible refine s_iList ?_) | (with_reducible refine s_iTup ?_) | (with_reducible refine s_iR1 ?_) | (with_reducible refine s_iR2 ?_) | (with_reducible refine s_iEnum ?_) | (with_reducible refine s_iZip ?_) | ((with_reducible refine' s_jList ?hq ?_); (case hq => assumption)) | ((with_reducible refine' s_jTup ?hq ?_); (case hq => assumption)) | ((with_reducible refine' s_jEnum ?hq ?_); (case hq => assumption)) | ((with_reducible refine' s_jZip ?hq ?hr ?_); (case hq => assumption); (case hr => assumption)) | ((with_reducible refine' s_aug ?hv ?_); (case hv => exact rfl)) | (with_reducible refine s_augS ?_) | (with_reducible refine s_ipI ?_) | (with_reducible refine s_int1 ?_) | (with_reducible refine s_bm ?_) | (with_reducible refine s_bm0 ?_) | ((with_reducible refine' s_tyL ?hq ?_); (case hq => assumption)) | (with_reducible refine s_notN ?_) | (with_reducible refine s_min2 ?_) | (with_reducible refine s_max2 ?_) | (with_reducible refine s_nx ?_) | (with_reducible refine s_rt ?_) | (with_reducible refine s_bk ?_) | (with_reducible refine s_ct ?_) | (with_reducible refine iteT ?_) | (with_reducible refine iteNt ?_) | (with_reducible refine iteNf ?_) | ((with_reducible refine iteN ?hz ?_); (case hz => exact rfl)) | ((with_reducible refine iteY ?hz ?_); (case hz => exact rfl)) | (with_reducible refine iteF ?_) | ((with_reducible refine' s_ixT ?hq ?he ?_); (case hq => assumption); (case he => exact rfl)) | ((with_reducible refine' s_ixL ?hq ?he ?_); (case hq => assumption); (case he => exact rfl)) | ((with_reducible refine s_rI ?hc ?_); (case hc => first | assumption | exact mulOk (by assumption) (by assumption) | exact (show (0 : Int) < _ by decide) | omega)))
local macro_rules | `(tactic| walk_at "rd") => `(tactic| repeat walk_at "rd1")
variable {K : PySem.W.Frag} {c : Cs} {H : Hp} {vs : List V} {Q : VK} {E : XK}
theorem pk_one {w : Int} {ts : List Int} {j j' : Nat} (w0 : 0 ≤ w) (w3 : w < 3) (h : Pk w ts j) (h' : Pk w ts j') : j = j' := by
  obtain ⟨x, ex, x0, a, b⟩ := h
  obtain ⟨x', ex', x0', a', b'⟩ := h'
  rcases Nat.lt_trichotomy j j' with z | z | z
  · have h1 := a' j x z ex x0
    have h2 := b j' x' z ex' x0'
    rcases (by omega : w = 0 ∨ w = 1 ∨ w = 2) with rfl | rfl | rfl <;> simp [ahead, behind] at h1 h2 <;> omega
  · exact z
  · have h1 := a j' x' z ex' x0'
    have h2 := b' j x z ex x0
    rcases (by omega : w = 0 ∨ w = 1 ∨ w = 2) with rfl | rfl | rfl <;> simp [ahead, behind] at h1 h2 <;> omega
/-- as far as seen -/
def PkT (w : Int) (ts : List Int) (n j : Nat) : Prop := ∃ x, ts[j]? = some x ∧ 0 < x ∧ j < n ∧ (∀ (i : Nat) y, i < j → ts[i]? = some y → 0 < y → ahead w x y) ∧ (∀ (i : Nat) y, j < i → i < n → ts[i]? = some y → 0 < y → behind w x y)
theorem PkT.keep {w : Int} {ts : List Int} {n j : Nat} {x y : Int} (h : PkT w ts n j) (ex : ts[j]? = some x) (ey : ts[n]? = some y) (hb : 0 < y → behind w x y) : PkT w ts (n + 1) j := by
  obtain ⟨x', ex', x0, jn, a, b⟩ := h
  rw [ex] at ex'
  cases ex'
  refine ⟨x, ex, x0, by omega, a, fun i y' ji i1 e y0 => ?_⟩
  rcases (by omega : i < n ∨ i = n) with z | rfl
  · exact b i y' ji z e y0
  · rw [ey] at e
    cases e
    exact hb y0
theorem PkT.new {w : Int} {ts : List Int} {n j : Nat} {x y : Int} (h : PkT w ts n j) (ex : ts[j]? = some x) (ey : ts[n]? = some y) (y0 : 0 < y) (hx : ahead w y x) (h1 : ∀ z, ahead w x z → ahead w y z) (h2 : ∀ z, behind w x z → ahead w y z) : PkT w ts (n + 1) n := by
  obtain ⟨x', ex', x0, jn, a, b⟩ := h
  rw [ex] at ex'
  cases ex'
  refine ⟨y, ey, y0, by omega, fun i z hi e z0 => ?_, fun i z hi h3 => by omega⟩
  rcases Nat.lt_trichotomy i j with q | q | q
  · exact h1 z (a i z q e z0)
  · rw [q, ex] at e
    cases e
    exact hx
  · exact h2 z (b i z q hi e z0)
theorem rd__law_due (h : spDue K vs H Q E) : t__law_due K (EN Q) (start ["_law_tops", "_law_which", "_law_found", "_law_k"] vs) H := by
  obtain ⟨l, ts, w, rfl, S, w0, w3, l8, ⟨t0, m0, p0⟩, q⟩ := h
  show t__law_due K (EN Q) [some (.ref l), some (.int w), none, none] H
  have le : (ts.map V.int).length = ts.length := List.length_map _
  walk_at "rd"
  rw [le]
  refine s_jR1 (by omega) ?_
  rw [show ((ts.length : Int)).toNat = ts.length by omega]
  refine for_range (fun i σ H' => H' = H ∧ ∃ v3, (σ = [some (.ref l), some (.int w), some .non, v3] ∧ ∀ (i' : Nat) y, i' < i → ts[i']? = some y → y ≤ 0) ∨ (∃ j : Nat, σ = [some (.ref l), some (.int w), some (.int j), v3] ∧ PkT w ts i j)) ⟨rfl, none, .inl ⟨rfl, fun i' y h => by omega⟩⟩ ?_ ?_
  · rintro i σ H1 hi ⟨rfl, v3, hh⟩
    rw [show (0 : Int) + (i : Int) = (i : Int) from Int.zero_add _]
    obtain ⟨y, ey⟩ : ∃ y, ts[i]? = some y := ⟨ts[i], by simp⟩
    have gy : (ts.map V.int)[i]? = some (.int y) := by simp [ey]
    rcases hh with ⟨rfl, no⟩ | ⟨j, rfl, pk⟩
    · refine s_gn (σ' := [some (.ref l), some (.int w), some .non, some (.int i)]) rfl ?_
      dsimp only
      walk_at "rd"
      refine s_ixSL S (atI_nat gy) ?_
      walk_at "rd"
      by_cases c : 0 < y
      · refine iteY (decide_eq_true c) ?_
        walk_at "rd"
        refine ⟨rfl, _, .inr ⟨i, rfl, y, ey, c, by omega, fun i' z hi' e z0 => ?_, fun i' z h1 h2 => by omega⟩⟩
        have := no i' z hi' e
        omega
      · refine iteN (decide_eq_false c) ?_
        walk_at "rd"
        refine ⟨rfl, _, .inl ⟨rfl, fun i' z h1 e => ?_⟩⟩
        rcases (by omega : i' < i ∨ i' = i) with h | rfl
        · exact no i' z h e
        · rw [ey] at e
          cases e
          omega
    · obtain ⟨x, ex⟩ : ∃ x, ts[j]? = some x := by
        obtain ⟨x, ex, _⟩ := pk
        exact ⟨x, ex⟩
      have gx : (ts.map V.int)[j]? = some (.int x) := by simp [ex]
      refine s_gn (σ' := [some (.ref l), some (.int w), some (.int j), some (.int i)]) rfl ?_
      dsimp only
      walk_at "rd"
      refine s_ixSL S (atI_nat gy) ?_
      walk_at "rd"
      by_cases c : 0 < y
      · refine iteY (decide_eq_true c) ?_
        walk_at "rd"
        rcases (by omega : w = 0 ∨ w = 1 ∨ w = 2) with rfl | rfl | rfl
        · walk_at "rd"
          refine s_ixSL S (atI_nat gy) ?_
          walk_at "rd"
          refine s_ixSL S (atI_nat gx) ?_
          walk_at "rd"
          by_cases d : x < y
          · refine iteY (decide_eq_true d) ?_
            walk_at "rd"
            exact ⟨rfl, _, .inr ⟨i, rfl, pk.new ex ey c d (fun z (h : z < x) => show z < y by omega) (fun z (h : z ≤ x) => show z < y by omega)⟩⟩
          · refine iteN (decide_eq_false d) ?_
            walk_at "rd"
            exact ⟨rfl, _, .inr ⟨j, rfl, pk.keep ex ey fun _ => show y ≤ x by omega⟩⟩
        · walk_at "rd"
          exact ⟨rfl, _, .inr ⟨j, rfl, pk.keep ex ey fun _ => trivial⟩⟩
        · walk_at "rd"
          refine s_ixSL S (atI_nat gy) ?_
          walk_at "rd"
          refine s_ixSL S (atI_nat gx) ?_
          walk_at "rd"
          by_cases d : y < x
          · refine iteY (decide_eq_true d) ?_
            walk_at "rd"
            exact ⟨rfl, _, .inr ⟨i, rfl, pk.new ex ey c d (fun z (h : x < z) => show y < z by omega) (fun z (h : x ≤ z) => show y < z by omega)⟩⟩
          · refine iteN (decide_eq_false d) ?_
            walk_at "rd"
            exact ⟨rfl, _, .inr ⟨j, rfl, pk.keep ex ey fun _ => show x ≤ y by omega⟩⟩
      · refine iteN (decide_eq_false c) ?_
        walk_at "rd"
        exact ⟨rfl, _, .inr ⟨j, rfl, pk.keep ex ey fun h => absurd h c⟩⟩
  · rintro σ H1 ⟨rfl, v3, hh⟩
    rcases hh with ⟨rfl, no⟩ | ⟨j, rfl, x, ex, x0, jn, a, b⟩
    · obtain ⟨i0, h0, rfl⟩ := List.mem_iff_getElem.mp m0
      have := no i0 _ h0 (List.getElem?_eq_getElem h0)
      omega
    · walk_at "rd"
      exact q j ⟨x, ex, x0, a, fun i y ji e y0 => b i y ji (List.getElem?_eq_some_iff.mp e).1 e y0⟩
theorem Moods.same {cK cH cW lm : Addr} {H H' : Hp} (s : Same H H') (h : Moods cK cH cW H lm) : Moods cK cH cW H' lm := by
  obtain ⟨a, b, c, da, db, dc, e, e1, e2, e3⟩ := h
  exact ⟨a, b, c, da, db, dc, s _ _ e, s _ _ e1, s _ _ e2, s _ _ e3⟩
theorem s_methV {m : Str} {cs : List (Addr × Sp)} {E : XK} {ta : TE} {t : TA} {σ : St} (h : ta σ H fun x H1 => ∃ a C dx fs sp, x = .ref a ∧ H1 a = some (.ins C dx fs) ∧ fs.lookup m = none ∧ (C, sp) ∈ cs ∧ t σ H1 fun vs H2 => sp (x :: vs) H2 Q E) : tMethV m cs E ta t σ H Q := h
theorem sx_plain {H : Hp} {xs : List V} {ts : List Int} (h : All2 (SxS K H) xs ts) : xs.all plainV = true := by
  induction h with
  | nil => rfl
  | cons r _ ih =>
    obtain ⟨p, x, y, rfl, _⟩ := r
    rw [List.all_cons, ih]
    rfl
theorem rd__law_picks {cK cH cW : Addr} (h : spPicks K cK cH cW vs H Q E) : t__law_picks K cK cH cW (EN Q) (start ["_law_moods", "_law_tops", "_law_start", "_law_gains", "_law_handed", "_law_k", "_law_which", "_law_found"] vs) H := by
  obtain ⟨lm, l, ts, s, rfl, M, S, l8, pos, q⟩ := h
  show t__law_picks K cK cH cW (EN Q) [some (.ref lm), some (.ref l), some (.int s), none, none, none, none, none] H
  have le : (ts.map V.int).length = ts.length := List.length_map _
  refine s_seq ?_
  refine s_asg ?_
  refine s_comp (σ' := [none]) rfl ?_
  walk_at "rd"
  intro lg ng
  refine compL (xs := ts.map V.int) (fun i σ H' => (∃ v, σ = [v]) ∧ Same H H' ∧ ∃ ys, H' lg = some (.lst ys) ∧ All2 (SxS K H') ys (ts.take i)) ⟨⟨_, rfl⟩, Same.new ng, [], upd_same, .nil⟩ ?_ ?_ ?_
  · rintro i σ H1 _ ⟨_, s1, _⟩
    exact s1.seq S
  · rintro i z σ H1 hx ⟨⟨v, rfl⟩, s1, ys, ea, ay⟩
    rw [List.getElem?_map] at hx
    cases hy : ts[i]? with
    | none => rw [hy] at hx; cases hx
    | some y =>
      rw [hy] at hx
      cases hx
      have ly := ay.len
      rw [List.length_take] at ly
      refine s_gn (σ' := [some (.int y)]) rfl ?_
      refine blkN ?_
      walk_at "rd"
      refine ⟨y, rfl, fun v H2 s2 hv => ?_⟩
      have ea2 := s2 _ _ ea
      refine ⟨ys, ea2, Nat.lt_of_le_of_lt (show ys.length ≤ 8 by omega) (by decide), ⟨_, rfl⟩, (Same.trans s1 s2).updN ng, ys ++ [v], upd_same, ?_⟩
      rw [List.take_add_one, hy]
      exact ((ay.imp fun _ _ q => q.mono s2.tups).push hv).imp fun _ _ q => q.mono (Tups.lst ea2)
  rintro σ H1 ⟨_, s1, ys, eg, ay⟩
  rw [le, List.take_length] at ay
  have G1 := SqL.of (K := K) eg
  walk_at "rd"
  refine s_listL G1 fun lh H2 nh s2 eh => ?_
  have s12 := Same.trans s1 s2
  walk_at "rd"
  refine s_jR1 (by decide) ?_
  refine for_range (fun i σ H' => (∃ v5 v6 v7, σ = [some (.ref lm), some (.ref l), some (.int s), some (.ref lg), some (.ref lh), v5, v6, v7]) ∧ Same H2 H') ⟨⟨_, _, _, rfl⟩, Same.refl _⟩ ?_ ?_
  · rintro i σ H3 hi ⟨⟨v5, v6, v7, rfl⟩, s3⟩
    have s03 := Same.trans s12 s3
    have S3 := s03.seq S
    have ay3 : All2 (SxS K H3) ys ts := ay.imp fun _ _ z => z.mono (Same.trans s2 s3).tups
    have h3 := s3 _ _ eh
    have g3 := s3 _ _ (s2 _ _ eg)
    obtain ⟨a, b, c, da, db, dc, em, ea, eb, ec⟩ := M.same s03
    have M3 := SqL.of (K := K) em
    refine s_gn (σ' := [some (.ref lm), some (.ref l), some (.int s), some (.ref lg), some (.ref lh), some (.int (0 + i)), v6, v7]) rfl ?_
    dsimp only
    walk_at "rd"
    have w0 := Int.emod_nonneg (s + (0 + (i : Int))) (show (3 : Int) ≠ 0 by decide)
    have w3 := Int.emod_lt_of_pos (s + (0 + (i : Int))) (show (0 : Int) < 3 by decide)
    generalize (s + (0 + (i : Int))) % 3 = w at w0 w3 ⊢
    refine s_methV ?_
    walk_at "rd"
    rcases (by omega : w = 0 ∨ w = 1 ∨ w = 2) with rfl | rfl | rfl
    · refine s_ixSL M3 (v := .ref a) rfl ?_
      refine ⟨a, cK, da, [], _, rfl, ea, rfl, .head _, ?_⟩
      walk_at "rd"
      refine ⟨_, lh, ys, ts, rfl, SqL.of h3, ay3, l8, pos, fun j H4 s4 pk => ?_⟩
      walk_at "rd"
      refine ⟨_, _, rfl, .int _, ?_⟩
      walk_at "rd"
      refine ⟨l, ts, 0, rfl, s4.seq S3, by decide, by decide, l8, pos, fun j' pk' => ?_⟩
      have jj := pk_one (by decide) (by decide) pk pk'
      subst jj
      walk_at "rd"
      refine iteN (by simp) ?_
      walk_at "rd"
      refine .inr (.inr ⟨⟨lh, lg, ys, rfl, rfl, .inl ⟨SqL.of (s4 _ _ h3), SqL.of (s4 _ _ g3)⟩, sx_plain ay3⟩, ?_⟩)
      walk_at "rd"
      exact ⟨⟨_, _, _, rfl⟩, Same.trans s3 s4⟩
    · refine s_ixSL M3 (v := .ref b) rfl ?_
      refine ⟨b, cH, db, [], _, rfl, eb, rfl, .tail _ (.head _), ?_⟩
      walk_at "rd"
      refine ⟨_, lh, ys, ts, rfl, SqL.of h3, ay3, l8, pos, fun j H4 s4 pk => ?_⟩
      walk_at "rd"
      refine ⟨_, _, rfl, .int _, ?_⟩
      walk_at "rd"
      refine ⟨l, ts, 1, rfl, s4.seq S3, by decide, by decide, l8, pos, fun j' pk' => ?_⟩
      have jj := pk_one (by decide) (by decide) pk pk'
      subst jj
      walk_at "rd"
      refine iteN (by simp) ?_
      walk_at "rd"
      refine .inr (.inr ⟨⟨lh, lg, ys, rfl, rfl, .inl ⟨SqL.of (s4 _ _ h3), SqL.of (s4 _ _ g3)⟩, sx_plain ay3⟩, ?_⟩)
      walk_at "rd"
      exact ⟨⟨_, _, _, rfl⟩, Same.trans s3 s4⟩
    · refine s_ixSL M3 (v := .ref c) rfl ?_
      refine ⟨c, cW, dc, [], _, rfl, ec, rfl, .tail _ (.tail _ (.head _)), ?_⟩
      walk_at "rd"
      refine ⟨_, lh, ys, ts, rfl, SqL.of h3, ay3, l8, pos, fun j H4 s4 pk => ?_⟩
      walk_at "rd"
      refine ⟨_, _, rfl, .int _, ?_⟩
      walk_at "rd"
      refine ⟨l, ts, 2, rfl, s4.seq S3, by decide, by decide, l8, pos, fun j' pk' => ?_⟩
      have jj := pk_one (by decide) (by decide) pk pk'
      subst jj
      walk_at "rd"
      refine iteN (by simp) ?_
      walk_at "rd"
      refine .inr (.inr ⟨⟨lh, lg, ys, rfl, rfl, .inl ⟨SqL.of (s4 _ _ h3), SqL.of (s4 _ _ g3)⟩, sx_plain ay3⟩, ?_⟩)
      walk_at "rd"
      exact ⟨⟨_, _, _, rfl⟩, Same.trans s3 s4⟩
  · rintro σ H3 ⟨⟨v5, v6, v7, rfl⟩, s3⟩
    walk_at "rd"
    exact q H3 (Same.trans s12 s3)
theorem rd_law {cK cH cW : Addr} (oK : ObjC K cK) (oH : ObjC K cH) (oW : ObjC K cW) (iHK : PySem.W.kitOne K (.ref cH) (.ref cK) = some true) (iWK : PySem.W.kitOne K (.ref cW) (.ref cK) = some true) (iKH : PySem.W.kitOne K (.ref cK) (.ref cH) = some false) (iKW : PySem.W.kitOne K (.ref cK) (.ref cW) = some false) (iHW : PySem.W.kitOne K (.ref cH) (.ref cW) = some false) (iWH : PySem.W.kitOne K (.ref cW) (.ref cH) = some false)
    (h : spLaw K vs H Q E) : t_law K cK cH cW (EN Q) (start ["_law_script", "_law_tops", "_law_moods", "_law_start", "_law_at"] vs) H := by
  obtain ⟨a, ns, rfl, S, n63, q⟩ := h
  show t_law K cK cH cW (EN Q) [some (.ref a), none, none, none, none] H
  walk_at "rd"
  refine ⟨a, ns, rfl, S, n63, fun l ts H1 s1 e1 nl l1 l8 pos => ?_⟩
  walk_at "rd"
  refine s_newC fun xa da H2 na s2 ea => ?_
  walk_at "rd"
  refine s_newC fun xb db H3 nb s3 eb => ?_
  walk_at "rd"
  refine s_newC fun xc dc H4 nc s4 ec => ?_
  walk_at "rd"
  refine s_al ln3 fun lm H5 s5 em => ?_
  have s45 := Same.trans s4 s5
  have s25 := Same.trans s3 s45
  have s15 := Same.trans s2 s25
  have S5 := (Same.trans s1 s15).seq S
  have a5 := s25 _ _ ea
  have b5 := s45 _ _ eb
  have c5 := s5 _ _ ec
  have M5 : Moods cK cH cW H5 lm := ⟨xa, xb, xc, da, db, dc, em, a5, b5, c5⟩
  have L5 := SqL.of (K := K) em
  have e5 := s15 _ _ e1
  have T5 := SqL.of (K := K) e5
  have tyA : Ty K H5 (.ref xa) (.ref cK) := .of (.ins a5 oK.cl oK.ha oK.hn oK.ht oK.hm)
  have tyB : Ty K H5 (.ref xb) (.ref cH) := .of (.ins b5 oH.cl oH.ha oH.hn oH.ht oH.hm)
  have tyC : Ty K H5 (.ref xc) (.ref cW) := .of (.ins c5 oW.cl oW.ha oW.hn oW.ht oW.hm)
  walk_at "rd"
  refine ⟨_, _, _, _, true, rfl, tyB, .own _, iHK, ?_⟩
  walk_at "rd"
  refine ⟨_, _, _, _, true, rfl, tyC, .own _, iWK, ?_⟩
  walk_at "rd"
  refine ⟨_, _, _, _, false, rfl, tyA, .own _, iKH, ?_⟩
  walk_at "rd"
  refine ⟨_, _, _, _, false, rfl, tyA, .own _, iKW, ?_⟩
  walk_at "rd"
  refine ⟨_, _, _, _, false, rfl, tyB, .own _, iHW, ?_⟩
  walk_at "rd"
  refine ⟨_, _, _, _, false, rfl, tyC, .own _, iWH, ?_⟩
  walk_at "rd"
  refine ⟨_, _, _, rfl, S5, by decide, fun z => ?_⟩
  have d8 : CDivB z 8 := cd (by decide) (by decide)
  walk_at "rd"
  refine ⟨_, _, _, rfl, S5, by decide, fun z1 => ?_⟩
  have d128 : CDivB z1 128 := cd (by decide) (by decide)
  have le : (ts.map V.int).length = ts.length := List.length_map _
  have lpos : (0 : Int) < ((ts.map V.int).length : Int) := by omega
  walk_at "rd"
  obtain ⟨k, ek, kl⟩ := place (m := z1.fdiv 128) (n := (ts.map V.int).length) (by omega)
  rw [ek]
  refine ⟨lm, l, ts, _, rfl, M5, T5, l8, pos, fun H6 s6 => ?_⟩
  have T6 := s6.seq T5
  walk_at "rd"
  refine s_slL T6 fun p1 H7 _ s7 e7 => ?_
  walk_at "rd"
  refine s_slL (s7.seq T6) fun p2 H8 _ s8 e8 => ?_
  rw [cut_from] at e7
  rw [cut_to] at e8
  refine s_catL (SqL.of (s8 _ _ e7)) (SqL.of e8) (Nat.le_trans (show ((ts.map V.int).drop k).length + ((ts.map V.int).take k).length ≤ 16 by rw [List.length_drop, List.length_take]; omega) (by decide)) fun p3 H9 _ s9 e9 => ?_
  have s59 := Same.trans s6 (Same.trans s7 (Same.trans s8 s9))
  have e9' : H9 p3 = some (.lst ((ts.drop k ++ ts.take k).map V.int)) := by rw [e9, List.map_append, List.map_drop, List.map_take]
  walk_at "rd"
  refine ⟨lm, p3, ts.drop k ++ ts.take k, _, rfl, M5.same s59, SqL.of e9', by rw [List.length_append, List.length_drop, List.length_take]; omega, ?_, fun HA sA => ?_⟩
  · obtain ⟨t, ht, h0⟩ := pos
    rw [← List.take_append_drop k ts] at ht
    rcases List.mem_append.mp ht with ht | ht
    · exact ⟨t, List.mem_append.mpr (.inr ht), h0⟩
    · exact ⟨t, List.mem_append.mpr (.inl ht), h0⟩
  have s5A := Same.trans s59 sA
  walk_at "rd"
  exact ⟨lm, l, ts, _, rfl, M5.same s5A, s5A.seq T5, l8, pos, fun HB sB => q HB⟩
end Md

end

section
set_option maxHeartbeats 1000000
namespace Md
open PySem L2 Fr
def top (i : Nat) : Stmt := PySem.Challenge.pw_crowdroads_k41_moods.main.body.getD i (.Pass ⟨0, 0, 0, 0⟩)
def inCls (i j : Nat) : Stmt := match top i with
  | .ClassDef _ _ _ b _ _ _ _ _ _ _ => b.getD j (.Pass ⟨0, 0, 0, 0⟩)
  | z => z
/-- what the walk asks of the text's names -/
structure Txt (K : PySem.W.Frag) (mg : Str → Option Value) (c : Cs) (aN cK cH cW : Addr) : Prop where
  n_isinstance : mg "isinstance" = none
  n_int : mg "int" = none
  n_bool : mg "bool" = none
  n_list : mg "list" = none
  n_len : mg "len" = none
  n_abs : mg "abs" = none
  n_range : mg "range" = none
  n_enumerate : mg "enumerate" = none
  m_NOUGHT : mg "NOUGHT" = some (.ref aN)
  v_NOUGHT : ∀ H, Rp K H (.ref aN) (.tuple [.int 0, .int 1])
  m_Keen : mg "Keen" = some (.ref cK)
  o_Keen : ObjC K cK
  k_Keen : Mk0 K cK
  m_Hasty : mg "Hasty" = some (.ref cH)
  o_Hasty : ObjC K cH
  k_Hasty : Mk0 K cH
  m_Wary : mg "Wary" = some (.ref cW)
  o_Wary : ObjC K cW
  k_Wary : Mk0 K cW
  i_Hasty_Keen : PySem.W.kitOne K (.ref cH) (.ref cK) = some true
  i_Wary_Keen : PySem.W.kitOne K (.ref cW) (.ref cK) = some true
  i_Keen_Hasty : PySem.W.kitOne K (.ref cK) (.ref cH) = some false
  i_Keen_Wary : PySem.W.kitOne K (.ref cK) (.ref cW) = some false
  i_Hasty_Wary : PySem.W.kitOne K (.ref cH) (.ref cW) = some false
  i_Wary_Hasty : PySem.W.kitOne K (.ref cW) (.ref cH) = some false
variable {P : Program} {w : World} {K : PySem.W.Frag} {mg : Str → Option Value} {base : Heap} {c : Cs} {aN cK cH cW : Addr}
/-! ### is_less -/
abbrev s_is_less : Stmt := top 2
theorem sc_is_less : FnScope ["one", "other"] ["one", "other"] (defScope s_is_less) := ⟨rfl, rfl, rfl, by decide +kernel, rfl, by decide +kernel, by decide +kernel⟩
theorem ok_is_less (T : Txt K mg c aN cK cH cW)  {f : Addr} {fd : FuncData} (F : Fun K "is_less" "is_less" s_is_less f fd) : FnOk P w K mg base CX0 1 f fd ["one", "other"] (spLess K) := by
  refine F.ok sc_is_less (fun vs H Q E h => ?len) (fun cdv A outer s H vs Q E hr h => ?_)
  case len =>
    obtain ⟨_, _, _, _, rfl, _⟩ := h
    rfl
  have nd := sc_is_less.nd
  refine ⟨t_is_less K, ?_, rd_is_less  h⟩
  refine pss_one ?_
  refine ps_ret ?_
  refine pe_cmpR ?_ ?_ ?_ ?_
  · exact op_lt
  · refine pe_op ?_ ?_ ?_
    · exact op_mulX
    · refine pe_ix ?_ ?_ ?_ ?_
      · exact ix_seq
      · exact pv 0
      · exact pe_int
      exact fun _ _ => rfl
    refine pe_ix ?_ ?_ ?_ ?_
    · exact ix_seq
    · exact pv 1
    · exact pe_int
    exact fun _ _ => rfl
  · refine pe_op ?_ ?_ ?_
    · exact op_mulX
    · refine pe_ix ?_ ?_ ?_ ?_
      · exact ix_seq
      · exact pv 1
      · exact pe_int
      exact fun _ _ => rfl
    refine pe_ix ?_ ?_ ?_ ?_
    · exact ix_seq
    · exact pv 0
    · exact pe_int
    exact fun _ _ => rfl
  exact nomark _
/-! ### least_of -/
abbrev s_least_of : Stmt := top 3
theorem sc_least_of : FnScope ["amounts", "least", "amount"] ["amounts"] (defScope s_least_of) := ⟨rfl, rfl, rfl, by decide +kernel, rfl, by decide +kernel, by decide +kernel⟩
theorem ok_least_of (T : Txt K mg c aN cK cH cW) (C_is_less : Cal P w K mg base CX0 1 "is_less" (spLess K)) {f : Addr} {fd : FuncData} (F : Fun K "least_of" "least_of" s_least_of f fd) : FnOk P w K mg base CX0 2 f fd ["amounts"] (spLeast K) := by
  refine F.ok sc_least_of (fun vs H Q E h => ?len) (fun cdv A outer s H vs Q E hr h => ?_)
  case len =>
    obtain ⟨_, _, _, rfl, _⟩ := h
    rfl
  have nd := sc_least_of.nd
  refine ⟨t_least_of K, ?_, rd_least_of  h⟩
  refine pss_cons ?_ ?_
  · refine ps_st (i := 1) ?_
    refine pe_ix ?_ ?_ ?_ ?_
    · exact ix_seq
    · exact pv 0
    · exact pe_int
    exact fun _ _ => rfl
  refine pss_cons ?_ ?_
  · refine ps_for ?_ ?_ ?_ ?_ ?_
    · exact PassesOwn.never
    · rfl
    · refine pi_list ?_
      exact pv 0
    · exact pg_nm 2
    refine pss_one ?_
    refine ps_if ?_ ?_ ?_
    · refine pt_val ?_
      refine pe_cal (CX := CX0) (k := 1) ?_ ?_ ?_ ?_
      · exact C_is_less
      · exact hr.mono (by decide)
      · exact pass0
      refine pk ?_ ?_
      · exact pv 2
      refine pk ?_ ?_
      · exact pv 1
      exact pa_nil
    · refine pss_one ?_
      refine ps_st (i := 1) ?_
      exact pv 2
    exact pss_nil
  refine pss_one ?_
  refine ps_ret ?_
  exact pv 1
/-! ### Keen_pick -/
abbrev s_Keen_pick : Stmt := inCls 5 0
theorem sc_Keen_pick : FnScope ["self", "gains", "best", "place", "gain"] ["self", "gains"] (defScope s_Keen_pick) := ⟨rfl, rfl, rfl, by decide +kernel, rfl, by decide +kernel, by decide +kernel⟩
theorem ok_Keen_pick (T : Txt K mg c aN cK cH cW) (C_is_less : Cal P w K mg base CX0 1 "is_less" (spLess K)) {f : Addr} {fd : FuncData} (F : Fun K "pick" "Keen.pick" s_Keen_pick f fd) : FnOk P w K mg base CX0 2 f fd ["self", "gains"] (spPick K 0) := by
  refine F.ok sc_Keen_pick (fun vs H Q E h => ?len) (fun cdv A outer s H vs Q E hr h => ?_)
  case len =>
    obtain ⟨_, _, _, _, rfl, _⟩ := h
    rfl
  have nd := sc_Keen_pick.nd
  refine ⟨t_Keen_pick K, ?_, rd_Keen_pick  h⟩
  refine pss_cons ?_ ?_
  · refine ps_st (i := 2) ?_
    exact pe_int
  refine pss_cons ?_ ?_
  · refine ps_for ?_ ?_ ?_ ?_ ?_
    · exact PassesOwn.never
    · rfl
    · refine pi_enum ?_ ?_ ?_
      · rfl
      · exact T.n_enumerate
      refine pk ?_ ?_
      · exact pv 1
      exact pa_nil
    · refine pg_tup ?_ ?_
      · rfl
      refine pgs_cons ?_ ?_
      · exact pg_nm 3
      refine pgs_cons ?_ ?_
      · exact pg_nm 4
      exact pgs_nil
    refine pss_one ?_
    refine ps_if ?_ ?_ ?_
    · refine pt_val ?_
      refine pe_cal (CX := CX0) (k := 1) ?_ ?_ ?_ ?_
      · exact C_is_less
      · exact hr.mono (by decide)
      · exact pass0
      refine pk ?_ ?_
      · refine pe_ix ?_ ?_ ?_ ?_
        · exact ix_seq
        · exact pv 1
        · exact pv 2
        exact fun _ _ => rfl
      refine pk ?_ ?_
      · exact pv 4
      exact pa_nil
    · refine pss_one ?_
      refine ps_st (i := 2) ?_
      exact pv 3
    exact pss_nil
  refine pss_one ?_
  refine ps_ret ?_
  exact pv 2
/-! ### Hasty_pick -/
abbrev s_Hasty_pick : Stmt := inCls 6 0
theorem sc_Hasty_pick : FnScope ["self", "gains"] ["self", "gains"] (defScope s_Hasty_pick) := ⟨rfl, rfl, rfl, by decide +kernel, rfl, by decide +kernel, by decide +kernel⟩
theorem ok_Hasty_pick (T : Txt K mg c aN cK cH cW) (C_is_less : Cal P w K mg base CX0 1 "is_less" (spLess K)) {f : Addr} {fd : FuncData} (F : Fun K "pick" "Hasty.pick" s_Hasty_pick f fd) : FnOk P w K mg base CX0 2 f fd ["self", "gains"] (spPick K 1) := by
  refine F.ok sc_Hasty_pick (fun vs H Q E h => ?len) (fun cdv A outer s H vs Q E hr h => ?_)
  case len =>
    obtain ⟨_, _, _, _, rfl, _⟩ := h
    rfl
  have nd := sc_Hasty_pick.nd
  refine ⟨t_Hasty_pick K aN, ?_, rd_Hasty_pick T.v_NOUGHT h⟩
  refine pss_one ?_
  refine ps_ret ?_
  refine pe_ix ?_ ?_ ?_ ?_
  · exact ix_seq
  · refine pe_comp (own := ["place", "gain"]) (capt := []) (ix := []) ?_ ?_ ?_ ?_ ?_ ?_
    · rfl
    · refine CompScope.of rfl (by decide +kernel) (by decide +kernel) ?_ ?_ (by decide +kernel)
      · show ∀ y ∈ (_ : List (Str × NameKind)), y.2 = NameKind.free → (defScope s_Hasty_pick).names.lookup y.1 = some NameKind.cell
        decide +kernel
      · exact .nil
    · refine pi_enum ?_ ?_ ?_
      · rfl
      · exact T.n_enumerate
      refine pk ?_ ?_
      · exact pv 1
      exact pa_nil
    · intro s0 H0 C0 fp0
      refine pg_tup ?_ ?_
      · rfl
      refine pgs_cons ?_ ?_
      · exact pg_name (i := 0) (by show (["place", "gain"] : List Str).Nodup; decide +kernel) rfl (Or.inl rfl) (.inr rfl)
      refine pgs_cons ?_ ?_
      · exact pg_name (i := 1) (by show (["place", "gain"] : List Str).Nodup; decide +kernel) rfl (Or.inl rfl) (.inr rfl)
      exact pgs_nil
    · intro s0 H0 C0 fp0
      refine pf_one ?_
      refine pt_val ?_
      refine pe_cal (CX := CX0) (k := 1) ?_ ?_ ?_ ?_
      · exact C_is_less
      · exact hr.mono (by decide)
      · exact pass0
      refine pk ?_ ?_
      · exact pe_gr rfl T.m_NOUGHT
      refine pk ?_ ?_
      · exact pv 1
      exact pa_nil
    intro s0 H0 C0 fp0
    exact pv 0
  · exact pe_int
  exact fun _ _ => rfl
/-! ### Wary_pick -/
abbrev s_Wary_pick : Stmt := inCls 7 0
theorem sc_Wary_pick : FnScope ["self", "gains"] ["self", "gains"] (defScope s_Wary_pick) := ⟨rfl, rfl, rfl, by decide +kernel, rfl, by decide +kernel, by decide +kernel⟩
theorem ok_Wary_pick (T : Txt K mg c aN cK cH cW) (C_least_of : Cal P w K mg base CX0 2 "least_of" (spLeast K)) (C_is_less : Cal P w K mg base CX0 1 "is_less" (spLess K)) {f : Addr} {fd : FuncData} (F : Fun K "pick" "Wary.pick" s_Wary_pick f fd) : FnOk P w K mg base CX0 3 f fd ["self", "gains"] (spPick K 2) := by
  refine F.ok sc_Wary_pick (fun vs H Q E h => ?len) (fun cdv A outer s H vs Q E hr h => ?_)
  case len =>
    obtain ⟨_, _, _, _, rfl, _⟩ := h
    rfl
  have nd := sc_Wary_pick.nd
  refine ⟨t_Wary_pick K aN, ?_, rd_Wary_pick T.v_NOUGHT h⟩
  refine pss_one ?_
  refine ps_ret ?_
  refine pe_bm PySem.F.plainAttrs_list PySem.F.slot_list_index PySem.F.type_list_index ?_ ?_ ?_
  · exact mt_index hr.units1
  · exact pv 1
  refine pk ?_ ?_
  · refine pe_cal (CX := CX0) (k := 2) ?_ ?_ ?_ ?_
    · exact C_least_of
    · exact hr.mono (by decide)
    · exact pass0
    refine pk ?_ ?_
    · refine pe_comp (own := ["gain"]) (capt := []) (ix := []) ?_ ?_ ?_ ?_ ?_ ?_
      · rfl
      · refine CompScope.of rfl (by decide +kernel) (by decide +kernel) ?_ ?_ (by decide +kernel)
        · show ∀ y ∈ (_ : List (Str × NameKind)), y.2 = NameKind.free → (defScope s_Wary_pick).names.lookup y.1 = some NameKind.cell
          decide +kernel
        · exact .nil
      · refine pi_list ?_
        exact pv 1
      · intro s0 H0 C0 fp0
        exact pg_name (i := 0) (by show (["gain"] : List Str).Nodup; decide +kernel) rfl (Or.inl rfl) (.inr rfl)
      · intro s0 H0 C0 fp0
        refine pf_one ?_
        refine pt_val ?_
        refine pe_cal (CX := CX0) (k := 1) ?_ ?_ ?_ ?_
        · exact C_is_less
        · exact hr.mono (by decide)
        · exact pass0
        refine pk ?_ ?_
        · exact pe_gr rfl T.m_NOUGHT
        refine pk ?_ ?_
        · exact pv 0
        exact pa_nil
      intro s0 H0 C0 fp0
      exact pv 0
    exact pa_nil
  exact pa_nil
/-! ### _law_cell -/
abbrev s__law_cell : Stmt := top 9
theorem sc__law_cell : FnScope ["_law_script", "_law_k"] ["_law_script", "_law_k"] (defScope s__law_cell) := ⟨rfl, rfl, rfl, by decide +kernel, rfl, by decide +kernel, by decide +kernel⟩
theorem ok__law_cell (T : Txt K mg c aN cK cH cW)  {f : Addr} {fd : FuncData} (F : Fun K "_law_cell" "_law_cell" s__law_cell f fd) : FnOk P w K mg base CX0 1 f fd ["_law_script", "_law_k"] (spCell K) := by
  refine F.ok sc__law_cell (fun vs H Q E h => ?len) (fun cdv A outer s H vs Q E hr h => ?_)
  case len =>
    obtain ⟨_, _, _, rfl, _⟩ := h
    rfl
  have nd := sc__law_cell.nd
  refine ⟨t__law_cell K, ?_, rd__law_cell  h⟩
  refine pss_cons ?_ ?_
  · refine ps_if ?_ ?_ ?_
    · refine pt_cmpR ?_ ?_ ?_ ?_
      · exact op_lt
      · exact pv 1
      · refine pe_callB (id := "len") ?_ ?_ ?_ ?_ ?_
        · exact call_len
        · rfl
        · exact T.n_len
        · exact bt_len
        refine pk ?_ ?_
        · exact pv 0
        exact pa_nil
      exact nomark _
    · refine pss_one ?_
      refine ps_ret ?_
      refine pe_ix ?_ ?_ ?_ ?_
      · exact ix_seq
      · exact pv 0
      · exact pv 1
      exact fun _ _ => rfl
    exact pss_nil
  refine pss_one ?_
  refine ps_ret ?_
  exact pe_int
/-! ### _law_whole -/
abbrev s__law_whole : Stmt := top 10
theorem sc__law_whole : FnScope ["_law_found"] ["_law_found"] (defScope s__law_whole) := ⟨rfl, rfl, rfl, by decide +kernel, rfl, by decide +kernel, by decide +kernel⟩
theorem ok__law_whole (T : Txt K mg c aN cK cH cW)  {f : Addr} {fd : FuncData} (F : Fun K "_law_whole" "_law_whole" s__law_whole f fd) : FnOk P w K mg base CX0 1 f fd ["_law_found"] (spWhole K) := by
  refine F.ok sc__law_whole (fun vs H Q E h => ?len) (fun cdv A outer s H vs Q E hr h => ?_)
  case len =>
    obtain ⟨_, _, rfl, _⟩ := h
    rfl
  have nd := sc__law_whole.nd
  refine ⟨t__law_whole K, ?_, rd__law_whole  h⟩
  refine pss_one ?_
  refine ps_ret ?_
  refine pe_and ?_ ?_
  · refine pe_callB (id := "isinstance") ?_ ?_ ?_ ?_ ?_
    · exact call_isiK (K := K) rfl
    · rfl
    · exact T.n_isinstance
    · exact bt_isinstance
    refine pk ?_ ?_
    · exact pv 0
    refine pk ?_ ?_
    · exact pe_bt rfl T.n_int bt_int
    exact pa_nil
  refine pe_one ?_
  refine pe_not ?_
  refine pe_callB (id := "isinstance") ?_ ?_ ?_ ?_ ?_
  · exact call_isiK (K := K) rfl
  · rfl
  · exact T.n_isinstance
  · exact bt_isinstance
  refine pk ?_ ?_
  · exact pv 0
  refine pk ?_ ?_
  · exact pe_bt rfl T.n_bool bt_bool
  exact pa_nil
/-! ### _law_divisor -/
abbrev s__law_divisor : Stmt := top 11
theorem sc__law_divisor : FnScope ["_law_one", "_law_other"] ["_law_one", "_law_other"] (defScope s__law_divisor) := ⟨rfl, rfl, rfl, by decide +kernel, rfl, by decide +kernel, by decide +kernel⟩
theorem ok__law_divisor (T : Txt K mg c aN cK cH cW)  {f : Addr} {fd : FuncData} (F : Fun K "_law_divisor" "_law_divisor" s__law_divisor f fd) : FnOk P w K mg base CX0 1 f fd ["_law_one", "_law_other"] (spGcd6 K) := by
  refine F.ok sc__law_divisor (fun vs H Q E h => ?len) (fun cdv A outer s H vs Q E hr h => ?_)
  case len =>
    obtain ⟨_, rfl, _⟩ := h
    rfl
  have nd := sc__law_divisor.nd
  refine ⟨t__law_divisor K, ?_, rd__law_divisor  h⟩
  refine pss_cons ?_ ?_
  · refine ps_while ?_ ?_ ?_
    · exact PassesOwn.never
    · refine pt_cmpR ?_ ?_ ?_ ?_
      · exact op_neA hr.units
      · exact pv 1
      · exact pe_int
      exact nomark _
    refine pss_one ?_
    refine ps_pr (i := 0) (j := 1) ?_
    refine pk ?_ ?_
    · exact pv 1
    refine pk ?_ ?_
    · refine pe_op ?_ ?_ ?_
      · exact op_mod
      · exact pv 0
      exact pv 1
    exact pa_nil
  refine pss_one ?_
  refine ps_ret ?_
  refine pe_callB (id := "abs") ?_ ?_ ?_ ?_ ?_
  · exact call_abs
  · rfl
  · exact T.n_abs
  · exact bt_abs
  refine pk ?_ ?_
  · exact pv 0
  exact pa_nil
/-! ### _law_sixths -/
abbrev s__law_sixths : Stmt := top 12
theorem sc__law_sixths : FnScope ["_law_top", "_law_share"] ["_law_top"] (defScope s__law_sixths) := ⟨rfl, rfl, rfl, by decide +kernel, rfl, by decide +kernel, by decide +kernel⟩
theorem ok__law_sixths (T : Txt K mg c aN cK cH cW) (C__law_divisor : Cal P w K mg base CX0 1 "_law_divisor" (spGcd6 K)) {f : Addr} {fd : FuncData} (F : Fun K "_law_sixths" "_law_sixths" s__law_sixths f fd) : FnOk P w K mg base CX0 2 f fd ["_law_top"] (spSix K) := by
  refine F.ok sc__law_sixths (fun vs H Q E h => ?len) (fun cdv A outer s H vs Q E hr h => ?_)
  case len =>
    obtain ⟨_, rfl, _⟩ := h
    rfl
  have nd := sc__law_sixths.nd
  refine ⟨t__law_sixths K, ?_, rd__law_sixths  h⟩
  refine pss_cons ?_ ?_
  · refine ps_st (i := 1) ?_
    refine pe_cal (CX := CX0) (k := 1) ?_ ?_ ?_ ?_
    · exact C__law_divisor
    · exact hr.mono (by decide)
    · exact pass0
    refine pk ?_ ?_
    · exact pv 0
    refine pk ?_ ?_
    · exact pe_int
    exact pa_nil
  refine pss_one ?_
  refine ps_ret ?_
  refine pe_tup ?_
  refine pk ?_ ?_
  · refine pe_op ?_ ?_ ?_
    · exact op_fdivB
    · exact pv 0
    exact pv 1
  refine pk ?_ ?_
  · refine pe_op ?_ ?_ ?_
    · exact op_fdivB
    · exact pe_int
    exact pv 1
  exact pa_nil
/-! ### _law_drawn -/
abbrev s__law_drawn : Stmt := top 13
theorem sc__law_drawn : FnScope ["_law_script", "_law_many", "_law_tops", "_law_k", "_law_at", "_law_number", "_law_more"] ["_law_script"] (defScope s__law_drawn) := ⟨rfl, rfl, rfl, by decide +kernel, rfl, by decide +kernel, by decide +kernel⟩
theorem ok__law_drawn (T : Txt K mg c aN cK cH cW) (C__law_cell : Cal P w K mg base CX0 1 "_law_cell" (spCell K)) {f : Addr} {fd : FuncData} (F : Fun K "_law_drawn" "_law_drawn" s__law_drawn f fd) : FnOk P w K mg base CX0 2 f fd ["_law_script"] (spDrawn K) := by
  refine F.ok sc__law_drawn (fun vs H Q E h => ?len) (fun cdv A outer s H vs Q E hr h => ?_)
  case len =>
    obtain ⟨_, _, rfl, _⟩ := h
    rfl
  have nd := sc__law_drawn.nd
  refine ⟨t__law_drawn K, ?_, rd__law_drawn  h⟩
  refine pss_cons ?_ ?_
  · refine ps_st (i := 1) ?_
    refine pe_op ?_ ?_ ?_
    · exact op_addA
    · exact pe_int
    refine pe_op ?_ ?_ ?_
    · exact op_mod
    · refine pe_cal (CX := CX0) (k := 1) ?_ ?_ ?_ ?_
      · exact C__law_cell
      · exact hr.mono (by decide)
      · exact pass0
      refine pk ?_ ?_
      · exact pv 0
      refine pk ?_ ?_
      · exact pe_int
      exact pa_nil
    exact pe_int
  refine pss_cons ?_ ?_
  · refine ps_st (i := 2) ?_
    refine pe_op ?_ ?_ ?_
    · exact op_rep
    · refine pe_lst ?_
      refine pk ?_ ?_
      · exact pe_int
      exact pa_nil
    exact pv 1
  refine pss_cons ?_ ?_
  · refine ps_for ?_ ?_ ?_ ?_ ?_
    · exact PassesOwn.never
    · rfl
    · refine pi_range2 ?_ ?_ ?_
      · rfl
      · exact T.n_range
      refine pk ?_ ?_
      · exact pe_int
      refine pk ?_ ?_
      · refine pe_callB (id := "len") ?_ ?_ ?_ ?_ ?_
        · exact call_len
        · rfl
        · exact T.n_len
        · exact bt_len
        refine pk ?_ ?_
        · exact pv 0
        exact pa_nil
      exact pa_nil
    · exact pg_nm 3
    refine pss_cons ?_ ?_
    · refine ps_st (i := 5) ?_
      refine pe_op ?_ ?_ ?_
      · exact op_mod
      · refine pe_op ?_ ?_ ?_
        · exact op_mulX
        · refine pe_ix ?_ ?_ ?_ ?_
          · exact ix_seq
          · exact pv 0
          · exact pv 3
          exact fun _ _ => rfl
        exact pe_int
      exact pe_int
    refine pss_cons ?_ ?_
    · refine ps_st (i := 6) ?_
      refine pe_ix ?_ ?_ ?_ ?_
      · exact ix_seq
      · refine pe_lst ?_
        refine pk ?_ ?_
        · exact pe_int
        refine pk ?_ ?_
        · refine pe_op ?_ ?_ ?_
          · exact op_sub
          · refine pe_op ?_ ?_ ?_
            · exact op_mod
            · refine pe_op ?_ ?_ ?_
              · exact op_fdivB
              · exact pv 5
              exact pe_int
            exact pe_int
          exact pe_int
        refine pk ?_ ?_
        · refine pe_op ?_ ?_ ?_
          · exact op_sub
          · refine pe_op ?_ ?_ ?_
            · exact op_mod
            · refine pe_op ?_ ?_ ?_
              · exact op_mulX
              · exact pv 5
              exact pe_int
            refine pe_op ?_ ?_ ?_
            · exact op_addA
            · refine pe_op ?_ ?_ ?_
              · exact op_mulX
              · exact pe_int
              refine pe_op ?_ ?_ ?_
              · exact op_pow
              · exact pe_int
              exact pe_int
            exact pe_int
          refine pe_op ?_ ?_ ?_
          · exact op_mulX
          · exact pe_int
          refine pe_op ?_ ?_ ?_
          · exact op_pow
          · exact pe_int
          exact pe_int
        exact pa_nil
      · refine pe_op ?_ ?_ ?_
        · exact op_mod
        · exact pv 5
        exact pe_int
      exact fun _ _ => rfl
    refine pss_one ?_
    refine ps_asg ?_ ?_
    · refine pe_op ?_ ?_ ?_
      · exact op_addA
      · refine pe_ix ?_ ?_ ?_ ?_
        · exact ix_seq
        · exact pv 2
        · refine pe_op ?_ ?_ ?_
          · exact op_mod
          · refine pe_op ?_ ?_ ?_
            · exact op_sub
            · exact pv 3
            exact pe_int
          exact pv 1
        exact fun _ _ => rfl
      exact pv 6
    refine pg_sub ?_ ?_ ?_
    · exact pv 2
    · refine pe_op ?_ ?_ ?_
      · exact op_mod
      · refine pe_op ?_ ?_ ?_
        · exact op_sub
        · exact pv 3
        exact pe_int
      exact pv 1
    exact set_list
  refine pss_cons ?_ ?_
  · refine ps_if ?_ ?_ ?_
    · refine pt_cmpR ?_ ?_ ?_ ?_
      · exact op_eqA hr.units
      · refine pe_op ?_ ?_ ?_
        · exact op_mod
        · refine pe_cal (CX := CX0) (k := 1) ?_ ?_ ?_ ?_
          · exact C__law_cell
          · exact hr.mono (by decide)
          · exact pass0
          refine pk ?_ ?_
          · exact pv 0
          refine pk ?_ ?_
          · exact pe_int
          exact pa_nil
        exact pe_int
      · exact pe_int
      exact nomark _
    · refine pss_one ?_
      refine ps_asg ?_ ?_
      · refine pe_ix ?_ ?_ ?_ ?_
        · exact ix_seq
        · exact pv 2
        · refine pe_op ?_ ?_ ?_
          · exact op_mod
          · refine pe_op ?_ ?_ ?_
            · exact op_fdivB
            · refine pe_cal (CX := CX0) (k := 1) ?_ ?_ ?_ ?_
              · exact C__law_cell
              · exact hr.mono (by decide)
              · exact pass0
              refine pk ?_ ?_
              · exact pv 0
              refine pk ?_ ?_
              · exact pe_int
              exact pa_nil
            exact pe_int
          exact pv 1
        exact fun _ _ => rfl
      refine pg_sub ?_ ?_ ?_
      · exact pv 2
      · refine pe_op ?_ ?_ ?_
        · exact op_mod
        · refine pe_op ?_ ?_ ?_
          · exact op_fdivB
          · refine pe_cal (CX := CX0) (k := 1) ?_ ?_ ?_ ?_
            · exact C__law_cell
            · exact hr.mono (by decide)
            · exact pass0
            refine pk ?_ ?_
            · exact pv 0
            refine pk ?_ ?_
            · exact pe_int
            exact pa_nil
          exact pe_int
        exact pv 1
      exact set_list
    exact pss_nil
  refine pss_cons ?_ ?_
  · refine ps_st (i := 4) ?_
    refine pe_op ?_ ?_ ?_
    · exact op_mod
    · refine pe_cal (CX := CX0) (k := 1) ?_ ?_ ?_ ?_
      · exact C__law_cell
      · exact hr.mono (by decide)
      · exact pass0
      refine pk ?_ ?_
      · exact pv 0
      refine pk ?_ ?_
      · exact pe_int
      exact pa_nil
    exact pv 1
  refine pss_cons ?_ ?_
  · refine ps_if ?_ ?_ ?_
    · refine pt_cmpR ?_ ?_ ?_ ?_
      · exact op_lt
      · refine pe_ix ?_ ?_ ?_ ?_
        · exact ix_seq
        · exact pv 2
        · exact pv 4
        exact fun _ _ => rfl
      · exact pe_int
      exact nomark _
    · refine pss_one ?_
      refine ps_asg ?_ ?_
      · refine pe_op ?_ ?_ ?_
        · exact op_sub
        · exact pe_int
        refine pe_ix ?_ ?_ ?_ ?_
        · exact ix_seq
        · exact pv 2
        · exact pv 4
        exact fun _ _ => rfl
      refine pg_sub ?_ ?_ ?_
      · exact pv 2
      · exact pv 4
      exact set_list
    exact pss_nil
  refine pss_one ?_
  refine ps_ret ?_
  exact pv 2
/-! ### _law_due -/
abbrev s__law_due : Stmt := top 14
theorem sc__law_due : FnScope ["_law_tops", "_law_which", "_law_found", "_law_k"] ["_law_tops", "_law_which"] (defScope s__law_due) := ⟨rfl, rfl, rfl, by decide +kernel, rfl, by decide +kernel, by decide +kernel⟩
theorem ok__law_due (T : Txt K mg c aN cK cH cW)  {f : Addr} {fd : FuncData} (F : Fun K "_law_due" "_law_due" s__law_due f fd) : FnOk P w K mg base CX0 1 f fd ["_law_tops", "_law_which"] (spDue K) := by
  refine F.ok sc__law_due (fun vs H Q E h => ?len) (fun cdv A outer s H vs Q E hr h => ?_)
  case len =>
    obtain ⟨_, _, _, rfl, _⟩ := h
    rfl
  have nd := sc__law_due.nd
  refine ⟨t__law_due K, ?_, rd__law_due  h⟩
  refine pss_cons ?_ ?_
  · refine ps_st (i := 2) ?_
    exact pe_non
  refine pss_cons ?_ ?_
  · refine ps_for ?_ ?_ ?_ ?_ ?_
    · exact PassesOwn.never
    · rfl
    · refine pi_range1 ?_ ?_ ?_
      · rfl
      · exact T.n_range
      refine pk ?_ ?_
      · refine pe_callB (id := "len") ?_ ?_ ?_ ?_ ?_
        · exact call_len
        · rfl
        · exact T.n_len
        · exact bt_len
        refine pk ?_ ?_
        · exact pv 0
        exact pa_nil
      exact pa_nil
    · exact pg_nm 3
    refine pss_one ?_
    refine ps_if ?_ ?_ ?_
    · refine pt_cmpR ?_ ?_ ?_ ?_
      · exact op_gt
      · refine pe_ix ?_ ?_ ?_ ?_
        · exact ix_seq
        · exact pv 0
        · exact pv 3
        exact fun _ _ => rfl
      · exact pe_int
      exact nomark _
    · refine pss_one ?_
      refine ps_if ?_ ?_ ?_
      · refine pt_cmpR ?_ ?_ ?_ ?_
        · exact op_isN
        · exact pv 2
        · exact pe_non
        exact nomark _
      · refine pss_one ?_
        refine ps_st (i := 2) ?_
        exact pv 3
      refine pss_one ?_
      refine ps_if ?_ ?_ ?_
      · refine PW.pt ?_
        refine pw_and ?_ ?_
        · refine pt_cmpR ?_ ?_ ?_ ?_
          · exact op_eqA hr.units
          · exact pv 1
          · exact pe_int
          exact nomark _
        refine pw_and1 ?_
        refine pt_cmpR ?_ ?_ ?_ ?_
        · exact op_gt
        · refine pe_ix ?_ ?_ ?_ ?_
          · exact ix_seq
          · exact pv 0
          · exact pv 3
          exact fun _ _ => rfl
        · refine pe_ix ?_ ?_ ?_ ?_
          · exact ix_seq
          · exact pv 0
          · exact pv 2
          exact fun _ _ => rfl
        exact nomark _
      · refine pss_one ?_
        refine ps_st (i := 2) ?_
        exact pv 3
      refine pss_one ?_
      refine ps_if ?_ ?_ ?_
      · refine PW.pt ?_
        refine pw_and ?_ ?_
        · refine pt_cmpR ?_ ?_ ?_ ?_
          · exact op_eqA hr.units
          · exact pv 1
          · exact pe_int
          exact nomark _
        refine pw_and1 ?_
        refine pt_cmpR ?_ ?_ ?_ ?_
        · exact op_lt
        · refine pe_ix ?_ ?_ ?_ ?_
          · exact ix_seq
          · exact pv 0
          · exact pv 3
          exact fun _ _ => rfl
        · refine pe_ix ?_ ?_ ?_ ?_
          · exact ix_seq
          · exact pv 0
          · exact pv 2
          exact fun _ _ => rfl
        exact nomark _
      · refine pss_one ?_
        refine ps_st (i := 2) ?_
        exact pv 3
      exact pss_nil
    exact pss_nil
  refine pss_one ?_
  refine ps_ret ?_
  exact pv 2
/-! ### _law_picks -/
abbrev s__law_picks : Stmt := top 15
theorem sc__law_picks : FnScope ["_law_moods", "_law_tops", "_law_start", "_law_gains", "_law_handed", "_law_k", "_law_which", "_law_found"] ["_law_moods", "_law_tops", "_law_start"] (defScope s__law_picks) := ⟨rfl, rfl, rfl, by decide +kernel, rfl, by decide +kernel, by decide +kernel⟩
theorem ok__law_picks (T : Txt K mg c aN cK cH cW) (C__law_sixths : Cal P w K mg base CX0 2 "_law_sixths" (spSix K)) (C__law_whole : Cal P w K mg base CX0 1 "_law_whole" (spWhole K)) (C__law_due : Cal P w K mg base CX0 1 "_law_due" (spDue K)) (M_pick : ∀ z ∈ ([(cK, spPick K 0), (cH, spPick K 1), (cW, spPick K 2)] : List (Addr × Sp)), MethOk P w K mg base CX0 3 "pick" z.1 z.2) {f : Addr} {fd : FuncData} (F : Fun K "_law_picks" "_law_picks" s__law_picks f fd) : FnOk P w K mg base CX0 4 f fd ["_law_moods", "_law_tops", "_law_start"] (spPicks K cK cH cW) := by
  refine F.ok sc__law_picks (fun vs H Q E h => ?len) (fun cdv A outer s H vs Q E hr h => ?_)
  case len =>
    obtain ⟨_, _, _, _, rfl, _⟩ := h
    rfl
  have nd := sc__law_picks.nd
  refine ⟨t__law_picks K cK cH cW, ?_, rd__law_picks  h⟩
  refine pss_cons ?_ ?_
  · refine ps_comp (i := 3) (own := ["_law_top"]) (capt := []) (ix := []) ?_ ?_ ?_ ?_ ?_ ?_
    · rfl
    · refine CompScope.of rfl (by decide +kernel) (by decide +kernel) ?_ ?_ (by decide +kernel)
      · show ∀ y ∈ (_ : List (Str × NameKind)), y.2 = NameKind.free → (defScope s__law_picks).names.lookup y.1 = some NameKind.cell
        decide +kernel
      · exact .nil
    · refine pi_list ?_
      exact pv 1
    · intro s0 H0 C0 fp0
      exact pg_name (i := 0) (by show (["_law_top"] : List Str).Nodup; decide +kernel) rfl (Or.inl rfl) (.inr rfl)
    · intro s0 H0 C0 fp0
      exact pf_nil
    intro s0 H0 C0 fp0
    refine pe_cal (CX := CX0) (k := 2) ?_ ?_ ?_ ?_
    · exact C__law_sixths
    · exact hr.mono (by decide)
    · exact pass0
    refine pk ?_ ?_
    · exact pv 0
    exact pa_nil
  refine pss_cons ?_ ?_
  · refine ps_st (i := 4) ?_
    refine pe_callTy (T := "list") ?_ ?_ ?_ ?_ ?_
    · exact call_list_of
    · rfl
    · exact T.n_list
    · exact bt_list
    refine pk ?_ ?_
    · exact pv 3
    exact pa_nil
  refine pss_cons ?_ ?_
  · refine ps_for ?_ ?_ ?_ ?_ ?_
    · exact PassesOwn.never
    · rfl
    · refine pi_range1 ?_ ?_ ?_
      · rfl
      · exact T.n_range
      refine pk ?_ ?_
      · exact pe_int
      exact pa_nil
    · exact pg_nm 5
    refine pss_cons ?_ ?_
    · refine ps_st (i := 6) ?_
      refine pe_op ?_ ?_ ?_
      · exact op_mod
      · refine pe_op ?_ ?_ ?_
        · exact op_addA
        · exact pv 2
        exact pv 5
      exact pe_int
    refine pss_cons ?_ ?_
    · refine ps_st (i := 7) ?_
      refine pe_methV (CX := CX0) (k := 3) ?_ ?_ ?_ ?_ ?_
      · exact M_pick
      · exact hr.mono (by decide)
      · exact pass0
      · refine pe_ix ?_ ?_ ?_ ?_
        · exact ix_seq
        · exact pv 0
        · exact pv 6
        exact fun _ _ => rfl
      refine pk ?_ ?_
      · exact pv 4
      exact pa_nil
    refine pss_one ?_
    refine ps_if ?_ ?_ ?_
    · refine PW.pt ?_
      refine pw_or ?_ ?_
      · refine pt_not ?_
        refine pt_val ?_
        refine pe_cal (CX := CX0) (k := 1) ?_ ?_ ?_ ?_
        · exact C__law_whole
        · exact hr.mono (by decide)
        · exact pass0
        refine pk ?_ ?_
        · exact pv 7
        exact pa_nil
      refine pw_or ?_ ?_
      · refine pt_cmpR ?_ ?_ ?_ ?_
        · exact op_neA hr.units
        · exact pv 7
        · refine pe_cal (CX := CX0) (k := 1) ?_ ?_ ?_ ?_
          · exact C__law_due
          · exact hr.mono (by decide)
          · exact pass0
          refine pk ?_ ?_
          · exact pv 1
          refine pk ?_ ?_
          · exact pv 6
          exact pa_nil
        exact nomark _
      refine pw_or1 ?_
      refine pt_cmpR ?_ ?_ ?_ ?_
      · exact op_neA hr.units
      · exact pv 4
      · exact pv 3
      exact nomark _
    · refine pss_one ?_
      refine ps_ret ?_
      exact pe_bl
    exact pss_nil
  refine pss_one ?_
  refine ps_ret ?_
  exact pe_bl
/-! ### law -/
abbrev s_law : Stmt := top 16
theorem sc_law : FnScope ["_law_script", "_law_tops", "_law_moods", "_law_start", "_law_at"] ["_law_script"] (defScope s_law) := ⟨rfl, rfl, rfl, by decide +kernel, rfl, by decide +kernel, by decide +kernel⟩
theorem ok_law (T : Txt K mg c aN cK cH cW) (C__law_drawn : Cal P w K mg base CX0 2 "_law_drawn" (spDrawn K)) (C__law_picks : Cal P w K mg base CX0 4 "_law_picks" (spPicks K cK cH cW)) (C__law_cell : Cal P w K mg base CX0 1 "_law_cell" (spCell K)) {f : Addr} {fd : FuncData} (F : Fun K "law" "law" s_law f fd) : FnOk P w K mg base CX0 5 f fd ["_law_script"] (spLaw K) := by
  refine F.ok sc_law (fun vs H Q E h => ?len) (fun cdv A outer s H vs Q E hr h => ?_)
  case len =>
    obtain ⟨_, _, rfl, _⟩ := h
    rfl
  have nd := sc_law.nd
  refine ⟨t_law K cK cH cW, ?_, rd_law T.o_Keen T.o_Hasty T.o_Wary T.i_Hasty_Keen T.i_Wary_Keen T.i_Keen_Hasty T.i_Keen_Wary T.i_Hasty_Wary T.i_Wary_Hasty h⟩
  refine pss_cons ?_ ?_
  · refine ps_st (i := 1) ?_
    refine pe_cal (CX := CX0) (k := 2) ?_ ?_ ?_ ?_
    · exact C__law_drawn
    · exact hr.mono (by decide)
    · exact pass0
    refine pk ?_ ?_
    · exact pv 0
    exact pa_nil
  refine pss_cons ?_ ?_
  · refine ps_st (i := 2) ?_
    refine pe_lst ?_
    refine pk ?_ ?_
    · refine pe_new ?_ ?_ ?_
      · exact T.k_Keen
      · rfl
      exact T.m_Keen
    refine pk ?_ ?_
    · refine pe_new ?_ ?_ ?_
      · exact T.k_Hasty
      · rfl
      exact T.m_Hasty
    refine pk ?_ ?_
    · refine pe_new ?_ ?_ ?_
      · exact T.k_Wary
      · rfl
      exact T.m_Wary
    exact pa_nil
  refine pss_cons ?_ ?_
  · refine ps_if ?_ ?_ ?_
    · refine PW.pt ?_
      refine pw_or ?_ ?_
      · refine pt_not ?_
        refine pt_val ?_
        refine pe_callB (id := "isinstance") ?_ ?_ ?_ ?_ ?_
        · exact call_isiK (K := K) rfl
        · rfl
        · exact T.n_isinstance
        · exact bt_isinstance
        refine pk ?_ ?_
        · refine pe_ix ?_ ?_ ?_ ?_
          · exact ix_seq
          · exact pv 2
          · exact pe_int
          exact fun _ _ => rfl
        refine pk ?_ ?_
        · exact pe_gr rfl T.m_Keen
        exact pa_nil
      refine pw_or1 ?_
      refine pt_not ?_
      refine pt_val ?_
      refine pe_callB (id := "isinstance") ?_ ?_ ?_ ?_ ?_
      · exact call_isiK (K := K) rfl
      · rfl
      · exact T.n_isinstance
      · exact bt_isinstance
      refine pk ?_ ?_
      · refine pe_ix ?_ ?_ ?_ ?_
        · exact ix_seq
        · exact pv 2
        · exact pe_int
        exact fun _ _ => rfl
      refine pk ?_ ?_
      · exact pe_gr rfl T.m_Keen
      exact pa_nil
    · refine pss_one ?_
      refine ps_ret ?_
      exact pe_bl
    exact pss_nil
  refine pss_cons ?_ ?_
  · refine ps_if ?_ ?_ ?_
    · refine PW.pt ?_
      refine pw_or ?_ ?_
      · refine pt_val ?_
        refine pe_callB (id := "isinstance") ?_ ?_ ?_ ?_ ?_
        · exact call_isiK (K := K) rfl
        · rfl
        · exact T.n_isinstance
        · exact bt_isinstance
        refine pk ?_ ?_
        · refine pe_ix ?_ ?_ ?_ ?_
          · exact ix_seq
          · exact pv 2
          · exact pe_int
          exact fun _ _ => rfl
        refine pk ?_ ?_
        · exact pe_gr rfl T.m_Hasty
        exact pa_nil
      refine pw_or1 ?_
      refine pt_val ?_
      refine pe_callB (id := "isinstance") ?_ ?_ ?_ ?_ ?_
      · exact call_isiK (K := K) rfl
      · rfl
      · exact T.n_isinstance
      · exact bt_isinstance
      refine pk ?_ ?_
      · refine pe_ix ?_ ?_ ?_ ?_
        · exact ix_seq
        · exact pv 2
        · exact pe_int
        exact fun _ _ => rfl
      refine pk ?_ ?_
      · exact pe_gr rfl T.m_Wary
      exact pa_nil
    · refine pss_one ?_
      refine ps_ret ?_
      exact pe_bl
    exact pss_nil
  refine pss_cons ?_ ?_
  · refine ps_if ?_ ?_ ?_
    · refine PW.pt ?_
      refine pw_or ?_ ?_
      · refine pt_val ?_
        refine pe_callB (id := "isinstance") ?_ ?_ ?_ ?_ ?_
        · exact call_isiK (K := K) rfl
        · rfl
        · exact T.n_isinstance
        · exact bt_isinstance
        refine pk ?_ ?_
        · refine pe_ix ?_ ?_ ?_ ?_
          · exact ix_seq
          · exact pv 2
          · exact pe_int
          exact fun _ _ => rfl
        refine pk ?_ ?_
        · exact pe_gr rfl T.m_Wary
        exact pa_nil
      refine pw_or1 ?_
      refine pt_val ?_
      refine pe_callB (id := "isinstance") ?_ ?_ ?_ ?_ ?_
      · exact call_isiK (K := K) rfl
      · rfl
      · exact T.n_isinstance
      · exact bt_isinstance
      refine pk ?_ ?_
      · refine pe_ix ?_ ?_ ?_ ?_
        · exact ix_seq
        · exact pv 2
        · exact pe_int
        exact fun _ _ => rfl
      refine pk ?_ ?_
      · exact pe_gr rfl T.m_Hasty
      exact pa_nil
    · refine pss_one ?_
      refine ps_ret ?_
      exact pe_bl
    exact pss_nil
  refine pss_cons ?_ ?_
  · refine ps_st (i := 3) ?_
    refine pe_op ?_ ?_ ?_
    · exact op_fdivB
    · refine pe_cal (CX := CX0) (k := 1) ?_ ?_ ?_ ?_
      · exact C__law_cell
      · exact hr.mono (by decide)
      · exact pass0
      refine pk ?_ ?_
      · exact pv 0
      refine pk ?_ ?_
      · exact pe_int
      exact pa_nil
    exact pe_int
  refine pss_cons ?_ ?_
  · refine ps_st (i := 4) ?_
    refine pe_op ?_ ?_ ?_
    · exact op_mod
    · refine pe_op ?_ ?_ ?_
      · exact op_fdivB
      · refine pe_cal (CX := CX0) (k := 1) ?_ ?_ ?_ ?_
        · exact C__law_cell
        · exact hr.mono (by decide)
        · exact pass0
        refine pk ?_ ?_
        · exact pv 0
        refine pk ?_ ?_
        · exact pe_int
        exact pa_nil
      exact pe_int
    refine pe_callB (id := "len") ?_ ?_ ?_ ?_ ?_
    · exact call_len
    · rfl
    · exact T.n_len
    · exact bt_len
    refine pk ?_ ?_
    · exact pv 1
    exact pa_nil
  refine pss_cons ?_ ?_
  · refine ps_if ?_ ?_ ?_
    · refine PW.pt ?_
      refine pw_or ?_ ?_
      · refine pt_not ?_
        refine pt_val ?_
        refine pe_cal (CX := CX0) (k := 4) ?_ ?_ ?_ ?_
        · exact C__law_picks
        · exact hr.mono (by decide)
        · exact pass0
        refine pk ?_ ?_
        · exact pv 2
        refine pk ?_ ?_
        · exact pv 1
        refine pk ?_ ?_
        · exact pv 3
        exact pa_nil
      refine pw_or1 ?_
      refine pt_not ?_
      refine pt_val ?_
      refine pe_cal (CX := CX0) (k := 4) ?_ ?_ ?_ ?_
      · exact C__law_picks
      · exact hr.mono (by decide)
      · exact pass0
      refine pk ?_ ?_
      · exact pv 2
      refine pk ?_ ?_
      · refine pe_op ?_ ?_ ?_
        · exact op_addA
        · refine pe_slice ?_ ?_ ?_ ?_
          · exact sl_list
          · exact pv 1
          · refine po_some ?_
            exact pv 4
          · exact po_none
        refine pe_slice ?_ ?_ ?_ ?_
        · exact sl_list
        · exact pv 1
        · exact po_none
        · refine po_some ?_
          exact pv 4
      refine pk ?_ ?_
      · refine pe_op ?_ ?_ ?_
        · exact op_addA
        · exact pv 3
        exact pe_int
      exact pa_nil
    · refine pss_one ?_
      refine ps_ret ?_
      exact pe_bl
    exact pss_nil
  refine pss_one ?_
  refine ps_ret ?_
  refine pe_cal (CX := CX0) (k := 4) ?_ ?_ ?_ ?_
  · exact C__law_picks
  · exact hr.mono (by decide)
  · exact pass0
  refine pk ?_ ?_
  · exact pv 2
  refine pk ?_ ?_
  · exact pv 1
  refine pk ?_ ?_
  · refine pe_op ?_ ?_ ?_
    · exact op_addA
    · exact pv 3
    exact pe_int
  exact pa_nil
end Md

end

section
set_option maxHeartbeats 4000000
namespace Md
open PySem L2 Fr
theorem all_mk {l : PySem.W.OpenLaw} {w : World} {K : PySem.W.Frag} {h : Heap} {mg : Str → Option Value} {fa a_is_less a_least_of a_Keen_pick a_Hasty_pick a_Wary_pick a__law_cell a__law_whole a__law_divisor a__law_sixths a__law_drawn a__law_due a__law_picks a_law  aN cK cH cW : Addr} (X : K.In h) (G : h.Ns mainGlobals mg) (hfa : mg "law" = some (.ref fa))
    {od0 an0 : Option Addr} {sl0 : Array (Option Value)} {oc0 kV0 dc0 pm0 cd0 ct0 : Value}
    (a0 : PySem.W.nsIn K mainGlobals "is_less" = some (some (.ref a_is_less))) (l0 : K.lookup a_is_less = some ⟨oc0, od0, .func (PySem.W.fnOf "is_less" "is_less" (defArgs s_is_less) (defBody s_is_less) (defScope s_is_less) .none kV0 dc0 pm0 an0 cd0 ct0), sl0⟩) (c0 : PySem.W.codeIn K cd0 "is_less" = true) (k0 : PySem.W.keepIn K (.ref a_is_less) = true)
    {od1 an1 : Option Addr} {sl1 : Array (Option Value)} {oc1 kV1 dc1 pm1 cd1 ct1 : Value}
    (a1 : PySem.W.nsIn K mainGlobals "least_of" = some (some (.ref a_least_of))) (l1 : K.lookup a_least_of = some ⟨oc1, od1, .func (PySem.W.fnOf "least_of" "least_of" (defArgs s_least_of) (defBody s_least_of) (defScope s_least_of) .none kV1 dc1 pm1 an1 cd1 ct1), sl1⟩) (c1 : PySem.W.codeIn K cd1 "least_of" = true) (k1 : PySem.W.keepIn K (.ref a_least_of) = true)
    {od2 an2 : Option Addr} {sl2 : Array (Option Value)} {oc2 kV2 dc2 pm2 cd2 ct2 : Value}
    (a2 : PySem.W.findIn K (.ref cK) "pick" = some (some (.ref a_Keen_pick))) (h2 : PySem.W.isFn K (.ref a_Keen_pick) = true) (l2 : K.lookup a_Keen_pick = some ⟨oc2, od2, .func (PySem.W.fnOf "pick" "Keen.pick" (defArgs s_Keen_pick) (defBody s_Keen_pick) (defScope s_Keen_pick) .none kV2 dc2 pm2 an2 cd2 ct2), sl2⟩) (c2 : PySem.W.codeIn K cd2 "Keen.pick" = true) (k2 : PySem.W.keepIn K (.ref a_Keen_pick) = true)
    {od3 an3 : Option Addr} {sl3 : Array (Option Value)} {oc3 kV3 dc3 pm3 cd3 ct3 : Value}
    (a3 : PySem.W.findIn K (.ref cH) "pick" = some (some (.ref a_Hasty_pick))) (h3 : PySem.W.isFn K (.ref a_Hasty_pick) = true) (l3 : K.lookup a_Hasty_pick = some ⟨oc3, od3, .func (PySem.W.fnOf "pick" "Hasty.pick" (defArgs s_Hasty_pick) (defBody s_Hasty_pick) (defScope s_Hasty_pick) .none kV3 dc3 pm3 an3 cd3 ct3), sl3⟩) (c3 : PySem.W.codeIn K cd3 "Hasty.pick" = true) (k3 : PySem.W.keepIn K (.ref a_Hasty_pick) = true)
    {od4 an4 : Option Addr} {sl4 : Array (Option Value)} {oc4 kV4 dc4 pm4 cd4 ct4 : Value}
    (a4 : PySem.W.findIn K (.ref cW) "pick" = some (some (.ref a_Wary_pick))) (h4 : PySem.W.isFn K (.ref a_Wary_pick) = true) (l4 : K.lookup a_Wary_pick = some ⟨oc4, od4, .func (PySem.W.fnOf "pick" "Wary.pick" (defArgs s_Wary_pick) (defBody s_Wary_pick) (defScope s_Wary_pick) .none kV4 dc4 pm4 an4 cd4 ct4), sl4⟩) (c4 : PySem.W.codeIn K cd4 "Wary.pick" = true) (k4 : PySem.W.keepIn K (.ref a_Wary_pick) = true)
    {od5 an5 : Option Addr} {sl5 : Array (Option Value)} {oc5 kV5 dc5 pm5 cd5 ct5 : Value}
    (a5 : PySem.W.nsIn K mainGlobals "_law_cell" = some (some (.ref a__law_cell))) (l5 : K.lookup a__law_cell = some ⟨oc5, od5, .func (PySem.W.fnOf "_law_cell" "_law_cell" (defArgs s__law_cell) (defBody s__law_cell) (defScope s__law_cell) .none kV5 dc5 pm5 an5 cd5 ct5), sl5⟩) (c5 : PySem.W.codeIn K cd5 "_law_cell" = true) (k5 : PySem.W.keepIn K (.ref a__law_cell) = true)
    {od6 an6 : Option Addr} {sl6 : Array (Option Value)} {oc6 kV6 dc6 pm6 cd6 ct6 : Value}
    (a6 : PySem.W.nsIn K mainGlobals "_law_whole" = some (some (.ref a__law_whole))) (l6 : K.lookup a__law_whole = some ⟨oc6, od6, .func (PySem.W.fnOf "_law_whole" "_law_whole" (defArgs s__law_whole) (defBody s__law_whole) (defScope s__law_whole) .none kV6 dc6 pm6 an6 cd6 ct6), sl6⟩) (c6 : PySem.W.codeIn K cd6 "_law_whole" = true) (k6 : PySem.W.keepIn K (.ref a__law_whole) = true)
    {od7 an7 : Option Addr} {sl7 : Array (Option Value)} {oc7 kV7 dc7 pm7 cd7 ct7 : Value}
    (a7 : PySem.W.nsIn K mainGlobals "_law_divisor" = some (some (.ref a__law_divisor))) (l7 : K.lookup a__law_divisor = some ⟨oc7, od7, .func (PySem.W.fnOf "_law_divisor" "_law_divisor" (defArgs s__law_divisor) (defBody s__law_divisor) (defScope s__law_divisor) .none kV7 dc7 pm7 an7 cd7 ct7), sl7⟩) (c7 : PySem.W.codeIn K cd7 "_law_divisor" = true) (k7 : PySem.W.keepIn K (.ref a__law_divisor) = true)
    {od8 an8 : Option Addr} {sl8 : Array (Option Value)} {oc8 kV8 dc8 pm8 cd8 ct8 : Value}
    (a8 : PySem.W.nsIn K mainGlobals "_law_sixths" = some (some (.ref a__law_sixths))) (l8 : K.lookup a__law_sixths = some ⟨oc8, od8, .func (PySem.W.fnOf "_law_sixths" "_law_sixths" (defArgs s__law_sixths) (defBody s__law_sixths) (defScope s__law_sixths) .none kV8 dc8 pm8 an8 cd8 ct8), sl8⟩) (c8 : PySem.W.codeIn K cd8 "_law_sixths" = true) (k8 : PySem.W.keepIn K (.ref a__law_sixths) = true)
    {od9 an9 : Option Addr} {sl9 : Array (Option Value)} {oc9 kV9 dc9 pm9 cd9 ct9 : Value}
    (a9 : PySem.W.nsIn K mainGlobals "_law_drawn" = some (some (.ref a__law_drawn))) (l9 : K.lookup a__law_drawn = some ⟨oc9, od9, .func (PySem.W.fnOf "_law_drawn" "_law_drawn" (defArgs s__law_drawn) (defBody s__law_drawn) (defScope s__law_drawn) .none kV9 dc9 pm9 an9 cd9 ct9), sl9⟩) (c9 : PySem.W.codeIn K cd9 "_law_drawn" = true) (k9 : PySem.W.keepIn K (.ref a__law_drawn) = true)
    {od10 an10 : Option Addr} {sl10 : Array (Option Value)} {oc10 kV10 dc10 pm10 cd10 ct10 : Value}
    (a10 : PySem.W.nsIn K mainGlobals "_law_due" = some (some (.ref a__law_due))) (l10 : K.lookup a__law_due = some ⟨oc10, od10, .func (PySem.W.fnOf "_law_due" "_law_due" (defArgs s__law_due) (defBody s__law_due) (defScope s__law_due) .none kV10 dc10 pm10 an10 cd10 ct10), sl10⟩) (c10 : PySem.W.codeIn K cd10 "_law_due" = true) (k10 : PySem.W.keepIn K (.ref a__law_due) = true)
    {od11 an11 : Option Addr} {sl11 : Array (Option Value)} {oc11 kV11 dc11 pm11 cd11 ct11 : Value}
    (a11 : PySem.W.nsIn K mainGlobals "_law_picks" = some (some (.ref a__law_picks))) (l11 : K.lookup a__law_picks = some ⟨oc11, od11, .func (PySem.W.fnOf "_law_picks" "_law_picks" (defArgs s__law_picks) (defBody s__law_picks) (defScope s__law_picks) .none kV11 dc11 pm11 an11 cd11 ct11), sl11⟩) (c11 : PySem.W.codeIn K cd11 "_law_picks" = true) (k11 : PySem.W.keepIn K (.ref a__law_picks) = true)
    {od12 an12 : Option Addr} {sl12 : Array (Option Value)} {oc12 kV12 dc12 pm12 cd12 ct12 : Value}
    (a12 : PySem.W.nsIn K mainGlobals "law" = some (some (.ref a_law))) (l12 : K.lookup a_law = some ⟨oc12, od12, .func (PySem.W.fnOf "law" "law" (defArgs s_law) (defBody s_law) (defScope s_law) .none kV12 dc12 pm12 an12 cd12 ct12), sl12⟩) (c12 : PySem.W.codeIn K cd12 "law" = true) (k12 : PySem.W.keepIn K (.ref a_law) = true)
    (oG : PySem.W.specialIn K (.builtin "object.__class__") "__get__" = some (some (.builtin "getset_descriptor.__get__"))) (oT : PySem.W.takesIn K (.builtin "object.__class__") = some true)
    (o1Keen : PySem.W.nsIn K mainGlobals "Keen" = some (some (.ref cK))) (o2Keen : PySem.W.plainGet K cK Str.empty = true) (o3Keen : PySem.W.hasDictIn K cK = true) (o4Keen : PySem.W.plainOver K cK = true) (o5Keen : PySem.W.findIn K (.ref cK) "__setattr__" = some (some (.builtin "object.__setattr__")))
    (o6Keen : PySem.W.findIn K (.ref cK) "__class__" = some (some (.builtin "object.__class__"))) (o7Keen : PySem.W.mroIn K cK (.type "object") = some true) (o8Keen : PySem.W.makesIn K cK = true) (o9Keen : PySem.W.findIn K (.ref cK) "__init__" = some (some (.builtin "object.__init__"))) (oaKeen : PySem.W.keepIn K (.ref cK) = true) {cxKeen : ClassData} (obKeen : PySem.W.clsIn K cK = some cxKeen) (ocKeen : PySem.W.typeIn K (.ref cK) = some (.type "type"))
    (o1Hasty : PySem.W.nsIn K mainGlobals "Hasty" = some (some (.ref cH))) (o2Hasty : PySem.W.plainGet K cH Str.empty = true) (o3Hasty : PySem.W.hasDictIn K cH = true) (o4Hasty : PySem.W.plainOver K cH = true) (o5Hasty : PySem.W.findIn K (.ref cH) "__setattr__" = some (some (.builtin "object.__setattr__")))
    (o6Hasty : PySem.W.findIn K (.ref cH) "__class__" = some (some (.builtin "object.__class__"))) (o7Hasty : PySem.W.mroIn K cH (.type "object") = some true) (o8Hasty : PySem.W.makesIn K cH = true) (o9Hasty : PySem.W.findIn K (.ref cH) "__init__" = some (some (.builtin "object.__init__"))) (oaHasty : PySem.W.keepIn K (.ref cH) = true) {cxHasty : ClassData} (obHasty : PySem.W.clsIn K cH = some cxHasty) (ocHasty : PySem.W.typeIn K (.ref cH) = some (.type "type"))
    (o1Wary : PySem.W.nsIn K mainGlobals "Wary" = some (some (.ref cW))) (o2Wary : PySem.W.plainGet K cW Str.empty = true) (o3Wary : PySem.W.hasDictIn K cW = true) (o4Wary : PySem.W.plainOver K cW = true) (o5Wary : PySem.W.findIn K (.ref cW) "__setattr__" = some (some (.builtin "object.__setattr__")))
    (o6Wary : PySem.W.findIn K (.ref cW) "__class__" = some (some (.builtin "object.__class__"))) (o7Wary : PySem.W.mroIn K cW (.type "object") = some true) (o8Wary : PySem.W.makesIn K cW = true) (o9Wary : PySem.W.findIn K (.ref cW) "__init__" = some (some (.builtin "object.__init__"))) (oaWary : PySem.W.keepIn K (.ref cW) = true) {cxWary : ClassData} (obWary : PySem.W.clsIn K cW = some cxWary) (ocWary : PySem.W.typeIn K (.ref cW) = some (.type "type"))
    (oiHastyKeen : PySem.W.mroIn K cH (.ref cK) = some true) (xoHastyKeen : (cH == cK) = false)
    (oiWaryKeen : PySem.W.mroIn K cW (.ref cK) = some true) (xoWaryKeen : (cW == cK) = false)
    (oiKeenHasty : PySem.W.mroIn K cK (.ref cH) = some false) (xoKeenHasty : (cK == cH) = false)
    (oiKeenWary : PySem.W.mroIn K cK (.ref cW) = some false) (xoKeenWary : (cK == cW) = false)
    (oiHastyWary : PySem.W.mroIn K cH (.ref cW) = some false) (xoHastyWary : (cH == cW) = false)
    (oiWaryHasty : PySem.W.mroIn K cW (.ref cH) = some false) (xoWaryHasty : (cW == cH) = false)
    (z_isinstance : PySem.W.nsIn K mainGlobals "isinstance" = some none)
    (z_int : PySem.W.nsIn K mainGlobals "int" = some none)
    (z_bool : PySem.W.nsIn K mainGlobals "bool" = some none)
    (z_list : PySem.W.nsIn K mainGlobals "list" = some none)
    (z_len : PySem.W.nsIn K mainGlobals "len" = some none)
    (z_abs : PySem.W.nsIn K mainGlobals "abs" = some none)
    (z_range : PySem.W.nsIn K mainGlobals "range" = some none)
    (z_enumerate : PySem.W.nsIn K mainGlobals "enumerate" = some none)
    {od_NOUGHT : Option Addr} {sl_NOUGHT : Array (Option Value)} {n_NOUGHT : Nat} {tk_NOUGHT0 tk_NOUGHT1 : Tok} (q_NOUGHT : PySem.W.nsIn K mainGlobals "NOUGHT" = some (some (.ref aN))) (w_NOUGHT : K.lookup aN = some ⟨.type "tuple", od_NOUGHT, .seq #[.int 0 tk_NOUGHT0, .int 1 tk_NOUGHT1] n_NOUGHT, sl_NOUGHT⟩) :
    ∃ fd : FuncData, (∀ (s : Shared) (v : Value), BindsTo s fd ⟨[v], []⟩ [("_law_script", v)]) ∧ ∀ base : Heap, K.In base → base.Ns mainGlobals mg → FnOk l.prog w K mg base CX0 5 fa fd ["_law_script"] (spLaw K) := by
  have e := hfa.symm.trans (PySem.W.mg_of X G a12)
  cases e
  let c : Cs := ⟨fa, fa, fa, fa, fa, fa, fa, fa, fa, fa⟩
  have T : Txt K mg c aN cK cH cW :=
    ⟨PySem.W.mg_none_of X G z_isinstance, PySem.W.mg_none_of X G z_int, PySem.W.mg_none_of X G z_bool, PySem.W.mg_none_of X G z_list, PySem.W.mg_none_of X G z_len, PySem.W.mg_none_of X G z_abs, PySem.W.mg_none_of X G z_range, PySem.W.mg_none_of X G z_enumerate, PySem.W.mg_of X G q_NOUGHT, fun H => .tup (xs := [.int 0, .int 1]) (.inr ⟨_, _, _, w_NOUGHT, rfl, rfl, (by show 2 ≤ sizeLine; decide), .cons ⟨_, rfl⟩ (.cons ⟨_, rfl⟩ (.nil))⟩) (.cons (.int 0) (.cons (.int 1) (.nil))), PySem.W.mg_of X G o1Keen, ⟨⟨o2Keen, o3Keen, o4Keen, o5Keen⟩, o6Keen, oG, oT, o7Keen⟩, ⟨o8Keen, o9Keen, oaKeen⟩, PySem.W.mg_of X G o1Hasty, ⟨⟨o2Hasty, o3Hasty, o4Hasty, o5Hasty⟩, o6Hasty, oG, oT, o7Hasty⟩, ⟨o8Hasty, o9Hasty, oaHasty⟩, PySem.W.mg_of X G o1Wary, ⟨⟨o2Wary, o3Wary, o4Wary, o5Wary⟩, o6Wary, oG, oT, o7Wary⟩, ⟨o8Wary, o9Wary, oaWary⟩, kit_refN obKeen ocKeen oiHastyKeen xoHastyKeen, kit_refN obKeen ocKeen oiWaryKeen xoWaryKeen, kit_refN obHasty ocHasty oiKeenHasty xoKeenHasty, kit_refN obWary ocWary oiKeenWary xoKeenWary, kit_refN obWary ocWary oiHastyWary xoHastyWary, kit_refN obHasty ocHasty oiWaryHasty xoWaryHasty⟩
  have F0 := fun_mk (st := s_is_less) l0 c0 k0
  have b0 := F0.binds (ps := ["one", "other"]) fun _ _ _ _ _ _ us hl => match us, hl with | [_, _], _ => rfl
  have F1 := fun_mk (st := s_least_of) l1 c1 k1
  have b1 := F1.binds (ps := ["amounts"]) fun _ _ _ _ _ _ us hl => match us, hl with | [_], _ => rfl
  have F2 := fun_mk (st := s_Keen_pick) l2 c2 k2
  have b2 := F2.binds (ps := ["self", "gains"]) fun _ _ _ _ _ _ us hl => match us, hl with | [_, _], _ => rfl
  have F3 := fun_mk (st := s_Hasty_pick) l3 c3 k3
  have b3 := F3.binds (ps := ["self", "gains"]) fun _ _ _ _ _ _ us hl => match us, hl with | [_, _], _ => rfl
  have F4 := fun_mk (st := s_Wary_pick) l4 c4 k4
  have b4 := F4.binds (ps := ["self", "gains"]) fun _ _ _ _ _ _ us hl => match us, hl with | [_, _], _ => rfl
  have F5 := fun_mk (st := s__law_cell) l5 c5 k5
  have b5 := F5.binds (ps := ["_law_script", "_law_k"]) fun _ _ _ _ _ _ us hl => match us, hl with | [_, _], _ => rfl
  have F6 := fun_mk (st := s__law_whole) l6 c6 k6
  have b6 := F6.binds (ps := ["_law_found"]) fun _ _ _ _ _ _ us hl => match us, hl with | [_], _ => rfl
  have F7 := fun_mk (st := s__law_divisor) l7 c7 k7
  have b7 := F7.binds (ps := ["_law_one", "_law_other"]) fun _ _ _ _ _ _ us hl => match us, hl with | [_, _], _ => rfl
  have F8 := fun_mk (st := s__law_sixths) l8 c8 k8
  have b8 := F8.binds (ps := ["_law_top"]) fun _ _ _ _ _ _ us hl => match us, hl with | [_], _ => rfl
  have F9 := fun_mk (st := s__law_drawn) l9 c9 k9
  have b9 := F9.binds (ps := ["_law_script"]) fun _ _ _ _ _ _ us hl => match us, hl with | [_], _ => rfl
  have F10 := fun_mk (st := s__law_due) l10 c10 k10
  have b10 := F10.binds (ps := ["_law_tops", "_law_which"]) fun _ _ _ _ _ _ us hl => match us, hl with | [_, _], _ => rfl
  have F11 := fun_mk (st := s__law_picks) l11 c11 k11
  have b11 := F11.binds (ps := ["_law_moods", "_law_tops", "_law_start"]) fun _ _ _ _ _ _ us hl => match us, hl with | [_, _, _], _ => rfl
  have F12 := fun_mk (st := s_law) l12 c12 k12
  refine ⟨PySem.W.fnOf "law" "law" (defArgs s_law) (defBody s_law) (defScope s_law) .none kV12 dc12 pm12 an12 cd12 ct12, fun s v => .of_eq rfl, fun base _ _ => ?_⟩
  have C_is_less : Cal l.prog w K mg base CX0 1 "is_less" (spLess K) := ⟨_, _, _, ok_is_less T  F0, PySem.W.mg_of X G a0, k0, b0⟩
  have C_least_of : Cal l.prog w K mg base CX0 2 "least_of" (spLeast K) := ⟨_, _, _, ok_least_of T C_is_less F1, PySem.W.mg_of X G a1, k1, b1⟩
  have D_Keen_pick : MethOk l.prog w K mg base CX0 3 "pick" cK (spPick K 0) := ⟨T.o_Keen.cl, _, _, _, ⟨a2, h2, k2⟩, (ok_Keen_pick T C_is_less F2).mono (by decide), b2⟩
  have D_Hasty_pick : MethOk l.prog w K mg base CX0 3 "pick" cH (spPick K 1) := ⟨T.o_Hasty.cl, _, _, _, ⟨a3, h3, k3⟩, (ok_Hasty_pick T C_is_less F3).mono (by decide), b3⟩
  have D_Wary_pick : MethOk l.prog w K mg base CX0 3 "pick" cW (spPick K 2) := ⟨T.o_Wary.cl, _, _, _, ⟨a4, h4, k4⟩, (ok_Wary_pick T C_least_of C_is_less F4).mono (by decide), b4⟩
  have C__law_cell : Cal l.prog w K mg base CX0 1 "_law_cell" (spCell K) := ⟨_, _, _, ok__law_cell T  F5, PySem.W.mg_of X G a5, k5, b5⟩
  have C__law_whole : Cal l.prog w K mg base CX0 1 "_law_whole" (spWhole K) := ⟨_, _, _, ok__law_whole T  F6, PySem.W.mg_of X G a6, k6, b6⟩
  have C__law_divisor : Cal l.prog w K mg base CX0 1 "_law_divisor" (spGcd6 K) := ⟨_, _, _, ok__law_divisor T  F7, PySem.W.mg_of X G a7, k7, b7⟩
  have C__law_sixths : Cal l.prog w K mg base CX0 2 "_law_sixths" (spSix K) := ⟨_, _, _, ok__law_sixths T C__law_divisor F8, PySem.W.mg_of X G a8, k8, b8⟩
  have C__law_drawn : Cal l.prog w K mg base CX0 2 "_law_drawn" (spDrawn K) := ⟨_, _, _, ok__law_drawn T C__law_cell F9, PySem.W.mg_of X G a9, k9, b9⟩
  have C__law_due : Cal l.prog w K mg base CX0 1 "_law_due" (spDue K) := ⟨_, _, _, ok__law_due T  F10, PySem.W.mg_of X G a10, k10, b10⟩
  have M_pick : ∀ z ∈ ([(cK, spPick K 0), (cH, spPick K 1), (cW, spPick K 2)] : List (Addr × Sp)), MethOk l.prog w K mg base CX0 3 "pick" z.1 z.2 := by
    intro z hz
    simp only [List.mem_cons, List.not_mem_nil, or_false] at hz
    rcases hz with rfl | rfl | rfl
    · exact D_Keen_pick
    · exact D_Hasty_pick
    · exact D_Wary_pick
  have C__law_picks : Cal l.prog w K mg base CX0 4 "_law_picks" (spPicks K cK cH cW) := ⟨_, _, _, ok__law_picks T C__law_sixths C__law_whole C__law_due M_pick F11, PySem.W.mg_of X G a11, k11, b11⟩
  exact ok_law T C__law_drawn C__law_picks C__law_cell F12
theorem walk {l : PySem.W.OpenLaw} {q : Program} {loose : List Str} {XP : (Str → Option Value) → Heap → Prop} {YP : World → Heap → Prop} {d : DefRec} {K : Params → PySem.W.Frag} (hn : l.most = some 63) (hdf : d.params.defaults = [])
    (hY : ∀ (w : World) (h : Heap), YP w h → (K w.params).In h)
    (F : ∀ (w : World) (mg : Str → Option Value) (fa : Addr) (h : Heap), (K w.params).In h → h.Ns mainGlobals mg → mg d.name = some (.ref fa) →
      ∃ fd : FuncData, (∀ (s : Shared) (u : Value), BindsTo s fd ⟨[u], []⟩ [("_law_script", u)]) ∧ ∀ base : Heap, (K w.params).In base → base.Ns mainGlobals mg → FnOk l.prog w (K w.params) mg base CX0 5 fa fd ["_law_script"] (spLaw (K w.params))) :
    PySem.W.WalkO q loose XP YP l.row.toRowW d [] (fun f vs => PySem.call f vs) :=
  L2.walk_of (n := 63) (k := 5) (x := "_law_script") (CX := fun _ => CX0) (sp := fun w => spLaw (K w.params)) hn (by decide) hdf ⟨rfl, by decide, by decide⟩ hY F (fun _ _ a ns hl _ hS => ⟨a, ns, rfl, hS, hl, fun _ => rfl⟩) fun _ _ _ _ _ z => z
end Md
open PySem PySem.W PyProof.Rows
set_option maxRecDepth 100000 in
set_option maxHeartbeats 0 in
theorem PySem.Challenge.cw_crowdroads_k41_moods_holds : PySem.Challenge.rw_crowdroads_k41_moods.Holds := by
  w_on; o_law; k_head; (case hw => w_witness2)
  k_fill
  refine Md.walk (l := PySem.Challenge.rw_crowdroads_k41_moods) rfl rfl (fun w h Y => PySem.W.kIn_of Y) ?F
  case F =>
    intro w mg fa h KX G hmg
    refine' Md.all_mk KX G hmg ?a0 ?l0 ?c0 ?k0 ?a1 ?l1 ?c1 ?k1 ?a2 ?h2 ?l2 ?c2 ?k2 ?a3 ?h3 ?l3 ?c3 ?k3 ?a4 ?h4 ?l4 ?c4 ?k4 ?a5 ?l5 ?c5 ?k5 ?a6 ?l6 ?c6 ?k6 ?a7 ?l7 ?c7 ?k7 ?a8 ?l8 ?c8 ?k8 ?a9 ?l9 ?c9 ?k9 ?a10 ?l10 ?c10 ?k10 ?a11 ?l11 ?c11 ?k11 ?a12 ?l12 ?c12 ?k12 ?oG ?oT ?o1Keen ?o2Keen ?o3Keen ?o4Keen ?o5Keen ?o6Keen ?o7Keen ?o8Keen ?o9Keen ?oaKeen ?obKeen ?ocKeen ?o1Hasty ?o2Hasty ?o3Hasty ?o4Hasty ?o5Hasty ?o6Hasty ?o7Hasty ?o8Hasty ?o9Hasty ?oaHasty ?obHasty ?ocHasty ?o1Wary ?o2Wary ?o3Wary ?o4Wary ?o5Wary ?o6Wary ?o7Wary ?o8Wary ?o9Wary ?oaWary ?obWary ?ocWary ?oiHastyKeen ?xoHastyKeen ?oiWaryKeen ?xoWaryKeen ?oiKeenHasty ?xoKeenHasty ?oiKeenWary ?xoKeenWary ?oiHastyWary ?xoHastyWary ?oiWaryHasty ?xoWaryHasty ?z_isinstance ?z_int ?z_bool ?z_list ?z_len ?z_abs ?z_range ?z_enumerate ?q_NOUGHT ?w_NOUGHT
    (case o1Keen => k_is)
    (case o1Hasty => k_is)
    (case o1Wary => k_is)
    (case a0 => k_is)
    (case l0 => k_is)
    (case c0 => k_is)
    (case k0 => k_is)
    (case a1 => k_is)
    (case l1 => k_is)
    (case c1 => k_is)
    (case k1 => k_is)
    (case a2 => k_is)
    (case h2 => k_is)
    (case l2 => k_is)
    (case c2 => k_is)
    (case k2 => k_is)
    (case a3 => k_is)
    (case h3 => k_is)
    (case l3 => k_is)
    (case c3 => k_is)
    (case k3 => k_is)
    (case a4 => k_is)
    (case h4 => k_is)
    (case l4 => k_is)
    (case c4 => k_is)
    (case k4 => k_is)
    (case a5 => k_is)
    (case l5 => k_is)
    (case c5 => k_is)
    (case k5 => k_is)
    (case a6 => k_is)
    (case l6 => k_is)
    (case c6 => k_is)
    (case k6 => k_is)
    (case a7 => k_is)
    (case l7 => k_is)
    (case c7 => k_is)
    (case k7 => k_is)
    (case a8 => k_is)
    (case l8 => k_is)
    (case c8 => k_is)
    (case k8 => k_is)
    (case a9 => k_is)
    (case l9 => k_is)
    (case c9 => k_is)
    (case k9 => k_is)
    (case a10 => k_is)
    (case l10 => k_is)
    (case c10 => k_is)
    (case k10 => k_is)
    (case a11 => k_is)
    (case l11 => k_is)
    (case c11 => k_is)
    (case k11 => k_is)
    (case a12 => k_is)
    (case l12 => k_is)
    (case c12 => k_is)
    (case k12 => k_is)
    (case oG => k_is)
    (case oT => k_is)
    (case o2Keen => k_is)
    (case o3Keen => k_is)
    (case o4Keen => k_is)
    (case o5Keen => k_is)
    (case o6Keen => k_is)
    (case o7Keen => k_is)
    (case o8Keen => k_is)
    (case o9Keen => k_is)
    (case oaKeen => k_is)
    (case obKeen => k_is)
    (case ocKeen => k_is)
    (case o2Hasty => k_is)
    (case o3Hasty => k_is)
    (case o4Hasty => k_is)
    (case o5Hasty => k_is)
    (case o6Hasty => k_is)
    (case o7Hasty => k_is)
    (case o8Hasty => k_is)
    (case o9Hasty => k_is)
    (case oaHasty => k_is)
    (case obHasty => k_is)
    (case ocHasty => k_is)
    (case o2Wary => k_is)
    (case o3Wary => k_is)
    (case o4Wary => k_is)
    (case o5Wary => k_is)
    (case o6Wary => k_is)
    (case o7Wary => k_is)
    (case o8Wary => k_is)
    (case o9Wary => k_is)
    (case oaWary => k_is)
    (case obWary => k_is)
    (case ocWary => k_is)
    (case oiHastyKeen => k_is)
    (case xoHastyKeen => decide)
    (case oiWaryKeen => k_is)
    (case xoWaryKeen => decide)
    (case oiKeenHasty => k_is)
    (case xoKeenHasty => decide)
    (case oiKeenWary => k_is)
    (case xoKeenWary => decide)
    (case oiHastyWary => k_is)
    (case xoHastyWary => decide)
    (case oiWaryHasty => k_is)
    (case xoWaryHasty => decide)
    (case z_isinstance => k_is)
    (case z_int => k_is)
    (case z_bool => k_is)
    (case z_list => k_is)
    (case z_len => k_is)
    (case z_abs => k_is)
    (case z_range => k_is)
    (case z_enumerate => k_is)
    (case q_NOUGHT => k_is)
    (case w_NOUGHT => k_is)

end

