import PyProof.Rows.All
import Wide.All
import OpenK.AllK
import Wide.FinOn
import Lean
import PyProof.EqAt
import PyProof.EqKinds
import PyProof.TupleCall
import PySem.Challenge.RW_crowdroads_k51_works_done
import PyProof.Rows.SumAny
import PyProof.Rows.SortWalk
import PyProof.ConsumeWalk
set_option Elab.async false
set_option linter.all false
set_option maxRecDepth 100000
/-! THE HAND LAYER, for ints, bools, texts, own classes, LISTS and tuples (index, slices, in, append, pop ..), calls, loops. Paste it whole ahead of your own text; what your proof does not reach may be deleted. -/
namespace L2
open PySem PySem.Spec PyProof.Rows

/-- a key: an int or a str -/
abbrev Key := Sum Int Str
def keyIs : Key → Value → Bool
  | .inl k, v => Value.isInt k v
  | .inr x, v => Value.isStrOf x v
def keyH (w : World) : Key → Int
  | .inl k => hashInt k
  | .inr x => hashStr w x
theorem keyIs_shape : ∀ {k : Key} {v : Value}, keyIs k v = true → (∃ i t, k = Sum.inl i ∧ v = Value.int i t) ∨ (∃ x t, k = Sum.inr x ∧ v = Value.str x t)
  | .inl i, v, h => by
    obtain ⟨t, e⟩ := Value.isInt_shape (k := i) (v := v) h
    exact .inl ⟨i, t, rfl, e⟩
  | .inr x, v, h => by
    obtain ⟨t, e⟩ := Value.isStrOf_shape (x := x) (v := v) h
    exact .inr ⟨x, t, rfl, e⟩
theorem key_ll (a b : Int) : decide ((Sum.inl a : Key) = Sum.inl b) = (a == b) := by
  by_cases e : a = b
  · subst e; simp
  · have h : ¬ (Sum.inl a : Key) = Sum.inl b := fun q => e (Sum.inl.inj q)
    rw [decide_eq_false h]
    exact (beq_eq_false_iff_ne.mpr e).symm
theorem key_rr (a b : Str) : decide ((Sum.inr a : Key) = Sum.inr b) = decide (a = b) := by
  by_cases e : a = b
  · subst e; simp
  · have h : ¬ (Sum.inr a : Key) = Sum.inr b := fun q => e (Sum.inr.inj q)
    rw [decide_eq_false h, decide_eq_false e]
theorem key_lr (a : Int) (b : Str) : decide ((Sum.inl a : Key) = Sum.inr b) = false := decide_eq_false (fun q => nomatch q)
theorem key_rl (a : Str) (b : Int) : decide ((Sum.inr a : Key) = Sum.inl b) = false := decide_eq_false (fun q => nomatch q)

def mixKind (prog : Program) (w : World) : PySem.KeyKind prog w Key where
  is := keyIs
  hash := keyH w
  inj := fun v a b ha hb => by
    rcases keyIs_shape ha with ⟨i, t, rfl, rfl⟩ | ⟨x, t, rfl, rfl⟩
    · rcases keyIs_shape hb with ⟨j, u, rfl, e⟩ | ⟨y, u, rfl, e⟩
      · injection e with e1 _; rw [e1]
      · exact nomatch e
    · rcases keyIs_shape hb with ⟨j, u, rfl, e⟩ | ⟨y, u, rfl, e⟩
      · exact nomatch e
      · injection e with e1 _; rw [e1]
  byValue := fun k v h => by
    rcases keyIs_shape h with ⟨i, t, rfl, rfl⟩ | ⟨x, t, rfl, rfl⟩ <;> rfl
  pyHash := fun hv h => by
    rcases keyIs_shape hv with ⟨i, t, rfl, rfl⟩ | ⟨x, t, rfl, rfl⟩
    · exact wpAny_pyHash_int h
    · exact wpAny_pyHash_str h
  eqBool := fun hu hv h => by
    rcases keyIs_shape hu with ⟨i, t, rfl, rfl⟩ | ⟨x, t, rfl, rfl⟩
    · rcases keyIs_shape hv with ⟨j, u, rfl, rfl⟩ | ⟨y, u, rfl, rfl⟩
      · rw [key_ll] at h; exact wpAny_eqBool_int h
      · rw [key_lr] at h; exact SeqAt.EqAt.int_str i t y u _ _ _ _ h
    · rcases keyIs_shape hv with ⟨j, u, rfl, rfl⟩ | ⟨y, u, rfl, rfl⟩
      · rw [key_rl] at h; exact SeqAt.EqAt.str_int x t j u _ _ _ _ h
      · rw [key_rr] at h; exact wpAny_eqBool_str h
  «strs» := fun k x t v h => by
    rcases keyIs_shape h with ⟨i, u, rfl, e⟩ | ⟨y, u, rfl, e⟩
    · exact nomatch e
    · injection e with e1 _
      subst e1
      cases v <;> rfl

end L2

namespace L2
open PySem PySem.Spec PyProof.Rows

/-- a value, without the heap -/
inductive V where
  | non | bl (b : Bool) | int (i : Int) | str (x : Str) | byt (b : Array UInt8) | flt (b : UInt64) | ref (a : Addr) | ty (n : String)
  deriving DecidableEq

def RelV : V → Value → Prop
  | .non, u => u = Value.none
  | .bl b, u => u = Value.bool b
  | .int i, u => ∃ t, u = Value.int i t
  | .str x, u => ∃ t, u = Value.str x t
  | .byt b, u => ∃ t, u = Value.bytes b t
  | .flt b, u => ∃ t, u = Value.float b t
  | .ref a, u => u = Value.ref a
  | .ty n, u => u = Value.type n

abbrev Vals : List V → List Value → Prop := Paired RelV
theorem Vals.length {xs : List V} {us : List Value} (r : Vals xs us) : xs.length = us.length := Paired.length r
theorem Vals.get : ∀ {xs : List V} {us : List Value} {i : Nat} {x : V}, Vals xs us → xs[i]? = some x → ∃ u, us[i]? = some u ∧ RelV x u
  | _, _, _, _, .nil, e => by simp at e
  | _, _, 0, _, .cons r _, e => by simp at e; subst e; exact ⟨_, rfl, r⟩
  | _, _, i + 1, x, .cons _ t, e => by
    obtain ⟨u, h1, h2⟩ := Vals.get (i := i) (x := x) t (by simpa using e)
    exact ⟨u, by simpa using h1, h2⟩
theorem Vals.set {x : V} {u : Value} (r : RelV x u) : ∀ {xs : List V} {us : List Value} (i : Nat), Vals xs us → Vals (xs.set i x) (us.set i u)
  | _, _, _, .nil => .nil
  | _, _, 0, .cons _ t => .cons r t
  | _, _, i + 1, .cons q t => .cons q (Vals.set r i t)
theorem Vals.append : ∀ {xs ys : List V} {us ws : List Value}, Vals xs us → Vals ys ws → Vals (xs ++ ys) (us ++ ws)
  | _, _, _, _, .nil, s => s
  | _, _, _, _, .cons r t, s => .cons r (Vals.append t s)
theorem Vals.take : ∀ {xs : List V} {us : List Value} (n : Nat), Vals xs us → Vals (xs.take n) (us.take n)
  | _, _, 0, _ => .nil
  | _, _, _ + 1, .nil => .nil
  | _, _, n + 1, .cons r t => .cons r (Vals.take n t)
theorem Vals.drop : ∀ {xs : List V} {us : List Value} (n : Nat), Vals xs us → Vals (xs.drop n) (us.drop n)
  | _, _, 0, r => r
  | _, _, _ + 1, .nil => .nil
  | _, _, n + 1, .cons _ t => Vals.drop n t

def RelO : Option V → Option Value → Prop
  | some v, some u => RelV v u
  | none, none => True
  | _, _ => False
def KV {κ : Type} : List (κ × V) → List (κ × Value) → Prop := Paired fun (p : κ × V) (q : κ × Value) => p.1 = q.1 ∧ RelV p.2 q.2

/-- a key of a dict (00_mix): an int or a text -/
def kV : Key → V
  | .inl i => .int i
  | .inr x => .str x

/-- what stands at a tracked address -/
inductive HO where
  /-- a list -/
  | lst (xs : List V)
  /-- a tuple (never changes) -/
  | tup (xs : List V)
  /-- a dict whose keys are ints and texts; one whose keys are tuples of ints and texts (the empty one is both) -/
  | dK (kvs : List (Key × V)) | dT (kvs : List (List Key × V))
  /-- a set of ints: its members, its size -/
  | set (S : Int → Bool) (n : Nat)
  /-- an instance of the class at C, its dict at dx, its attributes -/
  | ins (C dx : Addr) (fs : List (Str × V))
  /-- the dict of the instance at x -/
  | own (x : Addr)
  /-- the dict of an exception -/
  | xd (fs : List (Str × V))
  /-- a bound method, f of x -/
  | met (f x : Addr)
  /-- a range object lo, lo + 1, .. below hi -/
  | rng (lo hi : Int)
  /-- a thing that is known to the object (the script; a dict while a loop walks it): read, never written while it is so -/
  | frz (o : Obj) (u : HO)
  /-- a code object's table -/
  | tbl (ps : Array Value)
  /-- any other thing, by what is true of its one object (a def of one's own: SetO a S n := HO.ext fun h => ..) -/
  | ext (φ : Heap → Prop)

abbrev Hp := Addr → Option HO
def upd (H : Hp) (a : Addr) (o : HO) : Hp := fun b => if b = a then some o else H b
theorem upd_same {H : Hp} {a : Addr} {o : HO} : upd H a o a = some o := by unfold upd; rw [if_pos rfl]
theorem upd_ne {H : Hp} {a b : Addr} {o : HO} (h : b ≠ a) : upd H a o b = H b := by unfold upd; rw [if_neg h]
/-- two objects of different content stand apart -/
theorem ne_of {H : Hp} {a b : Addr} {o u : HO} (h : H a = some o) (h' : H b = some u) (d : o ≠ u) : a ≠ b := by
  intro e; subst e; rw [h] at h'; exact d (Option.some.inj h')
theorem ne_of_none {H : Hp} {a b : Addr} {o : HO} (h : H a = some o) (h' : H b = none) : a ≠ b := by
  intro e; subst e; rw [h] at h'; cases h'

section
variable (P : Program) (w : World)
def ObjOk (H : Hp) (h : Heap) (a : Addr) : HO → Prop
  | .lst xs => xs.length ≤ sizeLine ∧ ∃ (its : List Value) (n : Nat), Vals xs its ∧ h.get? a = some { cls := .type "list", data := .seq its.toArray n }
  | .tup xs => xs.length ≤ sizeLine ∧ ∃ its : List Value, Vals xs its ∧ IsTup h a its.toArray
  | .dK kvs => kvs.length ≤ sizeLine ∧ (a == sysModules) = false ∧ ∃ vs, KV kvs vs ∧ h.DictOf (mixKind P w) a vs
  | .dT kvs => kvs.length ≤ sizeLine ∧ (a == sysModules) = false ∧ ∃ xs : List (List Key × Addr × Value),
      Paired (fun (p : List Key × V) (q : List Key × Addr × Value) => p.1 = q.1 ∧ H q.2.1 = some (.tup (p.1.map kV)) ∧ RelV p.2 q.2.2) kvs xs ∧
      ∃ o es ep, h.get? a = some o ∧ o.ExactDict ∧ o.data = .dict es ep ∧ es.toList = xs.map (entryOfKey (tupleKind (mixKind P w))) ∧ (xs.map (·.1)).Nodup
  | .set S n => h.SetOf (intKind P w) a S n
  | .ins C dx fs => H dx = some (.own a) ∧ fs.length ≤ 1000 ∧ dx ≠ a ∧ h.get? a = some (PySem.W.instObj C dx) ∧
      ∃ mA, h.Ns1 dx mA ∧ (∀ f, RelO (fs.lookup f) (mA f)) ∧ PySem.Within mA (fs.map (·.1))
  | .own _ => ∃ o, h.get? a = some o
  | .xd fs => ∃ mA, h.Ns1 a mA ∧ ∀ f, RelO (fs.lookup f) (mA f)
  | .rng lo hi => ∃ t u v, h.get? a = some { cls := .type "range", data := .fields #[.int lo t, .int hi u, .int 1 v] }
  | .frz o u => h.get? a = some o ∧ ObjOk H h a u
  | .tbl ps => h.get? a = some { cls := .none, data := .fields ps }
  | .met f x => h.get? a = some (PySem.W.methodObj (.ref f) (.ref x))
  | .ext φ => φ h ∧ (∃ o, h.get? a = some o) ∧ ∀ h1 h2 : Heap, φ h1 → (∀ o, h1.get? a = some o → h2.get? a = some o) → φ h2
/-- the abstract heap is held -/
def HOk (H : Hp) (h : Heap) : Prop := ∀ a o, H a = some o → ObjOk P w H h a o
end

section
variable {P : Program} {w : World} {H H' : Hp} {h h' : Heap} {a : Addr} {o : HO}
theorem ObjOk.lt (x : ObjOk P w H h a o) : a < h.objs.size := by
  cases o with
  | lst xs => obtain ⟨_, _, _, _, e⟩ := x; exact Heap.lt_size e
  | tup xs => obtain ⟨_, _, _, p⟩ := x; exact p.lt
  | dK kvs => obtain ⟨_, _, _, _, o, _, _, e, _⟩ := x; exact Heap.lt_size e
  | dT kvs => obtain ⟨_, _, _, _, o, _, _, e, _⟩ := x; exact Heap.lt_size e
  | set S n => obtain ⟨o, _, _, _, e, _⟩ := x; exact Heap.lt_size e
  | ins C dx fs => obtain ⟨_, _, _, e, _⟩ := x; exact Heap.lt_size e
  | own y => obtain ⟨_, e⟩ := x; exact Heap.lt_size e
  | xd fs => obtain ⟨_, ⟨_, _, _, e, _⟩, _⟩ := x; exact Heap.lt_size e
  | rng lo hi => obtain ⟨_, _, _, e⟩ := x; exact Heap.lt_size e
  | frz ob u => obtain ⟨e, _⟩ := x; exact Heap.lt_size e
  | tbl ps => exact Heap.lt_size (show h.get? a = some _ from x)
  | met f y => exact Heap.lt_size (show h.get? a = some _ from x)
  | ext φ => obtain ⟨_, ⟨_, e⟩, _⟩ := x; exact Heap.lt_size e
theorem Paired.mapP {α β : Type} {F G : α → β → Prop} : ∀ {l₁ : List α} {l₂ : List β}, Paired F l₁ l₂ → (∀ a b, F a b → G a b) → Paired G l₁ l₂
  | _, _, .nil, _ => .nil
  | _, _, .cons r t, f => .cons (f _ _ r) (Paired.mapP t f)
/-- what an object's description leans on: its own object, its own dict, the tuples -/
theorem ObjOk.stay (x : ObjOk P w H h a o) (k : ∀ b u, (b = a ∨ H b = some (.own a)) → h.get? b = some u → h'.get? b = some u)
    (ho : ∀ b, H b = some (.own a) → H' b = some (.own a)) (ht : ∀ b xs, H b = some (.tup xs) → H' b = some (.tup xs)) : ObjOk P w H' h' a o := by
  induction o with
  | lst xs => obtain ⟨z, its, n, r, e⟩ := x; exact ⟨z, its, n, r, k _ _ (.inl rfl) e⟩
  | tup xs => obtain ⟨z, its, r, ob, e, c⟩ := x; exact ⟨z, its, r, ob, k _ _ (.inl rfl) e, c⟩
  | dK kvs => obtain ⟨z, y, vs, r, ob, es, ep, e, c⟩ := x; exact ⟨z, y, vs, r, ob, es, ep, k _ _ (.inl rfl) e, c⟩
  | dT kvs =>
    obtain ⟨z, y, xs, r, ob, es, ep, e, c⟩ := x
    exact ⟨z, y, xs, Paired.mapP r fun p q z => ⟨z.1, ht _ _ z.2.1, z.2.2⟩, ob, es, ep, k _ _ (.inl rfl) e, c⟩
  | set S n => obtain ⟨ob, es, ep, t, e, c⟩ := x; exact ⟨ob, es, ep, t, k _ _ (.inl rfl) e, c⟩
  | ins C dx fs =>
    obtain ⟨d, z, ne, e, mA, ⟨od, es, ep, e2, c⟩, r⟩ := x
    exact ⟨ho _ d, z, ne, k _ _ (.inl rfl) e, mA, ⟨od, es, ep, k _ _ (.inr d) e2, c⟩, r⟩
  | own y => obtain ⟨ob, e⟩ := x; exact ⟨ob, k _ _ (.inl rfl) e⟩
  | xd fs => obtain ⟨mA, ⟨od, es, ep, e, c⟩, r⟩ := x; exact ⟨mA, ⟨od, es, ep, k _ _ (.inl rfl) e, c⟩, r⟩
  | rng lo hi => obtain ⟨t, u, v, e⟩ := x; exact ⟨t, u, v, k _ _ (.inl rfl) e⟩
  | frz ob u ih => obtain ⟨e, q⟩ := x; exact ⟨k _ _ (.inl rfl) e, ih q⟩
  | tbl ps =>
    have e : h.get? a = some { cls := .none, data := .fields ps } := x
    show h'.get? a = some { cls := .none, data := .fields ps }
    exact k a _ (.inl rfl) e
  | met f y =>
    have e : h.get? a = some (PySem.W.methodObj (.ref f) (.ref y)) := x
    show h'.get? a = some (PySem.W.methodObj (.ref f) (.ref y))
    exact k a _ (.inl rfl) e
  | ext φ => obtain ⟨p, ⟨o, e⟩, st⟩ := x; exact ⟨st _ _ p fun o q => k _ _ (.inl rfl) q, ⟨o, k _ _ (.inl rfl) e⟩, st⟩
theorem HOk.lt (x : HOk P w H h) (e : H a = some o) : a < h.objs.size := (x a o e).lt
theorem HOk.fresh (x : HOk P w H h) (e : h.objs.size ≤ a) : H a = none := by
  cases q : H a with
  | none => rfl
  | some u => exact absurd (Nat.lt_of_lt_of_le (x.lt q) e) (Nat.lt_irrefl _)
/-- every object of the heap is kept -/
theorem HOk.kept (x : HOk P w H h) (k : ∀ b u, h.get? b = some u → h'.get? b = some u) : HOk P w H h' := fun a o e =>
  (x a o e).stay (fun b u _ q => k b u q) (fun _ q => q) fun _ _ q => q
/-- a new object is laid and tracked -/
theorem HOk.laid (x : HOk P w H h) (k : ∀ b u, h.get? b = some u → h'.get? b = some u) (hp : h.objs.size ≤ a) (new : ObjOk P w (upd H a o) h' a o) : HOk P w (upd H a o) h' := fun b u e => by
  have hn := x.fresh hp
  by_cases hb : b = a
  · subst hb; rw [upd_same] at e; cases e; exact new
  · rw [upd_ne hb] at e
    exact (x b u e).stay (fun c v _ q => k c v q) (fun c q => by rw [upd_ne (ne_of_none q hn)]; exact q) fun c xs q => by rw [upd_ne (ne_of_none q hn)]; exact q
end

/-- what may be read as u: it is u, or a known u -/
def Rd (H : Hp) (a : Addr) (u : HO) : Prop := H a = some u ∨ ∃ o, H a = some (.frz o u)
theorem Rd.ok {P : Program} {w : World} {H : Hp} {h : Heap} {a : Addr} {u : HO} (r : Rd H a u) (x : HOk P w H h) : ObjOk P w H h a u := by
  rcases r with r | ⟨o, r⟩
  · exact x a u r
  · obtain ⟨_, q⟩ := x a _ r
    exact q
/-- what may be written -/
def Mut : Option HO → Prop
  | some (.lst _) => True
  | some (.dK _) => True
  | some (.dT _) => True
  | some (.set _ _) => True
  | some (.ins _ _ _) => True
  | some (.ext _) => True
  | _ => False
section
variable {P : Program} {w : World} {H : Hp} {h h' : Heap} {x e : Addr} {o' : HO}
/-- the object at e is changed: x itself, or the dict of the instance x -/
theorem HOk.write (ok : HOk P w H h) (mu : Mut (H x)) (he : e = x ∨ H e = some (.own x)) (k : ∀ b u, b ≠ e → h.get? b = some u → h'.get? b = some u) (heo : ∃ u, h'.get? e = some u)
    (new : ObjOk P w (upd H x o') h' x o') : HOk P w (upd H x o') h' := fun b u q => by
  have nown : ∀ c y, H c = some (.own y) → c ≠ x := fun c y r z => by subst z; rw [r] at mu; exact mu
  have ntup : ∀ c xs, H c = some (.tup xs) → c ≠ x := fun c xs r z => by subst z; rw [r] at mu; exact mu
  by_cases hb : b = x
  · subst hb; rw [upd_same] at q; cases q; exact new
  · rw [upd_ne hb] at q
    by_cases hbe : b = e
    · have q' : H b = some (.own x) := by
        rcases he with z | z
        · exact absurd (hbe.trans z) hb
        · rw [hbe]; exact z
      rw [q] at q'; cases q'
      obtain ⟨v, hv⟩ := heo
      exact ⟨v, by rw [hbe]; exact hv⟩
    · refine (ok b u q).stay (fun c v hc r => k c v ?_ r) (fun c r => by rw [upd_ne (nown c b r)]; exact r) fun c xs r => by rw [upd_ne (ntup c xs r)]; exact r
      rcases hc with rfl | hc
      · exact hbe
      · rintro rfl
        rcases he with z | z
        · exact nown c b hc z
        · rw [hc] at z; cases z; exact hb rfl
end

/-! ### kept unless tracked; of the frames at fs (the callers') the slots may change (an exception that passes writes there); of the records at ex (iterators) nothing is said -/
structure Un (fs ex : List Addr) (H H' : Hp) (h h' : Heap) : Prop where
  keep : ∀ b o, h.get? b = some o → H b = none → b ∉ fs → b ∉ ex → h'.get? b = some o
  slot : ∀ b o, h.get? b = some o → H b = none → b ∈ fs → b ∉ ex → ∃ sl, h'.get? b = some { o with slots := sl }
  free : ∀ b o, h.get? b = some o → H b = none → b ∉ ex → H' b = none
  there : ∀ b o, h.get? b = some o → b ∉ ex → ∃ o', h'.get? b = some o'
  tups : ∀ b xs, H b = some (.tup xs) → H' b = some (.tup xs)
  frzs : ∀ b o u, H b = some (.frz o u) → H' b = some (.frz o u)
  tbls : ∀ b ps, H b = some (.tbl ps) → ∃ more, H' b = some (.tbl (ps ++ more))
section
variable {fs fs' ex ex' : List Addr} {H H1 H2 : Hp} {h h1 h2 h' : Heap} {a x e : Addr} {o : HO}
theorem Un.any (u : Un fs ex H H1 h h1) {b : Addr} {ob : Obj} (q : h.get? b = some ob) (n : H b = none) (hx : b ∉ ex) : ∃ sl, h1.get? b = some { ob with slots := sl } := by
  by_cases hb : b ∈ fs
  · exact u.slot b ob q n hb hx
  · exact ⟨ob.slots, u.keep b ob q n hb hx⟩
theorem Un.kept (k : ∀ b u, h.get? b = some u → h'.get? b = some u) : Un fs ex H H h h' :=
  ⟨fun b ob q _ _ _ => k b ob q, fun b ob q _ _ _ => ⟨ob.slots, k b ob q⟩, fun _ _ _ n _ => n, fun b ob q _ => ⟨ob, k b ob q⟩, fun _ _ q => q, fun _ _ _ q => q, fun _ ps q => ⟨#[], by rw [q]; simp⟩⟩
theorem Un.refl : Un fs ex H H h h := Un.kept fun _ _ q => q
theorem Un.laid (k : ∀ b u, h.get? b = some u → h'.get? b = some u) (hp : h.objs.size ≤ a) (hn : H a = none) : Un fs ex H (upd H a o) h h' where
  keep := fun b u q _ _ _ => k b u q
  slot := fun b u q _ _ _ => ⟨u.slots, k b u q⟩
  free := fun b u q n _ => by rw [upd_ne (Nat.ne_of_lt (Nat.lt_of_lt_of_le (Heap.lt_size q) hp))]; exact n
  there := fun b u q _ => ⟨u, k b u q⟩
  tups := fun b xs q => by rw [upd_ne (ne_of_none q hn)]; exact q
  frzs := fun b u xs q => by rw [upd_ne (ne_of_none q hn)]; exact q
  tbls := fun b ps q => ⟨#[], by rw [upd_ne (ne_of_none q hn), q]; simp⟩
theorem Un.write (mu : Mut (H x)) (he : e = x ∨ H e = some (.own x)) (k : ∀ b u, b ≠ e → h.get? b = some u → h'.get? b = some u) (heo : ∃ u, h'.get? e = some u) : Un fs ex H (upd H x o) h h' := by
  have hx : ∀ b, H b = none → b ≠ x := fun b n z => by subst z; rw [n] at mu; exact mu
  have hb : ∀ b, H b = none → b ≠ e := fun b n z => by
    subst z
    rcases he with r | r
    · exact hx b n r
    · rw [n] at r; cases r
  have hm : ∀ b u, H b = some u → ¬ Mut (some u) → b ≠ x := fun b u q nm z => by subst z; rw [q] at mu; exact nm mu
  refine ⟨fun b u q n _ _ => k b u (hb b n) q, fun b u q n _ _ => ⟨u.slots, k b u (hb b n) q⟩, fun b u q n _ => by rw [upd_ne (hx b n)]; exact n, fun b u q _ => ?_,
    fun b xs q => by rw [upd_ne (hm b _ q fun z => z)]; exact q, fun b u xs q => by rw [upd_ne (hm b _ q fun z => z)]; exact q, fun b ps q => ⟨#[], by rw [upd_ne (hm b _ q fun z => z), q]; simp⟩⟩
  by_cases hbe : b = e
  · subst hbe; exact heo
  · exact ⟨u, k b u hbe q⟩
end

/-! ### the heap without what is tracked -/
def trk (h : Heap) (H : Hp) : List Addr := (List.range h.objs.size).filter fun a => (H a).isSome
def hidT (h : Heap) (H : Hp) : Heap := PySem.W.hideAll h (trk h H)
theorem hidT_size (h : Heap) (H : Hp) : (hidT h H).objs.size = h.objs.size := PySem.W.hideAll_size _ _
theorem hidT_get {h : Heap} {H : Hp} {b : Addr} {o : Obj} (e : h.get? b = some o) (n : H b = none) : (hidT h H).get? b = some o :=
  PySem.W.hideAll_get _ e fun hm => by
    have q : (H b).isSome = true := (List.mem_filter.mp hm).2
    rw [n] at q; simp at q
theorem of_hidT {h : Heap} {H : Hp} {b : Addr} {o : Obj} (e : (hidT h H).get? b = some o) : h.get? b = some o ∧ H b = none := by
  have e' : h.get? b = some o := PySem.W.of_hideAll (trk h H) e
  refine ⟨e', ?_⟩
  cases q : H b with
  | none => rfl
  | some x =>
    have hm : b ∈ trk h H := List.mem_filter.mpr ⟨List.mem_range.mpr (Heap.lt_size e'), by simp [q]⟩
    have z : (hidT h H).get? b = none := PySem.W.hideAll_none (trk h H) hm
    rw [z] at e; cases e

/-! ### OpenK's ledger, filled with every new object but one -/
end L2

namespace L2
open PySem PySem.Spec PyProof.Rows

/-- the module's facts, over the base: the heap at the law's entry without what is tracked there -/
structure Mod (K : PySem.W.Frag) (mg : Str → Option Value) (base : Heap) : Prop where
  kin : K.In base
  glob : base.Ns mainGlobals mg
  blt : ∃ mb, base.Ns builtinsNs mb ∧ ∀ x : Str, x ≠ "__name__" → mb x = bootBuiltins x
  nolimit : base.NoLimit

/-- the context: a def's body (or a comprehension's block) running. base: fixed through the whole law; s₀, H₀: the entry; outer: the frames whose slots others may change (a def's callers); stack: all frames that run;
   ex: iterators that were made ahead of the entry and are walked here (a comprehension's); fn: the names whose cells were made at the entry (a def: all; a comprehension's block: its own); calm: not within an except suite; pn: pins that every state bears; xe: what is wanted of an exception that leaves the code -/
structure Cx where
  prog : Program
  w : World
  K : PySem.W.Frag
  mg : Str → Option Value
  base : Heap
  A : Around
  N : List Str
  s₀ : Shared
  H₀ : Hp
  env : Env
  outer : List Env
  stack : List Env
  ex : List Addr
  fn : Str → Bool
  calm : Bool
  pn : List (Addr × Obj)
  xe : Value → Shared → Prop
/-- the callers' frames -/
def frs (l : List Env) : List Addr := l.filterMap (·.frame)
abbrev Cx.fs (X : Cx) : List Addr := frs X.outer

def Vis (sc : Scope) (x : Str) : Prop := sc.names.lookup x = some .local ∨ sc.names.lookup x = some .cell ∨ sc.names.lookup x = some .free
def Loc (sc : Scope) (x : Str) : Prop := sc.names.lookup x = some .local ∨ sc.names.lookup x = some .cell
def Look (env : Env) (h : Heap) (m : Str → Option Value) (x : Str) (u : Value) : Prop :=
  (env.kindOf x = some .local ∧ m x = some u) ∨ ((env.kindOf x = some .cell ∨ env.kindOf x = some .free) ∧ ∃ c, env.cells.lookup x = some c ∧ h.IsCell c (some u))

structure Cx.Ok (X : Cx) : Prop where
  mod : Mod X.K X.mg X.base
  kind : X.env.scope.kind = .function
  glob : X.env.globals = mainGlobals
  blt : X.env.builtins = builtinsNs
  above : X.s₀.heap.objs.size ≤ X.env.locals
  inj : ∀ x y c, X.env.cells.lookup x = some c → X.env.cells.lookup y = some c → x = y
  has : ∀ x, (X.env.kindOf x = some .cell ∨ X.env.kindOf x = some .free) → ∃ c, X.env.cells.lookup x = some c
  cab : ∀ x c, X.fn x = true → X.env.cells.lookup x = some c → X.s₀.heap.objs.size ≤ c
  hd : X.calm = true → X.A.handled = none
  frames : X.A.frames = some X.stack
  stk : X.stack = X.outer ∨ (X.stack = X.env :: X.outer ∧ X.env.frame = some X.env.locals)
  exf : ∀ b ∈ X.ex, b ≠ X.env.locals ∧ ∀ x c, X.env.cells.lookup x = some c → c ≠ b
  bs : ∀ b o, X.base.get? b = some o → X.s₀.heap.get? b = some o ∧ X.H₀ b = none
  bsz : X.base.objs.size ≤ X.s₀.heap.objs.size
  noex : ∀ b o, X.base.get? b = some o → b ∉ X.ex
  exfs : ∀ b ∈ X.ex, b ∉ X.fs
  funs : X.s₀.heap.FunFrames X.base X.outer
  frf : ∀ b ∈ X.fs, X.H₀ b = none

structure Inv (X : Cx) (pins : List (Addr × Obj)) (σ : List (Option V)) (H : Hp) (s : Shared) : Prop where
  ok : X.Ok
  os : s.os = X.s₀.os
  bare : AllBare s.gens
  base : Un X.fs X.ex X.H₀ H X.s₀.heap s.heap
  loc : ∃ m, s.heap.Ns X.env.locals m ∧ ∀ (i : Nat) (x : Str) (v : V), X.N[i]? = some x → σ[i]? = some (some v) → Vis X.env.scope x → ∃ u, RelV v u ∧ Look X.env s.heap m x u
  cell : ∀ x c, X.env.cells.lookup x = some c → ∃ v, s.heap.IsCell c v
  free : H X.env.locals = none
  freeC : ∀ x c, X.env.cells.lookup x = some c → H c = none
  pin : ∀ p ∈ X.pn ++ pins, s.heap.get? p.1 = some p.2 ∧ H p.1 = none ∧ p.1 ≠ X.env.locals ∧ p.1 ∉ X.fs ∧ ∀ v, p.2.data ≠ .cell v
  hok : HOk X.prog X.w H s.heap
  len : σ.length = X.N.length

section
variable {X : Cx} {pins : List (Addr × Obj)} {σ : List (Option V)} {H H' : Hp} {s : Shared} {h' : Heap}

theorem Cx.Ok.nofr (ok : X.Ok) {b : Addr} {o : Obj} (e : X.base.get? b = some o) : b ∉ X.fs := fun hb => by
  have := (ok.funs.mem hb).1
  rw [e] at this; cases this
theorem Inv.bs (I : Inv X pins σ H s) : ∀ b o, X.base.get? b = some o → s.heap.get? b = some o ∧ H b = none := fun b o e =>
  ⟨I.base.keep b o (I.ok.bs b o e).1 (I.ok.bs b o e).2 (I.ok.nofr e) (I.ok.noex b o e), I.base.free b o (I.ok.bs b o e).1 (I.ok.bs b o e).2 (I.ok.noex b o e)⟩
theorem Inv.bk (I : Inv X pins σ H s) : ∀ b o, X.base.get? b = some o → s.heap.get? b = some o := fun b o e => (I.bs b o e).1
theorem Inv.mod (I : Inv X pins σ H s) : Mod X.K X.mg X.base := I.ok.mod
theorem Inv.kIn (I : Inv X pins σ H s) : X.K.In s.heap := I.ok.mod.kin.keeps I.bk
theorem Inv.lt (I : Inv X pins σ H s) : X.env.locals < s.heap.objs.size := let ⟨_, hn, _⟩ := I.loc; hn.lt
theorem Inv.sz (I : Inv X pins σ H s) : X.s₀.heap.objs.size ≤ s.heap.objs.size := Nat.le_trans I.ok.above (Nat.le_of_lt I.lt)
theorem Inv.nofs (I : Inv X pins σ H s) {a : Addr} (h : s.heap.objs.size ≤ a) : a ∉ X.fs := fun hb => by
  obtain ⟨_, o, ho, _⟩ := I.ok.funs.mem hb
  exact absurd (Nat.lt_of_lt_of_le (Heap.lt_size ho) (Nat.le_trans I.sz h)) (Nat.lt_irrefl _)
theorem Inv.cne (I : Inv X pins σ H s) : ∀ x c, X.env.cells.lookup x = some c → c ≠ X.env.locals := fun x c e z => by
  obtain ⟨v, o, ho, hd⟩ := I.cell x c e
  obtain ⟨m, ⟨o', es, ep, ho', hd', _⟩, _⟩ := I.loc
  rw [z, ho'] at ho; cases ho; rw [hd'] at hd; cases hd
theorem Inv.funs (I : Inv X pins σ H s) : s.heap.FunFrames X.base X.outer := by
  have all : ∀ (l : List Env), (∀ b ∈ frs l, b ∈ X.fs) → X.s₀.heap.FunFrames X.base l → s.heap.FunFrames X.base l := by
    intro l
    induction l with
    | nil => intro _ _; trivial
    | cons env r ih =>
      intro hs hl
      obtain ⟨hk, ⟨L, o, hf, hn, ho, hd⟩, hr⟩ := hl
      have hL : L ∈ X.fs := hs L (by unfold frs; rw [List.filterMap_cons, hf]; exact List.mem_cons_self)
      obtain ⟨sl, e⟩ := I.base.slot L o ho (I.ok.frf L hL) hL fun z => I.ok.exfs L z hL
      exact ⟨hk, ⟨L, _, hf, hn, e, hd⟩, ih (fun b hb => hs b (by unfold frs; rw [List.filterMap_cons, hf]; exact List.mem_cons_of_mem _ hb)) hr⟩
  exact all X.outer (fun _ hb => hb) I.ok.funs

/-- the frames that run, for a call -/
theorem Inv.stack (I : Inv X pins σ H s) : s.heap.FunFrames X.base X.stack := by
  rcases I.ok.stk with e | ⟨e, hf⟩
  · rw [e]; exact I.funs
  · rw [e]
    obtain ⟨m, hn, _⟩ := I.loc
    refine .cons (by rw [I.ok.kind]; decide) hf hn ?_ I.funs
    exact Heap.get?_none_of_le (Nat.le_trans I.ok.bsz I.ok.above)
theorem Inv.stkSub (I : Inv X pins σ H s) : ∀ b ∈ frs X.stack, b ∈ X.env.locals :: X.fs := fun b hb => by
  rcases I.ok.stk with e | ⟨e, hf⟩
  · rw [e] at hb; exact List.mem_cons_of_mem _ hb
  · rw [e] at hb
    unfold frs at hb
    rw [List.filterMap_cons, hf] at hb
    exact hb
theorem Inv.stkFree (I : Inv X pins σ H s) : ∀ b ∈ frs X.stack, H b = none := fun b hb => by
  rcases List.mem_cons.mp (I.stkSub b hb) with e | hb
  · rw [e]; exact I.free
  · obtain ⟨_, o, ho, _⟩ := I.ok.funs.mem hb
    exact I.base.free b o ho (I.ok.frf b hb) fun z => I.ok.exfs b z hb

/-- THE STEP: the untracked objects but the frame and the records at ch are kept (the callers' frames up to slots), the frame's map is kept, the new abstract heap is held -/
theorem Inv.step {g' : Array GenState} {t' : Nat} {d' : Drawn} {ch : List Addr} (I : Inv X pins σ H s)
    (hch : ∀ b ∈ ch, (b ∈ X.ex ∨ X.s₀.heap.objs.size ≤ b) ∧ b ≠ X.env.locals ∧ (∀ x c, X.env.cells.lookup x = some c → c ≠ b) ∧ ∀ p ∈ X.pn ++ pins, p.1 ≠ b)
    (keep : ∀ b o, b ≠ X.env.locals → b ∉ X.fs → b ∉ ch → s.heap.get? b = some o → H b = none → h'.get? b = some o)
    (slot : ∀ b o, b ≠ X.env.locals → b ∈ X.fs → b ∉ ch → s.heap.get? b = some o → H b = none → ∃ sl, h'.get? b = some { o with slots := sl }) (free : ∀ b o, b ∉ ch → s.heap.get? b = some o → H b = none → H' b = none)
    (there : ∀ b o, b ∉ ch → s.heap.get? b = some o → ∃ o', h'.get? b = some o')
    (tups : ∀ b xs, H b = some (.tup xs) → H' b = some (.tup xs)) (frzs : ∀ b o u, H b = some (.frz o u) → H' b = some (.frz o u)) (tbls : ∀ b ps, H b = some (.tbl ps) → ∃ more, H' b = some (.tbl (ps ++ more)))
    (ns : ∀ m, s.heap.Ns X.env.locals m → h'.Ns X.env.locals m) (hok : HOk X.prog X.w H' h') (hg : AllBare g') :
    Inv X pins σ H' { s with heap := h', gens := g', drawn := d', toks := t' } := by
  have neL : ∀ b o, X.s₀.heap.get? b = some o → b ≠ X.env.locals := fun b o e => Nat.ne_of_lt (Nat.lt_of_lt_of_le (Heap.lt_size e) I.ok.above)
  have neC : ∀ b o, X.s₀.heap.get? b = some o → b ∉ X.ex → b ∉ ch := fun b o e hx hb => by
    rcases (hch b hb).1 with z | z
    · exact hx z
    · exact absurd (Nat.lt_of_lt_of_le (Heap.lt_size e) z) (Nat.lt_irrefl _)
  have cellK : ∀ x c, X.env.cells.lookup x = some c → ∀ v, s.heap.IsCell c v → h'.IsCell c v := fun x c e v ⟨o, ho, hd⟩ => by
    have nch : c ∉ ch := fun z => (hch c z).2.2.1 x c e rfl
    by_cases hc : c ∈ X.fs
    · obtain ⟨sl, q⟩ := slot c o (I.cne x c e) hc nch ho (I.freeC x c e)
      exact ⟨_, q, hd⟩
    · exact ⟨o, keep c o (I.cne x c e) hc nch ho (I.freeC x c e), hd⟩
  refine ⟨I.ok, I.os, hg, ⟨fun b o e n hb hx => ?_, fun b o e n hb hx => ?_, fun b o e n hx => ?_, fun b o e hx => ?_, fun b xs e => tups b xs (I.base.tups b xs e), fun b o xs e => frzs b o xs (I.base.frzs b o xs e), fun b ps e => ?_⟩, ?_, fun x c e => ?_, ?_, fun x c e => ?_, fun p hp => ?_, hok, I.len⟩
  · exact keep b o (neL b o e) hb (neC b o e hx) (I.base.keep b o e n hb hx) (I.base.free b o e n hx)
  · obtain ⟨sl, e1⟩ := I.base.slot b o e n hb hx
    obtain ⟨sl', e2⟩ := slot b _ (neL b o e) hb (neC b o e hx) e1 (I.base.free b o e n hx)
    exact ⟨sl', e2⟩
  · obtain ⟨o', e1⟩ := I.base.there b o e hx
    exact free b o' (neC b o e hx) e1 (I.base.free b o e n hx)
  · obtain ⟨o', e1⟩ := I.base.there b o e hx
    exact there b o' (neC b o e hx) e1
  · obtain ⟨m1, e1⟩ := I.base.tbls b ps e
    obtain ⟨m2, e2⟩ := tbls b _ e1
    exact ⟨m1 ++ m2, by rw [e2, Array.append_assoc]⟩
  · obtain ⟨m, hn, hl⟩ := I.loc
    refine ⟨m, ns m hn, fun i x v e1 e2 e3 => ?_⟩
    obtain ⟨u, r, l⟩ := hl i x v e1 e2 e3
    refine ⟨u, r, ?_⟩
    rcases l with l | ⟨k, c, e, z⟩
    · exact .inl l
    · exact .inr ⟨k, c, e, cellK x c e _ z⟩
  · obtain ⟨v, z⟩ := I.cell x c e
    exact ⟨v, cellK x c e v z⟩
  · obtain ⟨m, ⟨o, _, _, ho, _⟩, _⟩ := I.loc
    exact free _ o (fun z => (hch _ z).2.1 rfl) ho I.free
  · obtain ⟨v, o, ho, hd⟩ := I.cell x c e
    exact free c o (fun z => (hch c z).2.2.1 x c e rfl) ho (I.freeC x c e)
  · obtain ⟨e, n, ne, nf, d⟩ := I.pin p hp
    have nch : p.1 ∉ ch := fun z => (hch p.1 z).2.2.2 p hp rfl
    exact ⟨keep p.1 p.2 ne nf nch e n, free p.1 p.2 nch e n, ne, nf, d⟩
/-- .. where the frame's own object is kept too -/
theorem Inv.un {t' : Nat} (I : Inv X pins σ H s) (u : Un X.fs [] H H' s.heap h') (hok : HOk X.prog X.w H' h') : Inv X pins σ H' { s with heap := h', toks := t' } := by
  obtain ⟨m, ⟨o, es, ep, ho, r⟩, _⟩ := id I.loc
  obtain ⟨sl, hL⟩ := u.any ho I.free (by simp)
  exact I.step (g' := s.gens) (d' := s.drawn) (ch := []) (fun _ z => nomatch z) (fun b o _ hb _ e n => u.keep b o e n hb (by simp)) (fun b o _ hb _ e n => u.slot b o e n hb (by simp)) (fun b o _ e n => u.free b o e n (by simp)) (fun b o _ e => u.there b o e (by simp)) u.tups u.frzs u.tbls (fun m' hm => by
    obtain ⟨o', es', ep', ho', r'⟩ := hm
    rw [ho] at ho'; cases ho'
    exact ⟨_, es', ep', hL, r'⟩) hok I.bare
/-- behind a call (or a comprehension's block): the slots of this frame may have changed too, the records at ch may have turned -/
theorem Inv.call {g' : Array GenState} {t' : Nat} {d' : Drawn} {ch : List Addr} (I : Inv X pins σ H s) (u : Un (frs X.stack) ch H H' s.heap h') (hok : HOk X.prog X.w H' h') (hg : AllBare g')
    (hch : ∀ b ∈ ch, (b ∈ X.ex ∨ X.s₀.heap.objs.size ≤ b) ∧ b ≠ X.env.locals ∧ (∀ x c, X.env.cells.lookup x = some c → c ≠ b) ∧ ∀ p ∈ X.pn ++ pins, p.1 ≠ b) :
    Inv X pins σ H' { s with heap := h', gens := g', drawn := d', toks := t' } := by
  obtain ⟨m, ⟨o, es, ep, ho, r⟩, _⟩ := id I.loc
  obtain ⟨sl, hL⟩ := u.any ho I.free fun z => (hch _ z).2.1 rfl
  exact I.step (ch := ch) hch (fun b o hL hb hc e n => u.keep b o e n (fun z => (List.mem_cons.mp (I.stkSub b z)).elim hL hb) hc) (fun b o _ _ hc e n => u.any e n hc) (fun b o hc e n => u.free b o e n hc) (fun b o hc e => u.there b o e hc) u.tups u.frzs u.tbls (fun m' hm => by
    obtain ⟨o', es', ep', ho', r'⟩ := hm
    rw [ho] at ho'; cases ho'
    exact ⟨_, es', ep', hL, r'⟩) hok hg
/-- an untracked record of ours (an iterator) has turned -/
theorem Inv.turned {t' : Nat} {it : Addr} (I : Inv X pins σ H s) (k : ∀ b o, b ≠ it → s.heap.get? b = some o → h'.get? b = some o) (hn : H it = none) (hL : it ≠ X.env.locals)
    (h1 : it ∈ X.ex ∨ X.s₀.heap.objs.size ≤ it) (h2 : ∀ x c, X.env.cells.lookup x = some c → c ≠ it) (h3 : ∀ p ∈ X.pn ++ pins, p.1 ≠ it) : Inv X pins σ H { s with heap := h', toks := t' } := by
  have nit : ∀ b u, H b = some u → b ≠ it := fun b u e z => by rw [z, hn] at e; cases e
  refine I.step (g' := s.gens) (d' := s.drawn) (ch := [it]) (fun b hb => ?_) (fun b o _ _ hc e _ => k b o (fun z => hc (by simp [z])) e) (fun b o _ _ hc e _ => ⟨o.slots, k b o (fun z => hc (by simp [z])) e⟩) (fun _ _ _ _ n => n)
    (fun b o hc e => ⟨o, k b o (fun z => hc (by simp [z])) e⟩) (fun _ _ e => e) (fun _ _ _ e => e) (fun b ps e => ⟨#[], by rw [e]; simp⟩) (fun m hm => ?_) (fun b u e => ?_) I.bare
  · have e : b = it := by simpa using hb
    subst e
    exact ⟨h1, hL, h2, h3⟩
  · obtain ⟨o, es, ep, ho, r⟩ := hm
    exact ⟨o, es, ep, k _ o (Ne.symm hL) ho, r⟩
  · refine (I.hok b u e).stay (fun c v hc q => k c v ?_ q) (fun _ q => q) fun _ _ q => q
    rcases hc with z | z
    · rw [z]; exact nit b u e
    · exact nit c _ z
theorem Inv.tok (I : Inv X pins σ H s) (t : Nat) : Inv X pins σ H { s with toks := t } := I.un (h' := s.heap) (t' := t) Un.refl I.hok
/-- all objects kept -/
theorem Inv.kept {t' : Nat} (I : Inv X pins σ H s) (k : ∀ b u, s.heap.get? b = some u → h'.get? b = some u) : Inv X pins σ H { s with heap := h', toks := t' } := I.un (Un.kept k) (I.hok.kept k)
/-- a new object laid and tracked -/
theorem Inv.laid {a : Addr} {o : HO} {t' : Nat} (I : Inv X pins σ H s) (k : ∀ b u, s.heap.get? b = some u → h'.get? b = some u) (hp : s.heap.objs.size ≤ a) (new : ObjOk X.prog X.w (upd H a o) h' a o) :
    Inv X pins σ (upd H a o) { s with heap := h', toks := t' } := I.un (Un.laid k hp (I.hok.fresh hp)) (I.hok.laid k hp new)
/-- an object written -/
theorem Inv.write {x e : Addr} {o : HO} {t' : Nat} (I : Inv X pins σ H s) (mu : Mut (H x)) (he : e = x ∨ H e = some (.own x)) (k : ∀ b u, b ≠ e → s.heap.get? b = some u → h'.get? b = some u) (heo : ∃ u, h'.get? e = some u)
    (new : ObjOk X.prog X.w (upd H x o) h' x o) : Inv X pins σ (upd H x o) { s with heap := h', toks := t' } := I.un (Un.write mu he k heo) (I.hok.write mu he k heo new)
theorem Inv.pins_of {pins' : List (Addr × Obj)} (I : Inv X pins σ H s) (h : ∀ p ∈ pins', s.heap.get? p.1 = some p.2 ∧ H p.1 = none ∧ p.1 ≠ X.env.locals ∧ p.1 ∉ X.fs ∧ ∀ v, p.2.data ≠ .cell v) : Inv X pins' σ H s :=
  ⟨I.ok, I.os, I.bare, I.base, I.loc, I.cell, I.free, I.freeC, fun p hp => (List.mem_append.mp hp).elim (fun z => I.pin p (List.mem_append_left _ z)) (h p), I.hok, I.len⟩

theorem nodup_ix {N : List Str} (hN : N.Nodup) {i j : Nat} {x : Str} (a : N[i]? = some x) (b : N[j]? = some x) : i = j := by
  obtain ⟨h1, e1⟩ := List.getElem?_eq_some_iff.mp a
  obtain ⟨h2, e2⟩ := List.getElem?_eq_some_iff.mp b
  exact (List.getElem_inj hN).mp (e1.trans e2.symm)

/-- a name is stored; what changed -/
theorem store_ok2 {M : Model} {A : Around} {E : Value → Shared → Prop} {i : Nat} {x : Str} {v : V} {u : Value} {Q : Unit → Shared → Prop} (I : Inv X pins σ H s) (hN : X.N.Nodup) (hi : X.N[i]? = some x) (hx : Loc X.env.scope x) (r : RelV v u)
    (h : ∀ s', Inv X pins (σ.set i (some v)) H s' → (∃ a, Heap.SameBut a s.heap s'.heap ∧ (a = X.env.locals ∨ X.env.cells.lookup x = some a)) → Q () s') (hf : X.fn x = true ∨ X.env.scope.names.lookup x = some .local := by first | exact .inl rfl | exact .inr rfl | assumption) : wpAny M A (storeName X.env x u) Q E s := by
  obtain ⟨m, hn, hl⟩ := id I.loc
  have hcls : (X.env.scope.kind == .class || (X.env.scope.kind == .module && X.env.locals != X.env.globals)) = false := by rw [I.ok.kind]; rfl
  have hiσ : i < σ.length := by rw [I.len]; exact (List.getElem?_eq_some_iff.mp hi).1
  have cne := I.cne
  have tracked : ∀ {a : Addr} {h' : Heap}, (∃ o, s.heap.get? a = some o ∧ H a = none) → Heap.SameBut a s.heap h' → HOk X.prog X.w H h' := fun {a h'} ha hs b ob e => by
    obtain ⟨_, _, hfree⟩ := ha
    refine (I.hok b ob e).stay (fun c w' hc q => (hs.2 c ?_).trans q) (fun _ q => q) fun _ _ q => q
    rintro rfl
    rcases hc with rfl | hc
    · rw [hfree] at e; cases e
    · rw [hfree] at hc; cases hc
  rcases hx with hk | hk
  · refine wpAny_storeName_local hk hn (fun h' hn' hs => ?_) hcls
    obtain ⟨oL, _, _, hoL, _⟩ := id hn
    refine h _ ⟨I.ok, I.os, I.bare, ⟨fun b o e n hb hx => ?_, fun b o e n hb hx => ?_, I.base.free, fun b o e hx => ?_, I.base.tups, I.base.frzs, I.base.tbls⟩, ⟨_, hn', fun j y v' e1 e2 e3 => ?_⟩, fun y c e => ?_, I.free, I.freeC, fun p hp => ?_, tracked ⟨oL, hoL, I.free⟩ hs, by simpa using I.len⟩ ⟨_, hs, .inl rfl⟩
    · exact (hs.2 b (Nat.ne_of_lt (Nat.lt_of_lt_of_le (Heap.lt_size e) I.ok.above))).trans (I.base.keep b o e n hb hx)
    · obtain ⟨sl, e1⟩ := I.base.slot b o e n hb hx
      exact ⟨sl, (hs.2 b (Nat.ne_of_lt (Nat.lt_of_lt_of_le (Heap.lt_size e) I.ok.above))).trans e1⟩
    · obtain ⟨o', e1⟩ := I.base.there b o e hx
      exact ⟨o', (hs.2 b (Nat.ne_of_lt (Nat.lt_of_lt_of_le (Heap.lt_size e) I.ok.above))).trans e1⟩
    · by_cases hj : j = i
      · subst hj
        rw [hi] at e1; cases e1
        rw [List.getElem?_set_self hiσ] at e2
        cases e2
        exact ⟨u, r, .inl ⟨hk, by simp⟩⟩
      · rw [List.getElem?_set_ne (Ne.symm hj)] at e2
        obtain ⟨u', r', q⟩ := hl j y v' e1 e2 e3
        refine ⟨u', r', ?_⟩
        rcases q with ⟨k, e⟩ | ⟨k, c, e, z⟩
        · refine .inl ⟨k, ?_⟩
          have : y ≠ x := fun e => hj (nodup_ix hN e1 (e ▸ hi))
          simp [this, e]
        · exact .inr ⟨k, c, e, z.sameBut hs (cne y c e)⟩
    · obtain ⟨w', z⟩ := I.cell y c e
      exact ⟨w', z.sameBut hs (cne y c e)⟩
    · obtain ⟨e, n, ne, nf, d⟩ := I.pin p hp
      exact ⟨(hs.2 p.1 ne).trans e, n, ne, nf, d⟩
  · have hfn : X.fn x = true := by
      rcases hf with z | z
      · exact z
      · rw [z] at hk; cases hk
    obtain ⟨c, hc⟩ := I.ok.has x (.inl hk)
    obtain ⟨w', z⟩ := I.cell x c hc
    refine wpAny_storeName_cell I.ok.kind hk hc z (fun h' hc' hs => ?_)
    obtain ⟨oc, hoc, hocd⟩ := id z
    refine h { s with heap := h' } ⟨I.ok, I.os, I.bare, ⟨fun b o e n hb hx => ?_, fun b o e n hb hx => ?_, I.base.free, fun b o e hx => ?_, I.base.tups, I.base.frzs, I.base.tbls⟩, ⟨m, hn.sameBut hs (Ne.symm (cne x c hc)), fun j y v' e1 e2 e3 => ?_⟩, fun y c' e => ?_, I.free, I.freeC, fun p hp => ?_, tracked ⟨oc, hoc, I.freeC x c hc⟩ hs, by simpa using I.len⟩ ⟨c, hs, .inr hc⟩
    · exact (hs.2 b (Nat.ne_of_lt (Nat.lt_of_lt_of_le (Heap.lt_size e) (I.ok.cab x c hfn hc)))).trans (I.base.keep b o e n hb hx)
    · obtain ⟨sl, e1⟩ := I.base.slot b o e n hb hx
      exact ⟨sl, (hs.2 b (Nat.ne_of_lt (Nat.lt_of_lt_of_le (Heap.lt_size e) (I.ok.cab x c hfn hc)))).trans e1⟩
    · obtain ⟨o', e1⟩ := I.base.there b o e hx
      exact ⟨o', (hs.2 b (Nat.ne_of_lt (Nat.lt_of_lt_of_le (Heap.lt_size e) (I.ok.cab x c hfn hc)))).trans e1⟩
    · by_cases hj : j = i
      · subst hj
        rw [hi] at e1; cases e1
        rw [List.getElem?_set_self hiσ] at e2
        cases e2
        exact ⟨u, r, .inr ⟨.inl hk, c, hc, hc'⟩⟩
      · rw [List.getElem?_set_ne (Ne.symm hj)] at e2
        obtain ⟨u', r', q⟩ := hl j y v' e1 e2 e3
        refine ⟨u', r', ?_⟩
        rcases q with q | ⟨k, c', e, z'⟩
        · exact .inl q
        · refine .inr ⟨k, c', e, z'.sameBut hs ?_⟩
          rintro rfl
          exact hj (nodup_ix hN e1 (I.ok.inj _ _ _ e hc ▸ hi))
    · by_cases hcc : c' = c
      · subst hcc; exact ⟨_, hc'⟩
      · obtain ⟨w2, z2⟩ := I.cell y c' e
        exact ⟨w2, z2.sameBut hs hcc⟩
    · obtain ⟨e, n, ne, nf, d⟩ := I.pin p hp
      refine ⟨(hs.2 p.1 ?_).trans e, n, ne, nf, d⟩
      intro q
      rw [q, hoc] at e
      have q' : oc = p.2 := Option.some.inj e
      exact d w' (by rw [← q']; exact hocd)
theorem store_ok {M : Model} {A : Around} {E : Value → Shared → Prop} {i : Nat} {x : Str} {v : V} {u : Value} {Q : Unit → Shared → Prop} (I : Inv X pins σ H s) (hN : X.N.Nodup) (hi : X.N[i]? = some x) (hx : Loc X.env.scope x) (r : RelV v u)
    (h : ∀ s', Inv X pins (σ.set i (some v)) H s' → Q () s') (hf : X.fn x = true ∨ X.env.scope.names.lookup x = some .local := by first | exact .inl rfl | exact .inr rfl | assumption) : wpAny M A (storeName X.env x u) Q E s :=
  store_ok2 I hN hi hx r (fun s' I' _ => h s' I') hf
/-- behind a call or a block, the state as it is -/
theorem Inv.call' {s' : Shared} {ch : List Addr} (I : Inv X pins σ H s) (ho : s'.os = s.os) (u : Un (frs X.stack) ch H H' s.heap s'.heap) (hok : HOk X.prog X.w H' s'.heap) (hg : AllBare s'.gens)
    (hch : ∀ b ∈ ch, (b ∈ X.ex ∨ X.s₀.heap.objs.size ≤ b) ∧ b ≠ X.env.locals ∧ (∀ x c, X.env.cells.lookup x = some c → c ≠ b) ∧ ∀ p ∈ X.pn ++ pins, p.1 ≠ b) : Inv X pins σ H' s' := by
  obtain ⟨h', g', d', t', o'⟩ := s'
  have e : o' = s.os := ho
  subst e
  exact I.call (g' := g') (t' := t') (d' := d') u hok hg hch
end

/-! ### the judgements -/
/-- an exception: its class, its own dict's address (where it has one), the abstract heap behind it -/
abbrev XK := Value → Option Addr → Hp → Prop
abbrev St := List (Option V)
abbrev VK := V → Hp → Prop
/-- an expression's reading; a test's; an argument list's -/
abbrev TE := St → Hp → VK → Prop
abbrev TT := St → Hp → (Bool → Hp → Prop) → Prop
abbrev TA := St → Hp → (List V → Hp → Prop) → Prop
/-- what is wanted behind a statement -/
structure Ends where
  nx : St → Hp → Prop
  rt : VK
  bk : St → Hp → Prop := fun _ _ => False
  ct : St → Hp → Prop := fun _ _ => False
abbrev TS := Ends → St → Hp → Prop

def EP (X : Cx) (pins : List (Addr × Obj)) (σ : St) (Q : VK) (u : Value) (s' : Shared) : Prop := ∃ v H', Inv X pins σ H' s' ∧ RelV v u ∧ Q v H'
def TP (X : Cx) (pins : List (Addr × Obj)) (σ : St) (Q : Bool → Hp → Prop) (b : Bool) (s' : Shared) : Prop := ∃ H', Inv X pins σ H' s' ∧ Q b H'
def AP (X : Cx) (pins : List (Addr × Obj)) (σ : St) (Q : List V → Hp → Prop) (us : List Value) (s' : Shared) : Prop := ∃ vs H', Inv X pins σ H' s' ∧ Vals vs us ∧ Q vs H'
def SP (X : Cx) (pins : List (Addr × Obj)) (D : Ends) (f : Flow) (s' : Shared) : Prop :=
  match f with
  | .next => ∃ σ' H', Inv X pins σ' H' s' ∧ D.nx σ' H'
  | .brk => ∃ σ' H', Inv X pins σ' H' s' ∧ D.bk σ' H'
  | .cont => ∃ σ' H', Inv X pins σ' H' s' ∧ D.ct σ' H'
  | .ret u => ∃ v σ' H', Inv X pins σ' H' s' ∧ RelV v u ∧ D.rt v H'

def PE (X : Cx) (e : Expr) (t : TE) : Prop :=
  ∀ (pins : List (Addr × Obj)) (s : Shared) (σ : St) (H : Hp) (Q : VK), Inv X pins σ H s → t σ H Q → wpAny (model X.prog X.w) X.A (eval e X.env) (EP X pins σ Q) X.xe s
def PT (X : Cx) (e : Expr) (t : TT) : Prop :=
  ∀ (pins : List (Addr × Obj)) (s : Shared) (σ : St) (H : Hp) (Q : Bool → Hp → Prop), Inv X pins σ H s → t σ H Q → wpAny (model X.prog X.w) X.A (isTrue e X.env (eval e X.env)) (TP X pins σ Q) X.xe s
/-- a test whatever its 'whole' is (and, or) -/
def PW (X : Cx) (e : Expr) (t : TT) : Prop :=
  ∀ (whole : Sem Value) (pins : List (Addr × Obj)) (s : Shared) (σ : St) (H : Hp) (Q : Bool → Hp → Prop), Inv X pins σ H s → t σ H Q → wpAny (model X.prog X.w) X.A (isTrue e X.env whole) (TP X pins σ Q) X.xe s
theorem PW.pt {X : Cx} {e : Expr} {t : TT} (h : PW X e t) : PT X e t := h _
/-- an argument list (no star), from the left -/
def PA (X : Cx) (es : List Expr) (t : TA) : Prop :=
  ∀ (pos : Pos) (pins : List (Addr × Obj)) (s : Shared) (σ : St) (H : Hp) (Q : List V → Hp → Prop), Inv X pins σ H s → t σ H Q → wpAny (model X.prog X.w) X.A (spliced (backTo pos (starEach es X.env))) (AP X pins σ Q) X.xe s
def PS (X : Cx) (st : Stmt) (t : TS) : Prop :=
  ∀ (pins : List (Addr × Obj)) (s : Shared) (σ : St) (H : Hp) (D : Ends), Inv X pins σ H s → t D σ H → wpAny (model X.prog X.w) X.A (exec st X.env) (SP X pins D) X.xe s
def PSs (X : Cx) (st : List Stmt) (t : TS) : Prop :=
  ∀ (pins : List (Addr × Obj)) (s : Shared) (σ : St) (H : Hp) (D : Ends), Inv X pins σ H s → t D σ H → wpAny (model X.prog X.w) X.A (execs st X.env) (SP X pins D) X.xe s
/-- weaken the end -/
theorem thn {α : Type} {t : Sem α} {Q Q' : α → Shared → Prop} {M : Model} {A : Around} {E : Value → Shared → Prop} {s : Shared} (h : wpAny M A t Q E s) (hQ : ∀ a s, Q a s → Q' a s) : wpAny M A t Q' E s := wpAny_mono h hQ fun _ _ x => x
end L2

namespace L2
open PySem PySem.Spec PyProof.Rows
section
variable {X : Cx}


/-! ### names and constants -/
def tVar (i : Nat) : TE := fun σ H Q => ∃ v, σ[i]? = some (some v) ∧ Q v H
def tC (v : V) : TE := fun _ H Q => Q v H
theorem pe_var {i : Nat} {x : Str} {pos : Pos} (hN : X.N[i]? = some x) (hv : Vis X.env.scope x) (hd : (x == ("__debug__" : Str)) = false := by decide) (hcd : (x == ("__classdict__" : Str)) = false := by decide) : PE X (.Name x pos) (tVar i) := by
  intro pins s σ H Q I h
  obtain ⟨v, e, h⟩ := h
  obtain ⟨m, hn, hl⟩ := I.loc
  obtain ⟨u, r, l⟩ := hl i x v hN e hv
  have fin : EP X pins σ Q u s := ⟨v, H, I, r, h⟩
  rcases l with ⟨hk, hm⟩ | ⟨hk, c, hc, hcell⟩
  · exact wpAny_Name (wpAny_loadName_local I.ok.kind hk hn hm fin) hd
  · rcases hk with hk | hk
    · exact wpAny_Name (wpAny_loadName_cell I.ok.kind hk hc hcell fin) hd
    · exact wpAny_Name (wpAny_loadName_free I.ok.kind hk hc hcell fin hcd) hd
theorem pe_int {i j pos} : PE X (.Constant (.int i) j pos) (tC (.int i)) := fun _ _ _ H _ I h => wpAny_Constant_int ⟨.int i, H, I.tok _, ⟨_, rfl⟩, h⟩
theorem pe_bl {b j pos} : PE X (.Constant (.bool b) j pos) (tC (.bl b)) := fun _ _ _ H _ I h => Constant_bool ⟨.bl b, H, I, rfl, h⟩
theorem pe_non {j pos} : PE X (.Constant .none j pos) (tC .non) := fun _ _ _ H _ I h => Constant_none ⟨.non, H, I, rfl, h⟩
theorem pe_str {x j pos} : PE X (.Constant (.str x) j pos) (tC (.str x)) := fun _ _ _ H _ I h => Calls.Constant_str ⟨.str x, H, I.tok _, ⟨_, rfl⟩, h⟩

/-- a global name of the def -/
def Gl (X : Cx) (x : Str) : Prop := X.env.kindOf x = some .globalImplicit
theorem ld_glob {E : Value → Shared → Prop} {pins : List (Addr × Obj)} {s : Shared} {σ : St} {H : Hp} {x : Str} {u : Value} {pos : Pos} {Q : Value → Shared → Prop} (I : Inv X pins σ H s) (hg : Gl X x) (hm : X.mg x = some u) (h : Q u s)
    (hd : (x == ("__debug__" : Str)) = false := by decide) : wpAny (model X.prog X.w) X.A (eval (.Name x pos) X.env) Q E s :=
  Calls.Name_function_global I.ok.kind hg (Calls.loadGlobal_global (by rw [I.ok.glob]; exact I.mod.glob.keeps I.bk) hm h) hd
theorem ld_blt {E : Value → Shared → Prop} {pins : List (Addr × Obj)} {s : Shared} {σ : St} {H : Hp} {x : Str} {u : Value} {pos : Pos} {Q : Value → Shared → Prop} (I : Inv X pins σ H s) (hg : Gl X x) (hm : X.mg x = none) (hv : bootBuiltins x = some u) (h : Q u s)
    (hn : x ≠ "__name__" := by decide) (hd : (x == ("__debug__" : Str)) = false := by decide) : wpAny (model X.prog X.w) X.A (eval (.Name x pos) X.env) Q E s := by
  obtain ⟨mb, h1, h2⟩ := I.mod.blt
  exact Calls.Name_function_global I.ok.kind hg (Calls.loadGlobal_builtin (by rw [I.ok.glob]; exact I.mod.glob.keeps I.bk) hm (by rw [I.ok.blt]; exact h1.keeps I.bk) ((h2 x hn).trans hv) h) hd
/-- a module's constant, a class, a function, as a value -/
theorem pe_glob {x : Str} {v : V} {u : Value} {pos : Pos} (hg : Gl X x) (hm : X.mg x = some u) (r : RelV v u) (hd : (x == ("__debug__" : Str)) = false := by decide) : PE X (.Name x pos) (tC v) :=
  fun _ _ _ H _ I h => ld_glob I hg hm ⟨v, H, I, r, h⟩ hd
theorem pe_bltn {x : Str} {v : V} {u : Value} {pos : Pos} (hg : Gl X x) (hm : X.mg x = none) (hv : bootBuiltins x = some u) (r : RelV v u) (hn : x ≠ "__name__" := by decide) (hd : (x == ("__debug__" : Str)) = false := by decide) : PE X (.Name x pos) (tC v) :=
  fun _ _ _ H _ I h => ld_blt I hg hm hv ⟨v, H, I, r, h⟩ hn hd

/-! ### arithmetic -/
variable {a b : Expr} {ta tb : TE} {pos : Pos}

/-! ### comparisons -/
/-- a comparison as a value, as a test -/
def tB (t : TE) : TT := fun σ H Q => t σ H fun x H1 => ∃ c, x = .bl c ∧ Q c H1
/-- an expression whose value is a bool, as a test -/
theorem pt_val {e : Expr} {t : TE} (h : PE X e t) (he : ∀ whole, isTrue e X.env whole = (do let v ← whole; standAt e.pos; holding [v] (truthy v)) := by intro _; rfl) : PT X e (tB t) := by
  intro pins s σ H Q I hw
  refine isTrue_plain (thn (h pins s σ H _ I hw) fun v s1 ⟨x, H1, I1, r1, q1⟩ => ?_) (he _)
  obtain ⟨d, rfl, q⟩ := q1
  cases r1
  exact wpAny_truthy_bool ⟨H1, I1, q⟩

/-! ### and, or, not -/
variable {tA tB' : TT} {rest : List Expr}
def tAnd (t u : TT) : TT := fun σ H Q => t σ H fun c H1 => if c = true then u σ H1 Q else Q false H1
def tOr (t u : TT) : TT := fun σ H Q => t σ H fun c H1 => if c = true then Q true H1 else u σ H1 Q
def tNot (t : TT) : TT := fun σ H Q => t σ H fun c H1 => Q (!c) H1
theorem pw_and1 (ha : PT X a tA) : PW X (.BoolOp .And [a] pos) tA := by
  intro wh pins s σ H Q I h
  refine isTrue_and (thn (ha pins s σ H Q I h) fun c s1 e => ?_)
  cases c with
  | true => exact isTrue_and_nil e
  | false => exact e
theorem pw_or1 (ha : PT X a tA) : PW X (.BoolOp .Or [a] pos) tA := by
  intro wh pins s σ H Q I h
  refine isTrue_or (thn (ha pins s σ H Q I h) fun c s1 e => ?_)
  cases c with
  | false => exact isTrue_or_nil e
  | true => exact e
theorem pw_and (ha : PT X a tA) (hb : PW X (.BoolOp .And (b :: rest) pos) tB') : PW X (.BoolOp .And (a :: b :: rest) pos) (tAnd tA tB') := by
  intro wh pins s σ H Q I h
  refine isTrue_and (thn (ha pins s σ H _ I h) fun c s1 ⟨H1, I1, q1⟩ => ?_)
  cases c with
  | true => exact hb wh pins s1 σ H1 Q I1 q1
  | false => exact ⟨H1, I1, q1⟩
theorem pw_or (ha : PT X a tA) (hb : PW X (.BoolOp .Or (b :: rest) pos) tB') : PW X (.BoolOp .Or (a :: b :: rest) pos) (tOr tA tB') := by
  intro wh pins s σ H Q I h
  refine isTrue_or (thn (ha pins s σ H _ I h) fun c s1 ⟨H1, I1, q1⟩ => ?_)
  cases c with
  | true => exact ⟨H1, I1, q1⟩
  | false => exact hb wh pins s1 σ H1 Q I1 q1
theorem pt_not (ha : PT X a tA) : PT X (.UnaryOp .Not a pos) (tNot tA) := by
  intro pins s σ H Q I h
  exact isTrue_not (ha pins s σ H (fun c H1 => Q (!c) H1) I h)
/-- .. as values (bools) -/
def tAndV (ta tb : TE) : TE := fun σ H Q => ta σ H fun x H1 => ∃ c, x = .bl c ∧ if c = true then tb σ H1 Q else Q (.bl false) H1
def tNotV (ta : TE) : TE := fun σ H Q => ta σ H fun x H1 => ∃ c, x = .bl c ∧ Q (.bl (!c)) H1
theorem pe_one {op} {t : TE} (h : PE X a t) : PE X (.BoolOp op [a] pos) t := fun pins s σ H Q I hw => BoolOp_one (h pins s σ H Q I hw)
theorem pe_and (ha : PE X a ta) (hb : PE X (.BoolOp .And (b :: rest) pos) tb) : PE X (.BoolOp .And (a :: b :: rest) pos) (tAndV ta tb) := by
  intro pins s σ H Q I h
  refine BoolOp_and (thn (ha pins s σ H _ I h) fun v s1 ⟨x, H1, I1, r1, q1⟩ => ?_)
  obtain ⟨c, rfl, q1⟩ := q1
  cases r1
  refine wpAny_truthy_bool ?_
  cases c with
  | true => exact hb pins s1 σ H1 Q I1 q1
  | false => exact ⟨.bl false, H1, I1, rfl, q1⟩
theorem pe_not (ha : PE X a ta) : PE X (.UnaryOp .Not a pos) (tNotV ta) := by
  intro pins s σ H Q I h
  refine UnaryOp_ (thn (ha pins s σ H _ I h) fun v s1 ⟨x, H1, I1, r1, q1⟩ => ?_)
  obtain ⟨c, rfl, q1⟩ := q1
  cases r1
  exact not_of (wpAny_truthy_bool ⟨.bl (!c), H1, I1, rfl, q1⟩)
end
end L2

namespace L2
open PySem PySem.Spec PyProof.Rows

/-! ### a list, a tuple that is read: tracked, frozen, or an object of the module -/
def SqL (K : PySem.W.Frag) (H : Hp) (a : Addr) (xs : List V) : Prop :=
  Rd H a (.lst xs) ∨
    ∃ (o : Obj) (its : Array Value) (n : Nat), K.lookup a = some o ∧ o.cls = .type "list" ∧ o.dict = none ∧ o.data = .seq its n ∧ its.size ≤ sizeLine ∧ Vals xs its.toList
def SqT (K : PySem.W.Frag) (H : Hp) (a : Addr) (xs : List V) : Prop :=
  Rd H a (.tup xs) ∨
    ∃ (o : Obj) (its : Array Value) (n : Nat), K.lookup a = some o ∧ o.cls = .type "tuple" ∧ o.data = .seq its n ∧ its.size ≤ sizeLine ∧ Vals xs its.toList
def absV : Value → Option V
  | .none => some .non
  | .bool b => some (.bl b)
  | .int i _ => some (.int i)
  | .str x _ => some (.str x)
  | .bytes b _ => some (.byt b)
  | .float b _ => some (.flt b)
  | .ref a => some (.ref a)
  | .type n => some (.ty n)
  | _ => none
theorem RelV.abs {x : V} {u : Value} (r : RelV x u) : absV u = some x := by
  cases x with
  | non => cases r; rfl
  | bl _ => cases r; rfl
  | int _ => obtain ⟨t, rfl⟩ := r; rfl
  | str _ => obtain ⟨t, rfl⟩ := r; rfl
  | byt _ => obtain ⟨t, rfl⟩ := r; rfl
  | flt _ => obtain ⟨t, rfl⟩ := r; rfl
  | ref _ => cases r; rfl
  | ty _ => cases r; rfl
theorem RelV.inj {x y : V} {u : Value} (r : RelV x u) (q : RelV y u) : x = y := Option.some.inj (r.abs.symm.trans q.abs)
theorem Vals.inj : ∀ {xs ys : List V} {us : List Value}, Vals xs us → Vals ys us → xs = ys
  | _, _, _, .nil, .nil => rfl
  | _, _, _, .cons r t, .cons r' t' => by rw [r.inj r', Vals.inj t t']
section
variable {X : Cx} {pins : List (Addr × Obj)} {σ : St} {H : Hp} {s : Shared} {a : Addr} {xs ys : List V}
theorem SqL.of {K : PySem.W.Frag} (h : H a = some (.lst xs)) : SqL K H a xs := .inl (.inl h)
theorem SqT.of {K : PySem.W.Frag} (h : H a = some (.tup xs)) : SqT K H a xs := .inl (.inl h)
theorem Inv.list (I : Inv X pins σ H s) (h : SqL X.K H a xs) : ∃ its : List Value, Vals xs its ∧ PlainL s.heap a its.toArray ∧ xs.length ≤ sizeLine := by
  rcases h with h | ⟨o, its, n, hk, hc, hd, hs, hz, r⟩
  · obtain ⟨z, its, n, r, e⟩ := h.ok I.hok
    exact ⟨its, r, ⟨_, n, e, rfl, rfl, rfl⟩, z⟩
  · refine ⟨its.toList, r, ⟨o, n, I.kIn a o hk, hc, hd, by simpa using hs⟩, ?_⟩
    have e := r.length
    simp only [Array.length_toList] at e
    omega
theorem Inv.tuple (I : Inv X pins σ H s) (h : SqT X.K H a xs) : ∃ its : List Value, Vals xs its ∧ IsTup s.heap a its.toArray ∧ xs.length ≤ sizeLine := by
  rcases h with h | ⟨o, its, n, hk, hc, hs, hz, r⟩
  · obtain ⟨z, its, r, p⟩ := h.ok I.hok
    exact ⟨its, r, p, z⟩
  · refine ⟨its.toList, r, ⟨o, I.kIn a o hk, hc, n, by simpa using hs⟩, ?_⟩
    have e := r.length
    simp only [Array.length_toList] at e
    omega
theorem Inv.list_inj (I : Inv X pins σ H s) (h : SqL X.K H a xs) (h' : SqL X.K H a ys) : xs = ys := by
  obtain ⟨its, r, ⟨o, n, e, _, _, d⟩, _⟩ := I.list h
  obtain ⟨its', r', ⟨o', n', e', _, _, d'⟩, _⟩ := I.list h'
  rw [e] at e'; cases e'
  rw [d] at d'
  injection d' with d1 _
  have : its = its' := by simpa using congrArg Array.toList d1
  subst this
  exact r.inj r'
end

/-! ### another wish about exceptions -/
abbrev Cx.wish (X : Cx) (E : Value → Shared → Prop) : Cx := { X with xe := E }
/-- no exception leaves -/
abbrev Cx.nox (X : Cx) : Cx := X.wish fun _ _ => False
theorem Cx.Ok.wish {X : Cx} (ok : X.Ok) (E : Value → Shared → Prop) : (X.wish E).Ok :=
  ⟨ok.mod, ok.kind, ok.glob, ok.blt, ok.above, ok.inj, ok.has, ok.cab, ok.hd, ok.frames, ok.stk, ok.exf, ok.bs, ok.bsz, ok.noex, ok.exfs, ok.funs, ok.frf⟩
theorem Cx.Ok.unwish {X : Cx} {E : Value → Shared → Prop} (ok : (X.wish E).Ok) : X.Ok :=
  ⟨ok.mod, ok.kind, ok.glob, ok.blt, ok.above, ok.inj, ok.has, ok.cab, ok.hd, ok.frames, ok.stk, ok.exf, ok.bs, ok.bsz, ok.noex, ok.exfs, ok.funs, ok.frf⟩
section
variable {X : Cx} {pins : List (Addr × Obj)} {σ : St} {H : Hp} {s : Shared} {E : Value → Shared → Prop}
theorem Inv.wish (I : Inv X pins σ H s) (E : Value → Shared → Prop) : Inv (X.wish E) pins σ H s := ⟨I.ok.wish E, I.os, I.bare, I.base, I.loc, I.cell, I.free, I.freeC, I.pin, I.hok, I.len⟩
theorem Inv.unwish (I : Inv (X.wish E) pins σ H s) : Inv X pins σ H s := ⟨I.ok.unwish, I.os, I.bare, I.base, I.loc, I.cell, I.free, I.freeC, I.pin, I.hok, I.len⟩
theorem SP.unwish {D : Ends} {f : Flow} {s' : Shared} (h : SP (X.wish E) pins D f s') : SP X pins D f s' := by
  cases f with
  | next => obtain ⟨σ', H', I, q⟩ := h; exact ⟨σ', H', I.unwish, q⟩
  | brk => obtain ⟨σ', H', I, q⟩ := h; exact ⟨σ', H', I.unwish, q⟩
  | cont => obtain ⟨σ', H', I, q⟩ := h; exact ⟨σ', H', I.unwish, q⟩
  | ret u => obtain ⟨v, σ', H', I, r, q⟩ := h; exact ⟨v, σ', H', I.unwish, r, q⟩
theorem PSs.nox {st : List Stmt} {t : TS} (h : PSs X.nox st t) : PSs X st t := fun pins s σ H D I hw =>
  wpAny_mono (h pins s σ H D (I.wish _) hw) (fun _ _ q => q.unwish) fun _ _ z => False.elim z
end

/-! ### blocks and small statements -/
section
variable {X : Cx} {st : Stmt} {rest : List Stmt} {t u : TS} {e : Expr} {te : TE} {pos : Pos}
def tNext : TS := fun D σ H => D.nx σ H
def tSeq (t u : TS) : TS := fun D σ H => t { D with nx := u D } σ H
theorem pss_nil : PSs X [] tNext := fun _ _ σ H _ I h => wpAny_execs_nil ⟨σ, H, I, h⟩
theorem pss_cons (h1 : PS X st t) (h2 : PSs X rest u) : PSs X (st :: rest) (tSeq t u) := by
  intro pins s σ H D I h
  refine wpAny_execs_cons (thn (h1 pins s σ H { D with nx := u D } I h) fun f s1 q => ?_)
  cases f with
  | next =>
    obtain ⟨σ', H', I', q⟩ := q
    exact h2 pins s1 σ' H' D I' q
  | ret v => exact q
  | brk => exact q
  | cont => exact q
theorem pss_one (h1 : PS X st t) : PSs X [st] t := by
  intro pins s σ H D I h
  refine wpAny_execs_cons (thn (h1 pins s σ H D I h) fun f s1 q => ?_)
  cases f with
  | next => exact wpAny_execs_nil q
  | ret v => exact q
  | brk => exact q
  | cont => exact q
/-- in a def's body nothing is shown -/
theorem Inv.quiet {pins : List (Addr × Obj)} {σ : St} {H : Hp} {s : Shared} (I : Inv X pins σ H s) : interactive X.env = false := by simp [interactive, I.ok.kind]
/-- an expression whose value is dropped -/
def tDrop (te : TE) : TS := fun D σ H => te σ H fun _ H1 => D.nx σ H1
theorem ps_expr (he : PE X e te) (hs : swapsWith e none pos.line X.env = pure false := by rfl) : PS X (.Expr e pos) (tDrop te) := by
  intro pins s σ H D I h
  exact wpAny_Expr_any (thn (he pins s σ H _ I h) fun v s1 ⟨x, H1, I1, r1, q1⟩ => ⟨σ, H1, I1, q1⟩) I.quiet hs
def tRet (te : TE) : TS := fun D σ H => te σ H D.rt
theorem ps_ret (he : PE X e te) : PS X (.Return (some e) pos) (tRet te) := by
  intro pins s σ H D I h
  exact wpAny_Return_some (thn (he pins s σ H _ I h) fun v s1 ⟨x, H1, I1, r1, q1⟩ => ⟨x, σ, H1, I1, r1, q1⟩)
def tIfS (c : TT) (t u : TS) : TS := fun D σ H => c σ H fun b H1 => if b = true then t D σ H1 else u D σ H1
theorem ps_if {c : Expr} {a b : List Stmt} {tc : TT} (hc : PT X c tc) (ha : PSs X a t) (hb : PSs X b u) : PS X (.If c a b pos) (tIfS tc t u) := by
  intro pins s σ H D I h
  refine wpAny_If (thn (hc pins s σ H _ I h) fun d s1 ⟨H1, I1, q1⟩ => ?_)
  cases d with
  | true => exact ha pins s1 σ H1 D I1 q1
  | false => exact hb pins s1 σ H1 D I1 q1
/-- code that the proof never comes to -/
def tNever : TS := fun _ _ _ => False
theorem ps_never : PS X st tNever := fun _ _ _ _ _ _ h => h.elim
end

/-! ### targets -/
abbrev TG := V → St → Hp → (St → Hp → Prop) → Prop
abbrev TGs := List V → St → Hp → (St → Hp → Prop) → Prop
def PG (X : Cx) (target : Expr) (t : TG) : Prop :=
  ∀ (pins : List (Addr × Obj)) (s : Shared) (σ : St) (H : Hp) (v : V) (u : Value) (Q : St → Hp → Prop), Inv X pins σ H s → RelV v u → t v σ H Q →
    wpAny (model X.prog X.w) X.A (assign target X.env u) (fun _ s' => ∃ σ' H', Inv X pins σ' H' s' ∧ Q σ' H') X.xe s
/-- several targets, one after another -/
def PGs (X : Cx) (ts : List Expr) (t : TGs) : Prop :=
  ∀ (pins : List (Addr × Obj)) (s : Shared) (σ : St) (H : Hp) (vs : List V) (us : List Value) (Q : St → Hp → Prop), Inv X pins σ H s → Vals vs us → t vs σ H Q →
    wpAny (model X.prog X.w) X.A (assignInOrder ((assignEach ts X.env).map (·.2)) us) (fun _ s' => ∃ σ' H', Inv X pins σ' H' s' ∧ Q σ' H') X.xe s
/-- o[i] = v, by values -/
abbrev TSet := V → V → V → Hp → (Hp → Prop) → Prop
def PSet (X : Cx) (t : TSet) : Prop :=
  ∀ (pins : List (Addr × Obj)) (s : Shared) (σ : St) (H : Hp) (o i v : V) (ov iv u : Value) (Q : Hp → Prop), Inv X pins σ H s → RelV o ov → RelV i iv → RelV v u → t o i v H Q →
    wpAny (model X.prog X.w) X.A (setItem ov iv u) (fun _ s' => ∃ H', Inv X pins σ H' s' ∧ Q H') X.xe s
section
variable {X : Cx} {pos : Pos}
def gName (i : Nat) : TG := fun v σ H Q => Q (σ.set i (some v)) H
theorem pg_name {i : Nat} {x : Str} (hN : X.N.Nodup) (hi : X.N[i]? = some x) (hx : Loc X.env.scope x) (hf : X.fn x = true ∨ X.env.scope.names.lookup x = some .local := by first | exact .inl rfl | exact .inr rfl | assumption) : PG X (.Name x pos) (gName i) := by
  intro pins s σ H v u Q I r h
  exact wpAny_assign_Name (store_ok I hN hi hx r (fun s' I' => ⟨_, H, I', h⟩) hf)
def gNil : TGs := fun vs σ H Q => vs = [] ∧ Q σ H
def gCons (t : TG) (u : TGs) : TGs := fun vs σ H Q => ∃ v r, vs = v :: r ∧ t v σ H fun σ' H' => u r σ' H' Q
theorem pgs_nil : PGs X [] gNil := by
  intro pins s σ H vs us Q I r h
  obtain ⟨e, h⟩ := h
  subst e
  cases r
  exact assignInOrder_nil ⟨σ, H, I, h⟩
theorem pgs_cons {e : Expr} {es : List Expr} {t : TG} {u : TGs} (h1 : PG X e t) (h2 : PGs X es u)
    (hs : (assignEach (e :: es) X.env).map (·.2) = assign e X.env :: (assignEach es X.env).map (·.2) := by rfl) : PGs X (e :: es) (gCons t u) := by
  intro pins s σ H vs us Q I r h
  obtain ⟨v, vr, e1, h⟩ := h
  subst e1
  cases r with
  | cons r rr =>
    rw [hs]
    refine assignInOrder_cons (thn (h1 pins s σ H _ _ _ I r h) fun _ s1 ⟨σ1, H1, I1, q1⟩ => ?_)
    exact h2 pins s1 σ1 H1 _ _ Q I1 rr q1
/-- (a, b, ..) = a tuple of that length -/
def gTup (K : PySem.W.Frag) (n : Nat) (t : TGs) : TG := fun v σ H Q => ∃ a xs, v = .ref a ∧ SqT K H a xs ∧ xs.length = n ∧ t xs σ H Q
theorem pg_tup {es : List Expr} {k : Nat} {t : TGs} {n : Nat} (hc : X.calm = true) (h : PGs X es t)
    (hn : (assignEach es X.env).length = n := by rfl) (hst : (assignEach es X.env).findIdx? (·.1) = none := by rfl) : PG X (.Tuple es k pos) (gTup X.K n t) := by
  intro pins s σ H v u Q I r hw
  obtain ⟨a, xs, e1, hq, hl, hw⟩ := hw
  subst e1
  cases r
  obtain ⟨its, rv, ht, hz⟩ := I.tuple hq
  refine assign_Tuple_tuple (I.ok.hd hc) ht (by simp [hn, ← hl, rv.length]) hst fun h' hx => ?_
  have I1 : Inv X pins σ H { s with heap := h' } := I.kept (t' := s.toks) fun b o e => hx b o (Nat.ne_of_lt (Heap.lt_size e)) e
  exact h pins _ σ H xs _ Q I1 (by simpa using rv) hw
/-- o[i] = .. -/
def gSub (to ti : TE) (t : TSet) : TG := fun v σ H Q => to σ H fun o H1 => ti σ H1 fun i H2 => t o i v H2 fun H3 => Q σ H3
theorem pg_sub {o i : Expr} {to ti : TE} {t : TSet} (ho : PE X o to) (hi : PE X i ti) (hs : PSet X t)
    (ha : ∀ v, assign (.Subscript o i pos) X.env v = (do
      let ov ← holding [v] (eval o X.env)
      let iv ← holding [v, ov] (eval i X.env)
      standAt pos
      holding [v, ov, iv] (setItem ov iv v)
      release [v, ov, iv] []) := by intro _; rfl) : PG X (.Subscript o i pos) (gSub to ti t) := by
  intro pins s σ H v u Q I r h
  rw [ha]
  refine wpAny_bind (wpAny_holding (thn (ho pins s σ H _ I h) fun ov s1 ⟨x, H1, I1, r1, q1⟩ => ?_))
  refine wpAny_bind (wpAny_holding (thn (hi pins s1 σ H1 _ I1 q1) fun iv s2 ⟨y, H2, I2, r2, q2⟩ => ?_))
  refine wpAny_bind (wpAny_standAt (wpAny_bind (wpAny_holding (thn (hs pins s2 σ H2 x y v ov iv u _ I2 r1 r2 r q2) fun _ s3 ⟨H3, I3, q3⟩ => ?_))))
  exact wpAny_release ⟨σ, H3, I3, q3⟩
/-- target = value -/
def tAsg (te : TE) (g : TG) : TS := fun D σ H => te σ H fun x H1 => g x σ H1 D.nx
theorem ps_asg {tg e : Expr} {te : TE} {g : TG} (he : PE X e te) (hg : PG X tg g) (hs : swapsWithSole [tg] e pos.line X.env = pure false := by rfl) (hw : swappedStores [tg] e X.env = pure none := by rfl)
    (h1 : (assignEach [tg] X.env).map (·.2) = [assign tg X.env] := by rfl) : PS X (.Assign [tg] e pos) (tAsg te g) := by
  intro pins s σ H D I h
  refine wpAny_Assign_stores (thn (he pins s σ H _ I h) fun v s1 ⟨x, H1, I1, r1, q1⟩ => ?_) hs hw
  rw [h1]
  exact thn (hg pins s1 σ H1 x v _ I1 r1 q1) fun _ s2 q => q
/-- name = value -/
theorem ps_set {i : Nat} {x : Str} {e : Expr} {te : TE} {pos' : Pos} (hN : X.N.Nodup) (hi : X.N[i]? = some x) (hx : Loc X.env.scope x) (he : PE X e te) (hs : swapsWith e (some (.Name x pos')) pos.line X.env = pure false := by rfl) (hf : X.fn x = true ∨ X.env.scope.names.lookup x = some .local := by first | exact .inl rfl | exact .inr rfl | assumption) :
    PS X (.Assign [.Name x pos'] e pos) (tAsg te (gName i)) := by
  intro pins s σ H D I h
  refine wpAny_Assign_Name (thn (he pins s σ H _ I h) fun v s1 ⟨y, H1, I1, r1, q1⟩ => ?_) hs
  exact store_ok I1 hN hi hx r1 (fun s2 I2 => ⟨_, H1, I2, q1⟩) hf
/-- a, b = x, y with plain local names: stored from the right; the pair itself is not tracked (the opening rows as in PyProof/Rows/TupAssign.lean:23) -/
def tPar (i j : Nat) (ta : TA) : TS := fun D σ H => ta σ H fun vs H1 => ∃ v w, vs = [v, w] ∧ D.nx ((σ.set i (some v)).set j (some w)) H1
theorem ps_par {i j : Nat} {x y : Str} {a b : Expr} {ta : TA} {px py pt : Pos} {kt k2 pt2} (hc : X.calm = true) (hN : X.N.Nodup) (hi : X.N[i]? = some x) (hj : X.N[j]? = some y) (hij : i ≠ j)
    (hx : X.env.scope.names.lookup x = some .local) (hy : X.env.scope.names.lookup y = some .local) (ha : PA X [a, b] ta)
    (hw : swappedStores [.Tuple [.Name x px, .Name y py] kt pt] (.Tuple [a, b] k2 pt2) X.env = pure (some [x, y]))
    (hs : swapsWithSole [.Tuple [.Name x px, .Name y py] kt pt] (.Tuple [a, b] k2 pt2) pos.line X.env = pure false := by rfl) :
    PS X (.Assign [.Tuple [.Name x px, .Name y py] kt pt] (.Tuple [a, b] k2 pt2) pos) (tPar i j ta) := by
  intro pins s σ H D I h
  rw [exec_Assign_arm]
  refine wpAny_bind (wpAny_standAt ?_)
  rw [hs]
  refine wpAny_bind (wpAny_pure ?_)
  rw [if_neg (by decide)]
  refine wpAny_bind (Tuple_ (thn (ha _ pins s σ H _ I h) fun us s1 ⟨vs, H1, I1, r1, q1⟩ => ?_))
  obtain ⟨v, w, e1, q1⟩ := q1
  subst e1
  obtain ⟨u1, u2, rfl, rv, rw'⟩ : ∃ u1 u2, us = [u1, u2] ∧ RelV v u1 ∧ RelV w u2 := by
    cases r1 with
    | cons p q =>
      cases q with
      | cons p' q' =>
        cases q'
        exact ⟨_, _, rfl, p, p'⟩
  refine wpAny_newObj_type ?_ (by show 2 ≤ sizeLine; decide)
  have I2 : Inv X pins σ H1 { s1 with heap := s1.heap.push { cls := .type "tuple", data := .seq [u1, u2].toArray } } := I1.kept (t' := s1.toks) fun b o e => Heap.get?_push_of_some _ e
  rw [hw]
  refine wpAny_bind (wpAny_pure ?_)
  show wpAny (model X.prog X.w) X.A (do rule "assign.swapped-stores"; let items ← unpackItems (.ref s1.heap.objs.size) 2 none; assignInOrder [fun v => bindName X.env y v, fun v => bindName X.env x v] items.reverse; pure Flow.next) _ _ _
  refine wpAny_bind (wpAny_rule (wpAny_bind (unpackItems_tuple (items := #[u1, u2]) (I.ok.hd hc) (IsTup.new s1.heap _) fun h' hx' => ?_)))
  have I3 := I2.kept (h' := h') (t' := s1.toks) fun b o e => hx' b o (Nat.ne_of_lt (Heap.lt_size e)) e
  show wpAny _ _ (assignInOrder [fun v => bindName X.env y v, fun v => bindName X.env x v] [u2, u1] >>= fun _ => pure Flow.next) _ _ _
  refine wpAny_bind (assignInOrder_cons (wpAny_bindName (store_ok I3 hN hj (.inl hy) rw' (fun s2 I4 => ?_) (.inr hy))))
  refine assignInOrder_cons (wpAny_bindName (store_ok I4 hN hi (.inl hx) rv (fun s3 I5 => assignInOrder_nil (wpAny_pure ?_)) (.inr hx)))
  rw [List.set_comm _ _ (Ne.symm hij)] at I5
  exact ⟨_, H1, I5, q1⟩
end

/-! ### while -/
section
variable {X : Cx} {pos : Pos}
/-- the invariant W with its measure -/
def tWhile (c : TT) (tb : TS) : TS := fun D σ H => ∃ W : Nat → St → Hp → Prop, (∃ m, W m σ H) ∧ ∀ m σ H, W m σ H →
  c σ H fun b H1 => if b = true then ∃ N : St → Hp → Prop, (∀ σ' H', N σ' H' → ∃ m', m' < m ∧ W m' σ' H') ∧ tb { D with nx := N, ct := N, bk := D.nx } σ H1 else D.nx σ H1
theorem ps_while {c : Expr} {body : List Stmt} {tc : TT} {tb : TS} (hp : PassesOwn (model X.prog X.w) X.A X.env X.xe) (hc : PT X c tc) (hb : PSs X body tb) : PS X (.While c body [] pos) (tWhile tc tb) := by
  intro pins s σ H D I h
  obtain ⟨W, ⟨m0, w0⟩, turn⟩ := h
  refine wpAny_While (codeAny_whileLoop (fun n s' => ∃ σ' H', Inv X pins σ' H' s' ∧ W n σ' H') ?_ m0 ⟨σ, H, I, w0⟩)
  rintro n s1 ⟨σ1, H1, I1, w1⟩
  refine wpAny_passesOwn hp (thn (hc pins s1 σ1 H1 _ I1 (turn n σ1 H1 w1)) fun b s2 ⟨H2, I2, q2⟩ => ?_)
  cases b with
  | true =>
    obtain ⟨N, hN, q2⟩ := q2
    rw [if_pos rfl]
    refine wpAny_passesOwn hp (thn (hb pins s2 σ1 H2 _ I2 q2) fun f s3 q3 => ?_)
    cases f with
    | next =>
      obtain ⟨σ3, H3, I3, n3⟩ := q3
      obtain ⟨m', hm, w3⟩ := hN σ3 H3 n3
      exact ⟨m', hm, σ3, H3, I3, w3⟩
    | cont =>
      obtain ⟨σ3, H3, I3, n3⟩ := q3
      obtain ⟨m', hm, w3⟩ := hN σ3 H3 n3
      exact ⟨m', hm, σ3, H3, I3, w3⟩
    | brk => exact q3
    | ret v => exact q3
  | false =>
    rw [if_neg Bool.false_ne_true]
    exact wpAny_execs_nil ⟨σ1, H2, I2, q2⟩
end

/-! ### what a loop or a comprehension walks -/
/-- at turn i: it yields x (the heap may grow), or it stops -/
structure It where
  go : Nat → Hp → Prop
  yld : Nat → Hp → V → Hp → Prop
  stop : Nat → Hp → Prop
/-- the iterator's own objects may turn: they are not the frame's, not pinned, younger than the entry (or a comprehension's own) -/
def FpOk (X : Cx) (pins : List (Addr × Obj)) (H : Hp) (b : Addr) : Prop :=
  H b = none ∧ b ≠ X.env.locals ∧ b ∉ X.fs ∧ (b ∈ X.ex ∨ X.s₀.heap.objs.size ≤ b) ∧ (∀ x c, X.env.cells.lookup x = some c → c ≠ b) ∧ ∀ p ∈ X.pn ++ pins, p.1 ≠ b
theorem Inv.fpOk {X : Cx} {pins : List (Addr × Obj)} {σ : St} {H H' : Hp} {s : Shared} {b : Addr} (I : Inv X pins σ H s) (hb : s.heap.objs.size ≤ b) (hn : H' b = none) : FpOk X pins H' b := by
  refine ⟨hn, Nat.ne_of_gt (Nat.lt_of_lt_of_le I.lt hb), I.nofs hb, .inr (Nat.le_trans I.sz hb), fun x c e z => ?_, fun p hp z => ?_⟩
  · obtain ⟨v, q⟩ := I.cell x c e
    exact absurd (Nat.lt_of_lt_of_le q.lt (by rw [z]; exact hb)) (Nat.lt_irrefl _)
  · exact absurd (Nat.lt_of_lt_of_le (Heap.lt_size (I.pin p hp).1) (by rw [z]; exact hb)) (Nat.lt_irrefl _)
structure Turn (P : Program) (w : World) (K : PySem.W.Frag) (tg : Expr) (J : It) (fp : List Addr) (it : Addr) (tn : Nat → Heap → Prop) : Prop where
  mem : it ∈ fp
  obj : ∀ i h, tn i h → ∀ b ∈ fp, ∃ o, h.get? b = some o ∧ ∀ v, o.data ≠ .cell v
  keep : ∀ i h h', tn i h → (∀ b ∈ fp, ∀ o, h.get? b = some o → h'.get? b = some o) → tn i h'
  item : ∀ (X : Cx), X.prog = P → X.w = w → X.K = K → X.calm = true → ∀ (i : Nat) (pins : List (Addr × Obj)) (s : Shared) (σ : St) (H : Hp) (E : Value → Shared → Prop), Inv X pins σ H s → (∀ b ∈ fp, FpOk X pins H b) → tn i s.heap → J.go i H →
    wpAny (model P w) X.A (pyNext (.ref it)) (fun r s1 => ∃ u, r = some u ∧
      wpAny (model P w) X.A (letOwnedTupleGo tg (.ref it) u) (fun _ s2 => ∃ x H', Inv X pins σ H' s2 ∧ RelV x u ∧ J.yld i H x H' ∧ tn (i + 1) s2.heap ∧ ∀ b ∈ fp, H' b = none) E s1) E s
  done : ∀ (X : Cx), X.prog = P → X.w = w → X.K = K → X.calm = true → ∀ (i : Nat) (pins : List (Addr × Obj)) (s : Shared) (σ : St) (H : Hp) (E : Value → Shared → Prop), Inv X pins σ H s → (∀ b ∈ fp, FpOk X pins H b) → tn i s.heap → J.stop i H →
    wpAny (model P w) X.A (pyNext (.ref it)) (fun r s1 => r = none ∧ Inv X pins σ H s1) E s
  self : ∀ (A : Around) (i : Nat) (s : Shared) (Q : Value → Shared → Prop) (E : Value → Shared → Prop), tn i s.heap → Q (.ref it) s → wpAny (model P w) A (pyIter (.ref it)) Q E s
abbrev TI := St → Hp → (It → Hp → Prop) → Prop
/-- an iterator has come -/
def PIE (X : Cx) (pins : List (Addr × Obj)) (σ : St) (tg : Expr) (R : It → Hp → Prop) (itv : Value) (s2 : Shared) : Prop :=
  ∃ (it : Addr) (fp : List Addr) (tn : Nat → Heap → Prop) (J : It) (H' : Hp), itv = .ref it ∧ Inv X pins σ H' s2 ∧ Turn X.prog X.w X.K tg J fp it tn ∧ tn 0 s2.heap ∧ (∀ b ∈ fp, FpOk X pins H' b) ∧ R J H'
def PI (X : Cx) (tg iter : Expr) (wi : TI) : Prop :=
  ∀ (pins : List (Addr × Obj)) (s : Shared) (σ : St) (H : Hp) (R : It → Hp → Prop), Inv X pins σ H s → wi σ H R →
    wpAny (model X.prog X.w) X.A (eval iter X.env) (fun v s1 => wpAny (model X.prog X.w) X.A (pyIter v) (PIE X pins σ tg R) X.xe s1) X.xe s

/-- the step ahead of the store is nothing for an iterator that keeps no tuple -/
theorem go_of {M : Model} {A : Around} {E : Value → Shared → Prop} {s : Shared} {tg : Expr} {it : Addr} {u : Value} {o : Obj} {n : String} {vs : Array Value} {Q : Unit → Shared → Prop} (ho : s.heap.get? it = some o) (hc : o.cls = .type n) (hd : o.data = .fields vs)
    (hn : ["enumerate", "zip", "dict_itemiterator", "dict_reverseitemiterator", "odict_iterator", "itertools.zip_longest", "itertools.pairwise"].contains n = false) (hQ : Q () s) : wpAny M A (letOwnedTupleGo tg (.ref it) u) Q E s := by
  unfold letOwnedTupleGo
  cases tg <;> first
    | exact wpAny_pure hQ
    | (cases u <;> first
        | exact wpAny_pure hQ
        | (refine wpAny_bind (wpAny_load ho ?_)
           rw [hc, hd]
           show wpAny M A (if (["enumerate", "zip", "dict_itemiterator", "dict_reverseitemiterator", "odict_iterator", "itertools.zip_longest", "itertools.pairwise"].contains n && vs[0]? == some (rawInt _)) = true then _ else _) Q E s
           rw [if_neg (by intro h; rw [hn, Bool.false_and] at h; cases h)]
           exact wpAny_pure hQ))

/-- the list at a, as it stands at each turn (a loop may append to it) -/
def Itl (K : PySem.W.Frag) (a : Addr) : It :=
  ⟨fun i H => ∃ xs x, SqL K H a xs ∧ xs[i]? = some x, fun i H x H' => H' = H ∧ ∀ xs, SqL K H a xs → xs[i]? = some x, fun i H => ∃ xs, SqL K H a xs ∧ xs.length ≤ i⟩
/-- lo, lo + 1, .. (n of them) -/
def Itr (lo : Int) (n : Nat) : It := ⟨fun i _ => i < n, fun i H x H' => H' = H ∧ x = .int (lo + i), fun i _ => n ≤ i⟩
theorem turn_list {P : Program} {w : World} {K : PySem.W.Frag} {tg : Expr} (a it : Addr) : Turn P w K tg (Itl K a) [it] it (fun i h => h.IsListIter it a i) where
  mem := by simp
  obj := fun i h st b hb => by
    have e : b = it := by simpa using hb
    subst e
    obtain ⟨o, e, c, d⟩ := st
    exact ⟨o, e, fun v z => by rw [d] at z; cases z⟩
  keep := fun i h h' st k => st.at fun o e => k it (by simp) o e
  item := by
    intro X hP hw hK hc i pins s σ H E I hf st hg
    subst hP hw hK
    obtain ⟨xs, x, hq, hx⟩ := hg
    obtain ⟨its, rv, p, hz⟩ := I.list hq
    obtain ⟨u, hu, ru⟩ := rv.get hx
    obtain ⟨f0, f1, f2, f3, f4, f5⟩ := hf it (by simp)
    refine wpAny_pyNext_list_item st p.isList (x := u) (by simpa using hu) fun h' st' sb => ?_
    have I1 : Inv X pins σ H { s with heap := h' } := I.turned (t' := s.toks) (fun b o hb e => (sb.2 b hb).trans e) f0 f1 f3 f4 f5
    obtain ⟨o, e, c, d⟩ := id st'
    exact ⟨u, rfl, go_of (s := { s with heap := h' }) e c d (by decide) ⟨x, H, I1, ru, ⟨rfl, fun ys hy => by rw [I.list_inj hy hq]; exact hx⟩, st', fun b hb => (hf b hb).1⟩⟩
  done := by
    intro X hP hw hK hc i pins s σ H E I hf st hg
    subst hP hw hK
    obtain ⟨xs, hq, hx⟩ := hg
    obtain ⟨its, rv, p, hz⟩ := I.list hq
    obtain ⟨f0, f1, f2, f3, f4, f5⟩ := hf it (by simp)
    have hl := rv.length
    exact wpAny_pyNext_list_end (I.ok.hd hc) st p.isList (by simp; omega) fun h' eb => ⟨rfl, I.turned (t' := s.toks) (fun b o hb e => eb b o hb e) f0 f1 f3 f4 f5⟩
  self := fun _ _ _ _ _ st h => wpAny_pyIter_listiter st h
theorem turn_range {P : Program} {w : World} {K : PySem.W.Frag} {tg : Expr} (it : Addr) (lo : Int) (n : Nat) : Turn P w K tg (Itr lo n) [it] it (fun i h => IsRangeIter h it (lo + (i : Nat) * 1) ((n : Int) - (i : Nat)) 1) where
  mem := by simp
  obj := fun i h st b hb => by
    have e : b = it := by simpa using hb
    subst e
    exact ⟨_, st, fun v z => by
      have z' : Data.fields _ = Data.cell v := z
      cases z'⟩
  keep := fun i h h' st k => k it (by simp) _ st
  item := by
    intro X hP hw hK hc i pins s σ H E I hf st hg
    subst hP hw hK
    obtain ⟨f0, f1, f2, f3, f4, f5⟩ := hf it (by simp)
    have W := Walks.range (prog := X.prog) (w := X.w) (I.ok.hd hc) it lo 1 n
    refine W.item i s _ _ hg st fun v h' tk hv st' kk => ?_
    obtain ⟨t, rfl⟩ := hv
    have I1 : Inv X pins σ H { s with heap := h', toks := tk } := I.turned (fun b o hb e => kk b o (by simpa using hb) e) f0 f1 f3 f4 f5
    refine ⟨_, rfl, go_of (s := { s with heap := h', toks := tk }) (n := "range_iterator") st' rfl rfl (by decide) ⟨.int (lo + i), H, I1, ⟨t, ?_⟩, ⟨rfl, rfl⟩, st', fun b hb => (hf b hb).1⟩⟩
    rw [Int.mul_one]
  done := by
    intro X hP hw hK hc i pins s σ H E I hf st hg
    subst hP hw hK
    obtain ⟨f0, f1, f2, f3, f4, f5⟩ := hf it (by simp)
    exact wpAny_pyNext_range_end (I.ok.hd hc) st (by have : n ≤ i := hg; omega) fun h' eb => ⟨rfl, I.turned (t' := s.toks) (fun b o hb e => eb b o hb e) f0 f1 f3 f4 f5⟩
  self := fun _ _ _ _ _ st h => wpAny_pyIter_rangeiter st h
end L2

namespace L2
open PySem PySem.Spec PyProof.Rows
section
variable {X : Cx} {tg : Expr}
def iList (K : PySem.W.Frag) (tl : TE) : TI := fun σ H R => tl σ H fun x H1 => ∃ a, x = .ref a ∧ (∃ xs, SqL K H1 a xs) ∧ R (Itl K a) H1
theorem pi_list {l : Expr} {tl : TE} (hl : PE X l tl) : PI X tg l (iList X.K tl) := by
  intro pins s σ H R I h
  refine thn (hl pins s σ H _ I h) fun v s1 ⟨x, H1, I1, r1, q1⟩ => ?_
  obtain ⟨a, e, ⟨xs, hq⟩, q⟩ := q1
  subst e
  cases r1
  obtain ⟨its, rv, p, hz⟩ := I1.list hq
  refine wpAny_pyIter_list p.isList ?_
  refine ⟨s1.heap.objs.size, [s1.heap.objs.size], _, _, H1, rfl, I1.kept (t' := s1.toks) fun b o e => Heap.get?_push_of_some _ e, turn_list a _, ⟨_, Heap.get?_push_size _ rfl, rfl, rfl⟩, fun b hb => ?_, q⟩
  have e : b = s1.heap.objs.size := by simpa using hb
  subst e
  exact I1.fpOk (Nat.le_refl _) (I1.hok.fresh (Nat.le_refl _))
/-- a range object just made, walked -/
theorem range_it {pins : List (Addr × Obj)} {σ : St} {H : Hp} {s : Shared} {R : It → Hp → Prop} {E : Value → Shared → Prop} {lo hi : Int} {t u v : Tok} {tk : Nat} (I : Inv X pins σ H s) (h1 : -(2 ^ 62) ≤ lo) (h2 : lo < 2 ^ 62) (h3 : -(2 ^ 62) ≤ hi) (h4 : hi < 2 ^ 62)
    (q : R (Itr lo (hi - lo).toNat) H) : wpAny (model X.prog X.w) X.A (pyIter (.ref s.heap.objs.size)) (PIE X pins σ tg R) E { s with heap := s.heap.push { cls := .type "range", data := .fields #[.int lo t, .int hi u, .int 1 v] }, toks := tk } := by
  refine wpAny_pyIter_range (IsRange.new ..) (small_one h1 h2 h3 h4) ?_
  have I1 : Inv X pins σ H { s with heap := s.heap.push { cls := .type "range", data := .fields #[.int lo t, .int hi u, .int 1 v] }, toks := tk } := I.kept fun b o e => Heap.get?_push_of_some _ e
  refine ⟨(s.heap.push { cls := .type "range", data := .fields #[.int lo t, .int hi u, .int 1 v] }).objs.size, [(s.heap.push { cls := .type "range", data := .fields #[.int lo t, .int hi u, .int 1 v] }).objs.size], _, _, H, rfl,
    I1.kept (t' := tk) fun b o e => Heap.get?_push_of_some _ e, turn_range _ lo (hi - lo).toNat, ?_, fun b hb => ?_, q⟩
  · have e1 : lo + ((0 : Nat) : Int) * 1 = lo := by simp
    have e2 : (((hi - lo).toNat : Nat) : Int) - ((0 : Nat) : Int) = Builtin.Range.rangeSize lo hi 1 := by rw [rangeSize_one]; split <;> omega
    show IsRangeIter _ _ (lo + ((0 : Nat) : Int) * 1) ((((hi - lo).toNat : Nat) : Int) - ((0 : Nat) : Int)) 1
    rw [e1, e2]
    exact Heap.get?_push_size _ rfl
  · have e : b = (s.heap.push { cls := .type "range", data := .fields #[.int lo t, .int hi u, .int 1 v] }).objs.size := by simpa using hb
    subst e
    exact I1.fpOk (Nat.le_refl _) (I1.hok.fresh (Nat.le_refl _))
def iRng1 (ta : TA) : TI := fun σ H R => ta σ H fun vs H1 => ∃ j : Int, vs = [.int j] ∧ -(2 ^ 62) ≤ j ∧ j < 2 ^ 62 ∧ R (Itr 0 j.toNat) H1
theorem pi_range1 {a : Expr} {ta : TA} {p pos : Pos} (hg : Gl X "range") (hm : X.mg "range" = none) (ha : PA X [a] ta) (hs : starEach [a] X.env = [(false, eval a X.env)] := by rfl) : PI X tg (.Call (.Name "range" p) [a] [] pos) (iRng1 ta) := by
  intro pins s σ H R I h
  refine Call_ (ld_blt I hg hm boot_range (PyProof.Rows.callWith_type1 (thn (ha pos pins s σ H _ I h) fun us s1 ⟨vs, H1, I1, r1, q1⟩ => ?_) hs rfl))
  obtain ⟨j, e, q1, q2, q⟩ := q1
  subst e
  cases r1 with
  | cons r rr =>
    cases rr
    obtain ⟨t, rfl⟩ := r
    exact call_range_1 (range_it I1 (by omega) (by omega) q1 q2 (by simpa using q))

/-! ### for -/
/-- W: the invariant by the turn and a measure; N: what the body is to reach -/
def tFor (wi : TI) (g : TG) (tb : TS) : TS := fun D σ H => wi σ H fun J H1 => ∃ W : Nat → Nat → St → Hp → Prop, (∃ m, W 0 m σ H1) ∧ ∀ i m σ H, W i m σ H →
  (J.stop i H ∧ D.nx σ H) ∨ (J.go i H ∧ ∃ N : St → Hp → Prop, (∀ σ' H', N σ' H' → ∃ m', m' < m ∧ W (i + 1) m' σ' H') ∧ ∀ x H', J.yld i H x H' → g x σ H' fun σ2 H2 => tb { D with nx := N, ct := N, bk := D.nx } σ2 H2)
/-- the records at fp as they stand -/
def pinsAt (fp : List Addr) (h : Heap) : List (Addr × Obj) := fp.filterMap fun b => (h.get? b).map fun o => (b, o)
theorem mem_pinsAt {fp : List Addr} {h : Heap} {b : Addr} {o : Obj} (hb : b ∈ fp) (e : h.get? b = some o) : (b, o) ∈ pinsAt fp h := List.mem_filterMap.mpr ⟨b, hb, by rw [e]; rfl⟩
theorem of_pinsAt {fp : List Addr} {h : Heap} {p : Addr × Obj} (hp : p ∈ pinsAt fp h) : p.1 ∈ fp ∧ h.get? p.1 = some p.2 := by
  obtain ⟨b, hb, e⟩ := List.mem_filterMap.mp hp
  cases q : h.get? b with
  | none => rw [q] at e; cases e
  | some o =>
    rw [q] at e
    have e' : (b, o) = p := Option.some.inj e
    subst e'
    exact ⟨hb, q⟩
theorem Inv.pinned {pins : List (Addr × Obj)} {σ : St} {H : Hp} {s : Shared} {fp : List Addr} (I : Inv X pins σ H s) (hf : ∀ b ∈ fp, FpOk X pins H b) (ho : ∀ b ∈ fp, ∃ o, s.heap.get? b = some o ∧ ∀ v, o.data ≠ .cell v) : Inv X (pins ++ pinsAt fp s.heap) σ H s :=
  I.pins_of fun p hp => (List.mem_append.mp hp).elim (fun z => I.pin p (List.mem_append_right _ z)) fun z => by
    obtain ⟨hb, e⟩ := of_pinsAt z
    obtain ⟨f0, f1, f2, _⟩ := hf p.1 hb
    obtain ⟨o, e', d⟩ := ho p.1 hb
    rw [e] at e'; cases e'
    exact ⟨e, f0, f1, f2, d⟩
theorem Inv.unpinned {pins pl : List (Addr × Obj)} {σ : St} {H : Hp} {s : Shared} (I : Inv X (pins ++ pl) σ H s) : Inv X pins σ H s := I.pins_of fun p hp => I.pin p (List.mem_append_right _ (List.mem_append_left _ hp))
theorem ps_for {iter : Expr} {body : List Stmt} {wi : TI} {g : TG} {tb : TS} {pos : Pos} (hp : PassesOwn (model X.prog X.w) X.A X.env X.xe) (hc : X.calm = true) (hi : PI X tg iter wi) (hg : PG X tg g) (hb : PSs X body tb)
    (hs : ∀ x, foldedSetIterable iter X.env x = pure x := by intro _; rfl) : PS X (.For tg iter body [] pos) (tFor wi g tb) := by
  intro pins s σ H D I h
  refine wpAny_For (thn (hi pins s σ H _ I h) fun v s1 h1 => thn h1 fun itv s2 h2 => ?_) hs
  obtain ⟨it, fp, tn, J, H2, e, I2, T, st2, f2, W, ⟨m0, w0⟩, turn⟩ := h2
  subst e
  -- what stays true of the iterator's objects through the loop
  have stat : ∀ {H' : Hp}, (∀ b ∈ fp, H' b = none) → ∀ b ∈ fp, FpOk X pins H' b := fun hn b hb => ⟨hn b hb, (f2 b hb).2⟩
  refine codeAny_forLoop_any (fun n s' => ∃ i σ' H', Inv X pins σ' H' s' ∧ tn i s'.heap ∧ (∀ b ∈ fp, H' b = none) ∧ W i n σ' H') ?_ m0 ⟨0, σ, H2, I2, st2, fun b hb => (f2 b hb).1, w0⟩
  rintro n s3 ⟨i, σ3, H3, I3, st3, fr3, w3⟩
  rcases turn i n σ3 H3 w3 with ⟨stop, qn⟩ | ⟨go, N, hN, step⟩
  · refine wpAny_passesOwn hp (thn (T.done X rfl rfl rfl hc i pins s3 σ3 H3 X.xe I3 (stat fr3) st3 stop) fun r s4 ⟨hr, I4⟩ => ?_)
    subst hr
    exact wpAny_execs_nil ⟨σ3, H3, I4, qn⟩
  · refine wpAny_passesOwn hp (thn (T.item X rfl rfl rfl hc i pins s3 σ3 H3 X.xe I3 (stat fr3) st3 go) fun r s4 ⟨u, hr, h4⟩ => ?_)
    subst hr
    refine wpAny_passesOwn hp (thn h4 fun _ s5 ⟨x, H5, I5, r5, y5, st5, fr5⟩ => ?_)
    have I5' := I5.pinned (stat fr5) (T.obj _ _ st5)
    refine wpAny_passesOwn hp (thn (hg _ s5 σ3 H5 x u _ I5' r5 (step x H5 y5)) fun _ s6 ⟨σ6, H6, I6, q6⟩ => ?_)
    refine wpAny_passesOwn hp (thn (hb _ s6 σ6 H6 _ I6 q6) fun f s7 q7 => ?_)
    have again : ∀ {σ7 : St} {H7 : Hp}, Inv X (pins ++ pinsAt fp s5.heap) σ7 H7 s7 → N σ7 H7 → ∃ m, m < n ∧ ∃ i σ' H', Inv X pins σ' H' s7 ∧ tn i s7.heap ∧ (∀ b ∈ fp, H' b = none) ∧ W i m σ' H' := fun {σ7 H7} I7 n7 => by
      obtain ⟨m', hm, w7⟩ := hN σ7 H7 n7
      refine ⟨m', hm, i + 1, σ7, H7, I7.unpinned, T.keep _ _ _ st5 fun b hb o e => (I7.pin (b, o) (List.mem_append_right _ (List.mem_append_right _ (mem_pinsAt hb e)))).1, fun b hb => ?_, w7⟩
      obtain ⟨o, e, d⟩ := T.obj _ _ st5 b hb
      exact (I7.pin (b, o) (List.mem_append_right _ (List.mem_append_right _ (mem_pinsAt hb e)))).2.1
    cases f with
    | next => obtain ⟨σ7, H7, I7, n7⟩ := q7; exact again I7 n7
    | cont => obtain ⟨σ7, H7, I7, n7⟩ := q7; exact again I7 n7
    | brk => obtain ⟨σ7, H7, I7, q7⟩ := q7; exact ⟨σ7, H7, I7.unpinned, q7⟩
    | ret v => obtain ⟨x7, σ7, H7, I7, r7, q7⟩ := q7; exact ⟨x7, σ7, H7, I7.unpinned, r7, q7⟩
end

/-! ### the forms one uses -/
/-- over a list that the body leaves as it is -/
theorem for_list {K : PySem.W.Frag} {a : Addr} {xs : List V} {g : TG} {tb : TS} {D : Ends} {σ : St} {H : Hp} (Pv : Nat → St → Hp → Prop) (h0 : Pv 0 σ H) (hl : ∀ i σ H, i ≤ xs.length → Pv i σ H → SqL K H a xs)
    (hs : ∀ i x σ H, xs[i]? = some x → Pv i σ H → g x σ H fun σ2 H2 => tb { D with nx := Pv (i + 1), ct := Pv (i + 1), bk := D.nx } σ2 H2) (hd : ∀ σ H, Pv xs.length σ H → D.nx σ H) :
    ∃ W : Nat → Nat → St → Hp → Prop, (∃ m, W 0 m σ H) ∧ ∀ i m σ H, W i m σ H →
      ((Itl K a).stop i H ∧ D.nx σ H) ∨ ((Itl K a).go i H ∧ ∃ N : St → Hp → Prop, (∀ σ' H', N σ' H' → ∃ m', m' < m ∧ W (i + 1) m' σ' H') ∧ ∀ x H', (Itl K a).yld i H x H' → g x σ H' fun σ2 H2 => tb { D with nx := N, ct := N, bk := D.nx } σ2 H2) := by
  refine ⟨fun i m σ H => m = xs.length - i ∧ i ≤ xs.length ∧ Pv i σ H, ⟨xs.length, by simp, Nat.zero_le _, h0⟩, ?_⟩
  rintro i m σ H ⟨rfl, hi, p⟩
  have q := hl i σ H hi p
  by_cases hlt : i < xs.length
  · refine .inr ⟨⟨xs, xs[i], q, by simp [hlt]⟩, Pv (i + 1), fun σ' H' p' => ⟨xs.length - (i + 1), by omega, rfl, hlt, p'⟩, fun x H' y => ?_⟩
    obtain ⟨e, y⟩ := y
    subst e
    exact hs i x σ _ (y xs q) p
  · have e : i = xs.length := by omega
    subst e
    exact .inl ⟨⟨xs, q, Nat.le_refl _⟩, hd σ H p⟩
/-- while, by a word and a measure of the state -/
theorem while_by {c : TT} {tb : TS} {D : Ends} {σ : St} {H : Hp} (Pv : St → Hp → Prop) (μ : St → Hp → Nat) (h0 : Pv σ H)
    (hs : ∀ σ H, Pv σ H → c σ H fun b H1 => if b = true then tb { D with nx := fun σ' H' => Pv σ' H' ∧ μ σ' H' < μ σ H, ct := fun σ' H' => Pv σ' H' ∧ μ σ' H' < μ σ H, bk := D.nx } σ H1 else D.nx σ H1)
    (mono : ∀ σ H Q Q', (∀ b H1, Q b H1 → Q' b H1) → c σ H Q → c σ H Q') : tWhile c tb D σ H := by
  refine ⟨fun m σ H => m = μ σ H ∧ Pv σ H, ⟨_, rfl, h0⟩, ?_⟩
  rintro m σ H ⟨rfl, p⟩
  refine mono σ H _ _ (fun b H1 q => ?_) (hs σ H p)
  cases b with
  | true => exact ⟨_, fun σ' H' ⟨p', l⟩ => ⟨_, l, rfl, p'⟩, q⟩
  | false => exact q
end L2

namespace L2
open PySem PySem.Spec PyProof.Rows

abbrev R2 := V → V → Hp → VK → Prop
/-- a two-place operation on values: f is binaryOp op, inplaceOp op or compareOp op -/
def OpR (X : Cx) (f : Value → Value → Sem Value) (r : R2) : Prop :=
  ∀ (pins : List (Addr × Obj)) (s : Shared) (σ : St) (H : Hp) (x y : V) (v u : Value) (Q : VK), Inv X pins σ H s → RelV x v → RelV y u → r x y H Q →
    wpAny (model X.prog X.w) X.A (f v u) (EP X pins σ Q) X.xe s
/-- a one-place operation -/
def UnR (X : Cx) (f : Value → Sem Value) (r : V → Hp → VK → Prop) : Prop :=
  ∀ (pins : List (Addr × Obj)) (s : Shared) (σ : St) (H : Hp) (x : V) (v : Value) (Q : VK), Inv X pins σ H s → RelV x v → r x H Q →
    wpAny (model X.prog X.w) X.A (f v) (EP X pins σ Q) X.xe s
/-- a call of a value that is known (a builtin, a type) with values -/
def CallR (X : Cx) (f : Value) (r : List V → Hp → VK → Prop) : Prop :=
  ∀ (pins : List (Addr × Obj)) (s : Shared) (σ : St) (H : Hp) (xs : List V) (us : List Value) (Q : VK), Inv X pins σ H s → Vals xs us → r xs H Q →
    wpAny (model X.prog X.w) X.A (call f us) (EP X pins σ Q) X.xe s

def tOp (r : R2) (ta tb : TE) : TE := fun σ H Q => ta σ H fun x H1 => tb σ H1 fun y H2 => r x y H2 Q
def tUn (r : V → Hp → VK → Prop) (ta : TE) : TE := fun σ H Q => ta σ H fun x H1 => r x H1 Q
/-- ints in, under C, and a value out -/
def rI (C : Int → Int → Prop) (g : Int → Int → V) : R2 := fun x y H Q => ∃ i j, x = .int i ∧ y = .int j ∧ C i j ∧ Q (g i j) H
def rI0 (g : Int → Int → V) : R2 := fun x y H Q => ∃ i j, x = .int i ∧ y = .int j ∧ Q (g i j) H
def rU (g : Int → V) : V → Hp → VK → Prop := fun x H Q => ∃ i, x = .int i ∧ Q (g i) H

section
variable {X : Cx} {a b c : Expr} {ta tb tc : TE} {pos : Pos}

theorem binT (ha : PE X a ta) (hb : PE X b tb) {pins : List (Addr × Obj)} {s : Shared} {σ : St} {H : Hp} {R : V → V → Hp → Prop} (I : Inv X pins σ H s)
    (h : ta σ H fun x H1 => tb σ H1 fun y H2 => R x y H2) {Q : Value → Shared → Prop} {f : Value → Value → Sem Value}
    (hf : ∀ v u s2 x y H2, Inv X pins σ H2 s2 → RelV x v → RelV y u → R x y H2 → wpAny (model X.prog X.w) X.A (f v u) Q X.xe s2) :
    wpAny (model X.prog X.w) X.A (eval a X.env) (fun v s₁ => wpAny (model X.prog X.w) X.A (eval b X.env) (fun u s₂ => wpAny (model X.prog X.w) X.A (f v u) Q X.xe s₂) X.xe s₁) X.xe s := by
  refine thn (ha pins s σ H _ I h) fun v s1 ⟨x, H1, I1, r1, q1⟩ => ?_
  refine thn (hb pins s1 σ H1 _ I1 q1) fun u s2 ⟨y, H2, I2, r2, q2⟩ => ?_
  exact hf v u s2 x y H2 I2 r1 r2 q2

theorem pe_op {op : Operator} {r : R2} (ho : OpR X (binaryOp op) r) (ha : PE X a ta) (hb : PE X b tb) : PE X (.BinOp a op b pos) (tOp r ta tb) := by
  intro pins s σ H Q I h
  exact wpAny_BinOp (binT ha hb I h fun v u s2 x y H2 I2 rx ry q => ho pins s2 σ H2 x y v u Q I2 rx ry q)
theorem pe_un {op : UnaryOp} {r : V → Hp → VK → Prop} (ho : UnR X (unaryOp op) r) (ha : PE X a ta) : PE X (.UnaryOp op a pos) (tUn r ta) := by
  intro pins s σ H Q I h
  exact UnaryOp_ (thn (ha pins s σ H _ I h) fun v s1 ⟨x, H1, I1, r1, q1⟩ => ho pins s1 σ H1 x v Q I1 r1 q1)

/-! ### ints -/
theorem opI {f : Value → Value → Sem Value} {C : Int → Int → Prop} {g : Int → Int → Int}
    (rule : ∀ (i j : Int) (t u : Tok) (s : Shared) (Q : Value → Shared → Prop) (E : Value → Shared → Prop), C i j → Q (.int (g i j) s.toks) { s with toks := s.toks + 1 } → wpAny (model X.prog X.w) X.A (f (.int i t) (.int j u)) Q E s) :
    OpR X f (rI C fun i j => .int (g i j)) := by
  intro pins s σ H x y v u Q I rx ry h
  obtain ⟨i, j, rfl, rfl, hc, q⟩ := h
  obtain ⟨t, rfl⟩ := rx
  obtain ⟨t', rfl⟩ := ry
  exact rule i j t t' s _ _ hc ⟨.int (g i j), H, I.tok _, ⟨_, rfl⟩, q⟩
theorem opI0 {f : Value → Value → Sem Value} {g : Int → Int → Int}
    (rule : ∀ (i j : Int) (t u : Tok) (s : Shared) (Q : Value → Shared → Prop) (E : Value → Shared → Prop), Q (.int (g i j) s.toks) { s with toks := s.toks + 1 } → wpAny (model X.prog X.w) X.A (f (.int i t) (.int j u)) Q E s) :
    OpR X f (rI0 fun i j => .int (g i j)) := by
  intro pins s σ H x y v u Q I rx ry h
  obtain ⟨i, j, rfl, rfl, q⟩ := h
  obtain ⟨t, rfl⟩ := rx
  obtain ⟨t', rfl⟩ := ry
  exact rule i j t t' s _ _ ⟨.int (g i j), H, I.tok _, ⟨_, rfl⟩, q⟩
theorem opB0 {f : Value → Value → Sem Value} {g : Int → Int → Bool}
    (rule : ∀ (i j : Int) (t u : Tok) (s : Shared) (Q : Value → Shared → Prop) (E : Value → Shared → Prop), Q (.bool (g i j)) s → wpAny (model X.prog X.w) X.A (f (.int i t) (.int j u)) Q E s) :
    OpR X f (rI0 fun i j => .bl (g i j)) := by
  intro pins s σ H x y v u Q I rx ry h
  obtain ⟨i, j, rfl, rfl, q⟩ := h
  obtain ⟨t, rfl⟩ := rx
  obtain ⟨t', rfl⟩ := ry
  exact rule i j t t' s _ _ ⟨.bl (g i j), H, I, rfl, q⟩

def CPow (i j : Int) : Prop := 0 ≤ j ∧ j ≤ 1000000 ∧ i.natAbs < 2 ^ 64
def CMul (i j : Int) : Prop := (-(2 ^ 64) < i ∧ i < 2 ^ 64) ∨ (-(2 ^ 64) < j ∧ j < 2 ^ 64)
theorem CMul.ok {i j : Int} (h : CMul i j) : IntMulOk i j := by
  rcases h with ⟨h1, h2⟩ | ⟨h1, h2⟩
  · exact .of_left (intBits_le_64 h1 h2)
  · exact .of_right (intBits_le_64 h1 h2)

theorem op_add : OpR X (binaryOp .Add) (rI0 fun i j => .int (i + j)) := opI0 fun _ _ _ _ _ _ _ q => add_int q
theorem op_sub : OpR X (binaryOp .Sub) (rI0 fun i j => .int (i - j)) := opI0 fun _ _ _ _ _ _ _ q => sub_int q
/-- % by a positive divisor of any size -/
theorem op_mod : OpR X (binaryOp .Mod) (rI (fun _ j => 0 < j) fun i j => .int (i % j)) := opI fun i j _ _ _ _ _ hc q => by
  have h1 : (0 : Int) < j := hc
  exact mod_int' (by omega) (by rw [Int.fmod_eq_emod_of_nonneg i (by omega)]; exact q)
theorem op_pow : OpR X (binaryOp .Pow) (rI CPow fun i j => .int (i ^ j.toNat)) := opI fun _ _ _ _ _ _ _ hc q => pow_int_small hc.1 hc.2.1 hc.2.2 q


theorem unI {f : Value → Sem Value} {g : Int → Int}
    (rule : ∀ (i : Int) (t : Tok) (s : Shared) (Q : Value → Shared → Prop) (E : Value → Shared → Prop), Q (.int (g i) s.toks) { s with toks := s.toks + 1 } → wpAny (model X.prog X.w) X.A (f (.int i t)) Q E s) :
    UnR X f (rU fun i => .int (g i)) := by
  intro pins s σ H x v Q I rx h
  obtain ⟨i, rfl, q⟩ := h
  obtain ⟨t, rfl⟩ := rx
  exact rule i t s _ _ ⟨.int (g i), H, I.tok _, ⟨_, rfl⟩, q⟩
theorem un_neg : UnR X (unaryOp .USub) (rU fun i => .int (-i)) := unI fun _ _ _ _ _ q => neg_int q

/-! ### bools among ints: n += (a < b) -/
end

/-! ### comparisons -/
/-- the scalars that == tells apart as data does -/
def scal : V → V → Bool
  | .non, .non => true | .non, .int _ => true | .int _, .non => true | .non, .bl _ => true | .bl _, .non => true | .non, .str _ => true | .str _, .non => true
  | .int _, .int _ => true | .bl _, .bl _ => true | .str _, .str _ => true | .byt _, .byt _ => true
  | .int _, .str _ => true | .str _, .int _ => true | .bl _, .str _ => true | .str _, .bl _ => true
  | _, _ => false
def rEq : R2 := fun x y H Q => scal x y = true ∧ Q (.bl (decide (x = y))) H
def rNe : R2 := fun x y H Q => scal x y = true ∧ Q (.bl (!decide (x = y))) H

theorem dec_int {i j : Int} : decide (V.int i = V.int j) = (i == j) := by
  rw [Bool.eq_iff_iff]
  simp
theorem dec_bl {i j : Bool} : decide (V.bl i = V.bl j) = (i == j) := by
  rw [Bool.eq_iff_iff]
  simp
theorem dec_str {i j : Str} : decide (V.str i = V.str j) = (i == j) := by
  rw [Bool.eq_iff_iff]
  simp
theorem dec_byt {i j : Array UInt8} : decide (V.byt i = V.byt j) = (i.toList == j.toList) := by
  rw [Bool.eq_iff_iff]
  cases i
  cases j
  simp

section
variable {X : Cx} {a b c : Expr} {ta tb tc : TE} {pos : Pos}
theorem fin_bl {pins : List (Addr × Obj)} {σ : St} {H : Hp} {s : Shared} {Q : VK} {k k' : Bool} (I : Inv X pins σ H s) (q : Q (.bl k) H) (e : k = k') : EP X pins σ Q (.bool k') s := by
  subst e
  exact ⟨.bl k, H, I, rfl, q⟩
theorem op_eq : OpR X (compareOp .Eq) rEq := by
  intro pins s σ H x y v u Q I rx ry h
  obtain ⟨hs, q⟩ := h
  cases x with
  | non =>
    cases rx
    cases y with
    | non => cases ry; exact PySem.EqNone.eq_none_none (fin_bl I q (by simp))
    | bl j => cases ry; exact PySem.EqNone.eq_none_bool (fin_bl I q (by simp))
    | int j => obtain ⟨t', rfl⟩ := ry; exact PySem.EqNone.eq_none_int (fin_bl I q (by simp))
    | str j => obtain ⟨t', rfl⟩ := ry; exact PySem.EqNone.eq_none_str (fin_bl I q (by simp))
    | _ => exact absurd (show false = true from hs) Bool.false_ne_true
  | bl i =>
    cases rx
    cases y with
    | non => cases ry; exact PySem.EqNone.eq_bool_none (fin_bl I q (by simp))
    | bl j => cases ry; exact eq_bool (fin_bl I q dec_bl)
    | str j => obtain ⟨t', rfl⟩ := ry; exact PySem.EqMixed.eq_bool_str (fin_bl I q (by simp))
    | _ => exact absurd (show false = true from hs) Bool.false_ne_true
  | int i =>
    obtain ⟨t, rfl⟩ := rx
    cases y with
    | non => cases ry; exact PySem.EqNone.eq_int_none (fin_bl I q (by simp))
    | int j => obtain ⟨t', rfl⟩ := ry; exact eq_int (fin_bl I q dec_int)
    | str j => obtain ⟨t', rfl⟩ := ry; exact PySem.EqMixed.eq_int_str (fin_bl I q (by simp))
    | _ => exact absurd (show false = true from hs) Bool.false_ne_true
  | str i =>
    obtain ⟨t, rfl⟩ := rx
    cases y with
    | non => cases ry; exact PySem.EqNone.eq_str_none (fin_bl I q (by simp))
    | bl j => cases ry; exact PySem.EqMixed.eq_str_bool (fin_bl I q (by simp))
    | int j => obtain ⟨t', rfl⟩ := ry; exact PySem.EqMixed.eq_str_int (fin_bl I q (by simp))
    | str j => obtain ⟨t', rfl⟩ := ry; exact eq_str (fin_bl I q dec_str)
    | _ => exact absurd (show false = true from hs) Bool.false_ne_true
  | byt i =>
    obtain ⟨t, rfl⟩ := rx
    cases y with
    | byt j => obtain ⟨t', rfl⟩ := ry; exact PySem.W.eq_bytes (fin_bl I q dec_byt)
    | _ => exact absurd (show false = true from hs) Bool.false_ne_true
  | _ => cases y <;> exact absurd (show false = true from hs) Bool.false_ne_true
theorem op_ne : OpR X (compareOp .NotEq) rNe := by
  intro pins s σ H x y v u Q I rx ry h
  obtain ⟨hs, q⟩ := h
  cases x with
  | non =>
    cases rx
    cases y with
    | non => cases ry; exact PySem.EqNone.ne_none_none (fin_bl I q (by simp))
    | bl j => cases ry; exact PySem.EqNone.ne_none_bool (fin_bl I q (by simp))
    | int j => obtain ⟨t', rfl⟩ := ry; exact PySem.EqNone.ne_none_int (fin_bl I q (by simp))
    | str j => obtain ⟨t', rfl⟩ := ry; exact PySem.EqNone.ne_none_str (fin_bl I q (by simp))
    | _ => exact absurd (show false = true from hs) Bool.false_ne_true
  | bl i =>
    cases rx
    cases y with
    | non => cases ry; exact PySem.EqNone.ne_bool_none (fin_bl I q (by simp))
    | bl j => cases ry; exact ne_bool (fin_bl I q (congrArg not dec_bl))
    | str j => obtain ⟨t', rfl⟩ := ry; exact PySem.EqMixed.ne_bool_str (fin_bl I q (by simp))
    | _ => exact absurd (show false = true from hs) Bool.false_ne_true
  | int i =>
    obtain ⟨t, rfl⟩ := rx
    cases y with
    | non => cases ry; exact PySem.EqNone.ne_int_none (fin_bl I q (by simp))
    | int j => obtain ⟨t', rfl⟩ := ry; exact ne_int (fin_bl I q (congrArg not dec_int))
    | str j => obtain ⟨t', rfl⟩ := ry; exact PySem.EqMixed.ne_int_str (fin_bl I q (by simp))
    | _ => exact absurd (show false = true from hs) Bool.false_ne_true
  | str i =>
    obtain ⟨t, rfl⟩ := rx
    cases y with
    | non => cases ry; exact PySem.EqNone.ne_str_none (fin_bl I q (by simp))
    | bl j => cases ry; exact PySem.EqMixed.ne_str_bool (fin_bl I q (by simp))
    | int j => obtain ⟨t', rfl⟩ := ry; exact PySem.EqMixed.ne_str_int (fin_bl I q (by simp))
    | str j => obtain ⟨t', rfl⟩ := ry; exact ne_str (fin_bl I q (congrArg not dec_str))
    | _ => exact absurd (show false = true from hs) Bool.false_ne_true
  | byt i =>
    obtain ⟨t, rfl⟩ := rx
    cases y with
    | byt j => obtain ⟨t', rfl⟩ := ry; exact PySem.W.ne_bytes (fin_bl I q (congrArg not dec_byt))
    | _ => exact absurd (show false = true from hs) Bool.false_ne_true
  | _ => cases y <;> exact absurd (show false = true from hs) Bool.false_ne_true

theorem op_lt : OpR X (compareOp .Lt) (rI0 fun i j => .bl (decide (i < j))) := opB0 fun _ _ _ _ _ _ _ q => lt_int q
theorem op_le : OpR X (compareOp .LtE) (rI0 fun i j => .bl (decide (i ≤ j))) := opB0 fun _ _ _ _ _ _ _ q => le_int q
theorem op_gt : OpR X (compareOp .Gt) (rI0 fun i j => .bl (decide (j < i))) := opB0 fun _ _ _ _ _ _ _ q => gt_int q
theorem op_ge : OpR X (compareOp .GtE) (rI0 fun i j => .bl (decide (j ≤ i))) := opB0 fun _ _ _ _ _ _ _ q => ge_int q

theorem op_notN : OpR X (compareOp .IsNot) (fun x y H Q => y = .non ∧ Q (.bl (!decide (x = .non))) H) := by
  intro pins s σ H x y v u Q I rx ry h
  obtain ⟨rfl, q⟩ := h
  cases ry
  refine isnot_none_gen (fin_bl I q ?_)
  cases x <;> first
    | (cases rx; rfl)
    | (obtain ⟨t, rfl⟩ := rx; rfl)


/-- two rules for one operation: by cases -/
theorem OpR.or {f : Value → Value → Sem Value} {r r' : R2} (h : OpR X f r) (h' : OpR X f r') : OpR X f (fun x y H Q => r x y H Q ∨ r' x y H Q) := by
  intro pins s σ H x y v u Q I rx ry q
  rcases q with q | q
  · exact h pins s σ H x y v u Q I rx ry q
  · exact h' pins s σ H x y v u Q I rx ry q

theorem nomark (b : Expr) {op : CmpOp} (h : op ≠ .In := by decide) (h2 : op ≠ .NotIn := by decide) : behindInMarks op b = false := by
  have e1 : (op == CmpOp.In) = false := by cases op <;> first | rfl | exact absurd rfl h
  have e2 : (op == CmpOp.NotIn) = false := by cases op <;> first | rfl | exact absurd rfl h2
  cases b <;> simp [behindInMarks, e1, e2]
/-- a comparison as a value; hm: nomark b, or (for in, not in) by with_unfolding_all rfl -/
theorem pe_cmpR {op : CmpOp} {r : R2} (ho : OpR X (compareOp op) r) (ha : PE X a ta) (hb : PE X b tb) (hm : behindInMarks op b = false) : PE X (.Compare a [op] [b] pos) (tOp r ta tb) := by
  intro pins s σ H Q I h
  exact wpAny_Compare1 (binT ha hb I h fun v u s2 x y H2 I2 rx ry q => ho pins s2 σ H2 x y v u Q I2 rx ry q) hm
/-- a reading of a value as a test -/
def tTest (t : TE) : TT := fun σ H Q => t σ H fun x H' => ∃ k, x = .bl k ∧ Q k H'
theorem pt_cmpR {op : CmpOp} {r : R2} (ho : OpR X (compareOp op) r) (ha : PE X a ta) (hb : PE X b tb) (hm : behindInMarks op b = false) : PT X (.Compare a [op] [b] pos) (tTest (tOp r ta tb)) := by
  intro pins s σ H Q I h
  refine wpAny_isTrue_Compare1 (thn (ha pins s σ H _ I h) fun v s1 ⟨x, H1, I1, r1, q1⟩ => thn (hb pins s1 σ H1 _ I1 q1) fun u s2 ⟨y, H2, I2, r2, q2⟩ =>
    thn (ho pins s2 σ H2 x y v u _ I2 r1 r2 q2) fun c s3 ⟨z, H3, I3, r3, k, e, q3⟩ => ?_) hm
  subst e
  cases r3
  exact wpAny_truthy_bool ⟨H3, I3, q3⟩
/-- a op1 b op2 c -/
def tChain (r r' : R2) (ta tb tc : TE) : TE := fun σ H Q => ta σ H fun x H1 => tb σ H1 fun y H2 => r x y H2 fun z H3 => ∃ k, z = .bl k ∧
  (if k = true then tc σ H3 fun w' H4 => r' y w' H4 Q else Q (.bl false) H3)
theorem pe_chain {op op' : CmpOp} {r r' : R2} (ho : OpR X (compareOp op) r) (ho' : OpR X (compareOp op') r') (ha : PE X a ta) (hb : PE X b tb) (hc : PE X c tc)
    (hm : lastMarks [op, op'] [b, c] = false := by with_unfolding_all rfl) : PE X (.Compare a [op, op'] [b, c] pos) (tChain r r' ta tb tc) := by
  intro pins s σ H Q I h
  refine Compare_chain (thn (ha pins s σ H _ I h) fun v s1 ⟨x, H1, I1, r1, q1⟩ => chain_link (thn (hb pins s1 σ H1 _ I1 q1) fun u s2 ⟨y, H2, I2, r2, q2⟩ =>
    thn (ho pins s2 σ H2 x y v u _ I2 r1 r2 q2) fun d s3 ⟨z, H3, I3, r3, k, e, q3⟩ => ?_)) hm
  subst e
  cases r3
  refine wpAny_truthy_bool ?_
  cases k with
  | false => exact ite_ff ⟨.bl false, H3, I3, rfl, q3⟩
  | true => exact ite_tt (chain_last (thn (hc pins s3 σ H3 _ I3 q3) fun w' s4 ⟨z', H4, I4, r4, q4⟩ => ho' pins s4 σ H4 y z' u w' Q I4 r2 r4 q4))

/-! ### truth -/
theorem line63 : (sizeLine : Nat) < 2 ^ 63 := by rw [sizeLine_eq]; decide

/-! ### strs and bytes -/
theorem op_add_str : OpR X (binaryOp .Add) (fun x y H Q => ∃ i j, x = .str i ∧ y = .str j ∧ i.length + j.length ≤ sizeLine ∧ Q (.str (i ++ j)) H) := by
  intro pins s σ H x y v u Q I rx ry h
  obtain ⟨i, j, rfl, rfl, hz, q⟩ := h
  obtain ⟨t, rfl⟩ := rx
  obtain ⟨t', rfl⟩ := ry
  exact add_str (fun t' tk => ⟨.str (i ++ j), H, I.tok _, ⟨_, rfl⟩, q⟩) hz


/-! ### scalar builtins, by CallR -/
theorem vals1 {x : V} {us : List Value} (r : Vals [x] us) : ∃ u, us = [u] ∧ RelV x u := by
  cases r with
  | cons r1 r2 => cases r2; exact ⟨_, rfl, r1⟩
theorem vals2 {x y : V} {us : List Value} (r : Vals [x, y] us) : ∃ u w', us = [u, w'] ∧ RelV x u ∧ RelV y w' := by
  cases r with
  | cons r1 r2 =>
    cases r2 with
    | cons r3 r4 => cases r4; exact ⟨_, _, rfl, r1, r3⟩
theorem call_abs : CallR X (.builtin "abs") (fun xs H Q => ∃ i, xs = [.int i] ∧ Q (.int (if i < 0 then -i else i)) H) := by
  intro pins s σ H xs us Q I r h
  obtain ⟨i, rfl, q⟩ := h
  obtain ⟨u, rfl, t, rfl⟩ := vals1 r
  exact call_abs_int fun u tk => ⟨.int (if i < 0 then -i else i), H, I.tok _, ⟨_, rfl⟩, q⟩
theorem call_max2 (hc : X.calm = true) : CallR X (.builtin "max") (fun xs H Q => ∃ i j, xs = [.int i, .int j] ∧ Q (.int (if j > i then j else i)) H) := by
  intro pins s σ H xs us Q I r h
  obtain ⟨i, j, rfl, q⟩ := h
  obtain ⟨u, w', rfl, ⟨t, rfl⟩, ⟨t', rfl⟩⟩ := vals2 r
  refine max_two_ints (I.ok.hd hc) fun h' tk k => ⟨_, H, I.kept k, ?_, q⟩
  by_cases hj : j > i
  · rw [if_pos hj, if_pos hj]; exact ⟨_, rfl⟩
  · rw [if_neg hj, if_neg hj]; exact ⟨_, rfl⟩
theorem call_int1 : CallR X (.type "int") (fun xs H Q => (∃ i, xs = [.int i] ∧ Q (.int i) H) ∨ ∃ k, xs = [.bl k] ∧ Q (.int (if k then 1 else 0)) H) := by
  intro pins s σ H xs us Q I r h
  rcases h with ⟨i, rfl, q⟩ | ⟨k, rfl, q⟩
  · obtain ⟨u, rfl, t, rfl⟩ := vals1 r
    exact call_int_int ⟨.int i, H, I, ⟨_, rfl⟩, q⟩
  · obtain ⟨u, rfl, r1⟩ := vals1 r
    cases r1
    exact call_int_bool ⟨.int (if k then 1 else 0), H, I.tok _, ⟨_, rfl⟩, q⟩
/-- len of a str, a bytes, a list, a tuple -/
def LenV (K : PySem.W.Frag) (x : V) (H : Hp) (n : Nat) : Prop :=
  match x with
  | .str y => y.length ≤ sizeLine ∧ n = y.length
  | .byt y => y.size ≤ sizeLine ∧ n = y.size
  | .ref p => (∃ xs, SqL K H p xs ∧ n = xs.length) ∨ ∃ xs, SqT K H p xs ∧ n = xs.length
  | _ => False
theorem call_len : CallR X (.builtin "len") (fun xs H Q => ∃ x n, xs = [x] ∧ LenV X.K x H n ∧ Q (.int n) H) := by
  intro pins s σ H xs us Q I r h
  obtain ⟨x, n, rfl, e, q⟩ := h
  obtain ⟨u, rfl, rx⟩ := vals1 r
  have hl := line63
  have hs : sizeLine = 16777216 := sizeLine_eq
  cases x with
  | str y =>
    obtain ⟨t, rfl⟩ := rx
    obtain ⟨hy, e'⟩ : y.length ≤ sizeLine ∧ n = y.length := e
    subst e'
    exact len_str (by omega) ⟨.int _, H, I.tok _, ⟨_, rfl⟩, q⟩
  | byt y =>
    obtain ⟨t, rfl⟩ := rx
    obtain ⟨hy, e'⟩ : y.size ≤ sizeLine ∧ n = y.size := e
    subst e'
    exact PySem.W.len_bytes (by omega) ⟨.int _, H, I.tok _, ⟨_, rfl⟩, q⟩
  | ref p =>
    cases rx
    have e' : (∃ xs, SqL X.K H p xs ∧ n = xs.length) ∨ ∃ xs, SqT X.K H p xs ∧ n = xs.length := e
    rcases e' with ⟨xs, hx, e'⟩ | ⟨xs, hx, e'⟩
    · subst e'
      obtain ⟨its, r', pl, hz⟩ := I.list hx
      have hlen := r'.length
      exact Calls.call_len_list pl.isList (by simp only [List.size_toArray]; omega) ⟨.int xs.length, H, I.tok _, ⟨_, by simp only [List.size_toArray]; rw [hlen]⟩, q⟩
    · subst e'
      obtain ⟨its, r', pl, hz⟩ := I.tuple hx
      have hlen := r'.length
      exact len_tuple pl (by simp only [List.size_toArray]; omega) ⟨.int xs.length, H, I.tok _, ⟨_, by simp only [List.size_toArray]; rw [hlen]⟩, q⟩
  | _ => exact (show False from e).elim
end
end L2

namespace L2
open PySem PySem.Spec PyProof.Rows

/-! ### an instance, its attributes a map -/
structure ObjM (h : Heap) (x dx C : Addr) (mA : Str → Option Value) : Prop where
  obj : h.get? x = some (PySem.W.instObj C dx)
  ns : h.Ns1 dx mA
  ne : dx ≠ x

theorem lookIn_ns {h : Heap} {dx : Addr} {mA : Str → Option Value} (n : h.Ns1 dx mA) : ∃ od, h.get? dx = some od ∧ ∀ name, PySem.W.lookIn name od = some (mA name) := by
  obtain ⟨o, es, ep, ho, hd, hk, _, hm⟩ := n
  refine ⟨o, ho, fun name => ?_⟩
  have e := hm name
  unfold nsFind findBy at e
  rw [← Array.find?_toList] at e
  unfold PySem.W.lookIn
  rw [hd]
  dsimp only
  split
  · rename_i y q
    rw [q] at e
    exact congrArg some e
  · rename_i q
    rw [q] at e
    have a : es.toList.any (·.refKey) = false := by
      rw [List.any_eq_false]
      intro y hy
      obtain ⟨z, t, hkey⟩ := hk y (Array.mem_toList_iff.mp hy)
      simp [DictEntry.refKey, hkey]
    have a' : ¬ es.toList.any (·.refKey) = true := by rw [a]; exact Bool.false_ne_true
    rw [if_neg a']
    exact congrArg some e

theorem ObjM.look {h : Heap} {x dx C : Addr} {mA : Str → Option Value} (I : ObjM h x dx C mA) : ∃ od, PySem.W.InstAt h x (PySem.W.instObj C dx) C (some od) ∧ ∀ name, PySem.W.lookIn name od = some (mA name) :=
  let ⟨od, ho, hl⟩ := lookIn_ns I.ns
  ⟨od, ⟨I.obj, rfl, rfl, ho⟩, hl⟩

section
variable {prog : Program} {w : World} {A : Around} {E : Value → Shared → Prop} {s : Shared} {K : PySem.W.Frag} {x dx C f : Addr} {mA : Str → Option Value} {name : Str} {v : Value}





end

/-! ### the attributes as a list of pairs -/


section
variable {P : Program} {w : World} {H H' : Hp} {h h' : Heap} {a C dx : Addr} {fs fs' : List (Str × V)}
theorem ins_get (hok : HOk P w H h) (e : H a = some (.ins C dx fs)) : ∃ mA, ObjM h a dx C mA ∧ (∀ f, RelO (fs.lookup f) (mA f)) ∧ PySem.Within mA (fs.map (·.1)) ∧ fs.length ≤ 1000 ∧ H dx = some (.own a) := by
  obtain ⟨d, z, ne, ob, mA, n, r, q⟩ := (show ObjOk P w H h a (.ins C dx fs) from hok a _ e)
  exact ⟨mA, ⟨ob, n, ne⟩, r, q, z, d⟩
end

/-! ### what of the text a class must have -/
structure Cls (K : PySem.W.Frag) (C : Addr) : Prop where
  pg : PySem.W.plainGet K C Str.empty = true
  hd : PySem.W.hasDictIn K C = true
  po : PySem.W.plainOver K C = true
  sa : PySem.W.findIn K (.ref C) "__setattr__" = some (some (.builtin "object.__setattr__"))
theorem Cls.get {K : PySem.W.Frag} {C : Addr} (c : Cls K C) (f : Str) : PySem.W.plainGet K C f = true := c.pg

section
variable {X : Cx} {pins : List (Addr × Obj)} {σ : St} {H : Hp} {s : Shared} {a C dx : Addr} {fs : List (Str × V)} {f : Str} {v : V} {A : Around} {E : Value → Shared → Prop}






end

/-! ### readings and rules -/

section
variable {X : Cx} {o e value : Expr} {f : Str} {pos pos' tpos : Pos} {ta tv : TE}

end

/-! ### isinstance -/
section
variable {X : Cx} {pins : List (Addr × Obj)} {σ : St} {H : Hp} {s : Shared} {A : Around} {E : Value → Shared → Prop} {Q : Value → Shared → Prop} {c : Value} {b : Bool}
/-- the type of a value, as the fragment's deciders take it; for an instance its class -/
inductive TyOf (K : PySem.W.Frag) (H : Hp) : V → Value → Prop where
  | non : TyOf K H .non (.type "NoneType")
  | bl (x : Bool) : TyOf K H (.bl x) (.type "bool")
  | int (i : Int) : TyOf K H (.int i) (.type "int")
  | str (x : Str) : TyOf K H (.str x) (.type "str")
  | flt (x : UInt64) : TyOf K H (.flt x) (.type "float")
  | lst {a : Addr} {xs : List V} (e : H a = some (.lst xs)) : TyOf K H (.ref a) (.type "list")
  | frz {a : Addr} {o : Obj} {xs : List V} (e : H a = some (.frz o (.lst xs))) : TyOf K H (.ref a) (.type "list")
  | tup {a : Addr} {xs : List V} (e : H a = some (.tup xs)) : TyOf K H (.ref a) (.type "tuple")
  | dK {a : Addr} {kvs : List (Key × V)} (e : H a = some (.dK kvs)) : TyOf K H (.ref a) (.type "dict")
  | dT {a : Addr} {kvs : List (List Key × V)} (e : H a = some (.dT kvs)) : TyOf K H (.ref a) (.type "dict")
  | ins {a C dx : Addr} {fs : List (Str × V)} (e : H a = some (.ins C dx fs)) (cl : Cls K C) (ha : PySem.W.findIn K (.ref C) "__class__" = some (some (.builtin "object.__class__")))
      (hn : PySem.W.specialIn K (.builtin "object.__class__") "__get__" = some (some (.builtin "getset_descriptor.__get__"))) (htk : PySem.W.takesIn K (.builtin "object.__class__") = some true)
      (hm : PySem.W.mroIn K C (.type "object") = some true) : TyOf K H (.ref a) (.ref C)
/-- isinstance(x, c) for one class c, a built-in or an own one: kitOne's answer -/
theorem isinst_ok {x : V} {u t : Value} (I : Inv X pins σ H s) (rx : RelV x u) (ty : TyOf X.K H x t) (e : PySem.W.kitOne X.K t c = some b) (h : ∀ tk, Q (.bool b) { s with toks := tk }) :
    wpAny (model X.prog X.w) A (call (.builtin "isinstance") [u, c]) Q E s := by
  cases ty with
  | non => cases (show u = Value.none from rx); exact PySem.W.kia_one PySem.W.kitx_none I.kIn True.intro e (fun z => nomatch z) h
  | bl y => cases (show u = Value.bool y from rx); exact PySem.W.kia_one PySem.W.kitx_bool I.kIn True.intro e (fun z => nomatch z) h
  | int i => obtain ⟨t, q⟩ := (show ∃ t, u = Value.int i t from rx); cases q; exact PySem.W.kia_one PySem.W.kitx_int I.kIn True.intro e (fun z => nomatch z) h
  | str y => obtain ⟨t, q⟩ := (show ∃ t, u = Value.str y t from rx); cases q; exact PySem.W.kia_one PySem.W.kitx_str I.kIn True.intro e (fun z => nomatch z) h
  | flt y => obtain ⟨t, q⟩ := (show ∃ t, u = Value.float y t from rx); cases q; exact PySem.W.kia_one PySem.W.kitx_float I.kIn True.intro e (fun z => nomatch z) h
  | @lst a xs ea =>
    cases (show u = Value.ref a from rx)
    obtain ⟨_, _, n, _, h1⟩ := (show ObjOk X.prog X.w H s.heap a (.lst xs) from I.hok a _ ea)
    exact PySem.W.kia_one PySem.W.kitx_list I.kIn ⟨_, h1, rfl⟩ e (fun z => nomatch z) h
  | @frz a ob xs ea =>
    cases (show u = Value.ref a from rx)
    obtain ⟨_, _, _, n, _, h1⟩ := (show ObjOk X.prog X.w H s.heap a (.frz ob (.lst xs)) from I.hok a _ ea)
    exact PySem.W.kia_one PySem.W.kitx_list I.kIn ⟨_, h1, rfl⟩ e (fun z => nomatch z) h
  | @tup a xs ea =>
    cases (show u = Value.ref a from rx)
    obtain ⟨_, _, _, p⟩ := (show ObjOk X.prog X.w H s.heap a (.tup xs) from I.hok a _ ea)
    obtain ⟨o, h1, h2, _⟩ := p
    exact PySem.W.kia_one PySem.W.kitx_tuple I.kIn ⟨o, h1, h2⟩ e (fun z => nomatch z) h
  | @dK a kvs ea =>
    cases (show u = Value.ref a from rx)
    obtain ⟨_, _, vs, _, p⟩ := (show ObjOk X.prog X.w H s.heap a (.dK kvs) from I.hok a _ ea)
    obtain ⟨o, es, ep, h1, h2, _⟩ := p
    exact PySem.W.kia_one PySem.W.kitx_dict I.kIn ⟨o, h1, h2.1⟩ e (fun z => nomatch z) h
  | @dT a kvs ea =>
    cases (show u = Value.ref a from rx)
    obtain ⟨_, _, xs, _, o, es, ep, h1, h2, _⟩ := (show ObjOk X.prog X.w H s.heap a (.dT kvs) from I.hok a _ ea)
    exact PySem.W.kia_one PySem.W.kitx_dict I.kIn ⟨o, h1, h2.1⟩ e (fun z => nomatch z) h
  | @ins a C dx fs ea cl ha hn htk hm =>
    cases (show u = Value.ref a from rx)
    obtain ⟨mA, O, _⟩ := ins_get I.hok ea
    obtain ⟨od, J, _⟩ := O.look
    exact PySem.W.kia_one (PySem.W.kitx_own (cl.get _) cl.hd ha hn htk hm) I.kIn J e (fun z => nomatch z) h
end
end L2

namespace L2
open PySem PySem.Spec PyProof.Rows

/-! ### room -/
structure Room (k : Nat) (A : Around) : Prop where
  hd : A.handled = none
  dp : A.depth + 3 * k + 5 < recursionLimit
  un : A.units + 16 * k + 200 < cLine
theorem Room.mono {j k : Nat} {A : Around} (r : Room k A) (h : j ≤ k) : Room j A := ⟨r.hd, by have := r.dp; omega, by have := r.un; omega⟩
theorem Room.deeper {k : Nat} {A : Around} (r : Room (k + 1) A) (env : Env) : Room k (A.deeper env) :=
  ⟨r.hd, by have := r.dp; show A.depth + 1 + 3 * k + 5 < _; omega, by have := r.un; show A.units + 3 + 16 * k + 200 < _; omega⟩
theorem Room.depth {k : Nat} {A : Around} (r : Room k A) : A.depth < recursionLimit := by have := r.dp; omega
theorem Room.units {k : Nat} {A : Around} (r : Room k A) : A.units + 64 < cLine := by have := r.un; omega

/-! ### argument lists and displays -/
def tNil : TA := fun _ H Q => Q [] H
def tCons (ta : TE) (tr : TA) : TA := fun σ H Q => ta σ H fun x H1 => tr σ H1 fun xs H2 => Q (x :: xs) H2
section
variable {X : Cx} {e : Expr} {es : List Expr} {te : TE} {t : TA} {pos : Pos}
theorem pa_nil : PA X [] tNil := fun _ _ _ _ H Q I h => Calls.spliced_nil ⟨[], H, I, .nil, h⟩
theorem pa_cons (ha : PE X e te) (hr : PA X es t) (hs : starEach (e :: es) X.env = (false, eval e X.env) :: starEach es X.env := by rfl) : PA X (e :: es) (tCons te t) := by
  intro pos pins s σ H Q I h
  rw [hs]
  show wpAny _ _ (spliced ((false, eval e X.env) :: backTo pos (starEach es X.env))) _ _ s
  refine Calls.spliced_cons (thn (ha pins s σ H _ I h) fun u s1 ⟨x, H1, I1, r1, q1⟩ => ?_)
  exact thn (hr pos pins s1 σ H1 _ I1 q1) fun us s2 ⟨xs, H2, I2, r2, q2⟩ => ⟨x :: xs, H2, I2, .cons r1 r2, q2⟩

/-- a tuple, a list of written items -/
def tTup (t : TA) : TE := fun σ H Q => t σ H fun xs H1 => xs.length ≤ sizeLine ∧ ∀ p, H1 p = none → Q (.ref p) (upd H1 p (.tup xs))
def tLst (t : TA) : TE := fun σ H Q => t σ H fun xs H1 => xs.length ≤ sizeLine ∧ ∀ p, H1 p = none → Q (.ref p) (upd H1 p (.lst xs))
theorem pe_tup {x1} (h : PA X es t) : PE X (.Tuple es x1 pos) (tTup t) := by
  intro pins s σ H Q I hq
  refine wpAny_Tuple_spliced (thn (h pos pins s σ H _ I hq) fun us s1 ⟨xs, H1, I1, r, z, q⟩ => ⟨by rw [← r.length]; exact z, ?_⟩)
  have hf : H1 s1.heap.objs.size = none := I1.hok.fresh (Nat.le_refl _)
  refine ⟨.ref s1.heap.objs.size, upd H1 s1.heap.objs.size (.tup xs), I1.laid (t' := s1.toks) (fun b u e => Heap.get?_push_of_some _ e) (Nat.le_refl _) ?_, rfl, q _ hf⟩
  exact ⟨z, us, r, ⟨_, Heap.get?_push_size _ rfl, rfl, _, rfl⟩⟩
theorem pe_lst (h : PA X es t) : PE X (.List es pos) (tLst t) := by
  intro pins s σ H Q I hq
  refine wpAny_List_spliced (thn (h pos pins s σ H _ I hq) fun us s1 ⟨xs, H1, I1, r, z, q⟩ => ⟨by rw [← r.length]; exact z, ?_⟩)
  have hf : H1 s1.heap.objs.size = none := I1.hok.fresh (Nat.le_refl _)
  refine ⟨.ref s1.heap.objs.size, upd H1 s1.heap.objs.size (.lst xs), I1.laid (t' := s1.toks) (fun b u e => Heap.get?_push_of_some _ e) (Nat.le_refl _) ?_, rfl, q _ hf⟩
  exact ⟨z, us, 0, r, Heap.get?_push_size _ rfl⟩
end

/-! ### what a def promises -/
/-- a def's promise: the bound arguments in the parameters' order, the heap, the wanted end, the wanted exception -/
abbrev Sp := List V → Hp → VK → XK → Prop
/-- how an exception lies behind a call (file 08 gives it): the callers' frames, abstract heap and state ahead of the call, the wish, the exception, the state -/
abbrev CXT := List Env → Hp → Shared → XK → Value → Shared → Prop

/-- the state at a call -/
structure Env0 (P : Program) (w : World) (K : PySem.W.Frag) (mg : Str → Option Value) (base : Heap) (A : Around) (outer : List Env) (s : Shared) (H : Hp) : Prop where
  frames : A.frames = some outer
  mod : Mod K mg base
  bs : ∀ b o, base.get? b = some o → s.heap.get? b = some o ∧ H b = none
  bsz : base.objs.size ≤ s.heap.objs.size
  funs : s.heap.FunFrames base outer
  frf : ∀ b ∈ frs outer, H b = none
  hok : HOk P w H s.heap
  bare : AllBare s.gens
/-- a call's end -/
def CE (outer : List Env) (P : Program) (w : World) (H : Hp) (s : Shared) (Q : VK) (u : Value) (s' : Shared) : Prop :=
  ∃ v H', s'.os = s.os ∧ AllBare s'.gens ∧ Un (frs outer) [] H H' s.heap s'.heap ∧ HOk P w H' s'.heap ∧ RelV v u ∧ Q v H'
def CR (CX : CXT) (outer : List Env) (P : Program) (w : World) (H : Hp) (s : Shared) (Q : VK) (E : XK) (r : Result) (s' : Shared) : Prop :=
  match r with
  | .ok (.ret u) => CE outer P w H s Q u s'
  | .ok _ => False
  | .error e => CX outer H s E e s'
structure FnOk (P : Program) (w : World) (K : PySem.W.Frag) (mg : Str → Option Value) (base : Heap) (CX : CXT) (k : Nat) (f : Addr) (fd : FuncData) (ps : List Str) (sp : Sp) : Prop where
  len : ∀ vs H Q E, sp vs H Q E → vs.length = ps.length
  run : ∀ (A : Around) (outer : List Env) (s : Shared) (H : Hp) (args : Args) (us : List Value) (vs : List V) (Q : VK) (E : XK), Room k A → Env0 P w K mg base A outer s H → BindsTo s fd args (ps.zip us) → Vals vs us → sp vs H Q E →
    codeAny (model P w) A (.call (.ref f) args) (CR CX outer P w H s Q E) s


section
variable {X : Cx} {pins : List (Addr × Obj)} {σ : St} {H : Hp} {s s' : Shared}
/-- from a body: what a callee wants -/
theorem Inv.env0 (I : Inv X pins σ H s) : Env0 X.prog X.w X.K X.mg X.base X.A X.stack s H :=
  ⟨I.ok.frames, I.ok.mod, I.bs, Nat.le_trans I.ok.bsz I.sz, I.stack, I.stkFree, I.hok, I.bare⟩
/-- behind a call -/
theorem Inv.after {Q : VK} {u : Value} (I : Inv X pins σ H s) (h : CE X.stack X.prog X.w H s Q u s') : EP X pins σ Q u s' := by
  obtain ⟨v, H', os, bare, un, hok, r, q⟩ := h
  obtain ⟨hh, g, d, t, os'⟩ := s'
  obtain rfl : os' = s.os := os
  exact ⟨v, H', I.call (h' := hh) (g' := g) (d' := d) (t' := t) (ch := []) un hok bare (fun b z => absurd z (by simp)), r, q⟩
end

/-! ### calls -/
/-- f(..): the written arguments, then the defaults dvs; E: what is wanted of an exception -/
def tCall (sp : Sp) (dvs : List V) (E : XK) (t : TA) : TE := fun σ H Q => t σ H fun vs H1 => sp (vs ++ dvs) H1 Q E

/-- how the parameters are bound: us the positional arguments, kw the keywords' values by name, ds the defaults that fill up -/
def Binds (K : PySem.W.Frag) (fd : FuncData) (ps : List Str) (ds : List Value) : Prop :=
  ∀ (s : Shared) (us : List Value), K.In s.heap → (us ++ ds).length = ps.length → BindsTo s fd ⟨us, []⟩ (ps.zip (us ++ ds))
/-- every parameter is given -/
theorem Binds.all {K : PySem.W.Frag} {fd : FuncData} {ps : List Str} (h : ∀ us : List Value, us.length = ps.length → bindArgs fd ⟨us, []⟩ = pure (ps.zip us)) : Binds K fd ps [] := fun s us _ hl => by
  rw [List.append_nil] at hl ⊢
  exact .of_eq (h us hl)

/-- an exception of a callee reaches what this body wants of exceptions -/
def Passes (CX : CXT) (X : Cx) (E : XK) : Prop := ∀ (pins : List (Addr × Obj)) (σ : St) (H : Hp) (s : Shared) (e : Value) (s' : Shared), Inv X pins σ H s → CX X.stack H s E e s' → X.xe e s'

section
variable {X : Cx} {CX : CXT} {k : Nat} {f C : Addr} {fd : FuncData} {ps : List Str} {sp : Sp} {dvs : List V} {ds : List Value} {E : XK} {x m : Str} {p pos apos : Pos} {e o : Expr} {es : List Expr} {ta : TE} {t : TA}

/-- the callee runs -/
theorem run_fn {pins : List (Addr × Obj)} {σ : St} {H : Hp} {s : Shared} {Q : VK} {us : List Value} {vs : List V} (F : FnOk X.prog X.w X.K X.mg X.base CX k f fd ps sp) (hr : Room k X.A) (hb : Binds X.K fd ps ds) (hd : Vals dvs ds) (hx : Passes CX X E)
    (I : Inv X pins σ H s) (r : Vals vs us) (h : sp (vs ++ dvs) H Q E) : wpAny (model X.prog X.w) X.A (call (.ref f) us) (EP X pins σ Q) X.xe s := by
  have r2 : Vals (vs ++ dvs) (us ++ ds) := r.append hd
  have hl : (us ++ ds).length = ps.length := by rw [← r2.length]; exact F.len _ _ _ _ h
  refine wpAny_call (codeAny_mono (F.run X.A X.stack s H ⟨us, []⟩ (us ++ ds) (vs ++ dvs) Q E hr I.env0 (hb s us I.kIn hl) r2 h) fun r s' hq => ?_)
  cases r with
  | error e => exact hx pins σ H s e s' I hq
  | ok fl =>
    cases fl with
    | ret u => exact I.after hq
    | next => exact False.elim hq
    | brk => exact False.elim hq
    | cont => exact False.elim hq

theorem pe_call (F : FnOk X.prog X.w X.K X.mg X.base CX k f fd ps sp) (hr : Room k X.A) (hg : Gl X x) (hm : X.mg x = some (.ref f)) (hk : PySem.W.keepIn X.K (.ref f) = true) (hb : Binds X.K fd ps ds) (hd : Vals dvs ds) (hx : Passes CX X E)
    (ha : PA X (e :: es) t) (hdb : (x == ("__debug__" : Str)) = false := by decide) (he : starEach (e :: es) X.env = (false, eval e X.env) :: starEach es X.env := by rfl) (hpl : (backTo pos (starEach es X.env)).any (·.1) = false := by rfl) :
    PE X (.Call (.Name x p) (e :: es) [] pos) (tCall sp dvs E t) := by
  intro pins s σ H Q I h
  refine wpAny_Call_Name_kw (ld_glob I hg hm ?_ hdb)
  refine PySem.W.callWith_K (h₀ := X.base) I.ok.mod.kin hk (thn (ha pos pins s σ H _ I h) fun us s1 ⟨vs, H1, I1, r, q⟩ => ⟨I1.kIn, ?_⟩) he hpl
  exact run_fn F hr hb hd hx I1 r q



end

/-! ### keywords -/
section
variable {X : Cx} {CX : CXT} {k : Nat} {f C : Addr} {fd : FuncData} {ps ks : List Str} {sp : Sp} {E : XK} {x m : Str} {p pos apos kpos : Pos} {e o : Expr} {es : List Expr} {kws : List Keyword} {te ta : TE} {t tk : TA} {nm : Option Str}

variable {g : List Value → List Value → List Value} {gV : List V → List V → List V}
end

/-! ### a def's body keeps its promise -/
/-- names: the parameters first -/
structure FnScope (N P : List Str) (sc : Scope) : Prop where
  kind : sc.kind = .function
  co : sc.isCoroutine = false
  gen : sc.isGenerator = false
  nd : N.Nodup
  pre : N.take P.length = P
  par : ∀ x ∈ P, sc.names.lookup x = some .local ∨ sc.names.lookup x = some .cell
  nofree : ∀ y ∈ sc.names, y.2 ≠ .free

theorem bindL_out {kindOf : Str → Option NameKind} {x : Str} : ∀ {binds : List (Str × Value)} {m : Str → Option Value}, (∀ v, (x, v) ∉ binds) → bindL kindOf binds m x = m x
  | [], _, _ => rfl
  | (n, v) :: r, m, h => by
    unfold bindL
    rw [bindL_out fun w hw => h w (List.mem_cons_of_mem _ hw)]
    split
    · have : x ≠ n := by rintro rfl; exact h v List.mem_cons_self
      simp [this]
    · rfl
theorem bindC_out {kindOf : Str → Option NameKind} {x : Str} : ∀ {binds : List (Str × Value)} {m : Str → Option Value}, (∀ v, (x, v) ∉ binds) → bindC kindOf binds m x = m x
  | [], _, _ => rfl
  | (n, v) :: r, m, h => by
    unfold bindC
    rw [bindC_out fun w hw => h w (List.mem_cons_of_mem _ hw)]
    split
    · rfl
    · have : x ≠ n := by rintro rfl; exact h v List.mem_cons_self
      simp [this]
theorem bindL_get {kindOf : Str → Option NameKind} {x : Str} {v : Value} : ∀ {P : List Str} {vs : List Value} {i : Nat} {m : Str → Option Value}, P.Nodup → P[i]? = some x → vs[i]? = some v → kindOf x = some .local →
    bindL kindOf (P.zip vs) m x = some v
  | [], _, _, _, _, h, _, _ => by simp at h
  | _ :: _, [], _, _, _, _, h, _ => by simp at h
  | p :: P, w :: vs, 0, m, nd, h1, h2, hk => by
    simp at h1 h2; subst h1; subst h2
    show bindL kindOf ((p, w) :: P.zip vs) m p = _
    unfold bindL
    rw [bindL_out fun v hv => (List.nodup_cons.mp nd).1 (List.of_mem_zip hv).1, if_pos hk]
    simp
  | p :: P, w :: vs, i + 1, m, nd, h1, h2, hk => by
    show bindL kindOf ((p, w) :: P.zip vs) m x = _
    unfold bindL
    exact bindL_get (i := i) (List.nodup_cons.mp nd).2 (by simpa using h1) (by simpa using h2) hk
theorem bindC_get {kindOf : Str → Option NameKind} {x : Str} {v : Value} : ∀ {P : List Str} {vs : List Value} {i : Nat} {m : Str → Option Value}, P.Nodup → P[i]? = some x → vs[i]? = some v → kindOf x ≠ some .local →
    bindC kindOf (P.zip vs) m x = some v
  | [], _, _, _, _, h, _, _ => by simp at h
  | _ :: _, [], _, _, _, _, h, _ => by simp at h
  | p :: P, w :: vs, 0, m, nd, h1, h2, hk => by
    simp at h1 h2; subst h1; subst h2
    show bindC kindOf ((p, w) :: P.zip vs) m p = _
    unfold bindC
    rw [bindC_out fun v hv => (List.nodup_cons.mp nd).1 (List.of_mem_zip hv).1, if_neg hk]
    simp
  | p :: P, w :: vs, i + 1, m, nd, h1, h2, hk => by
    show bindC kindOf ((p, w) :: P.zip vs) m x = _
    unfold bindC
    exact bindC_get (i := i) (List.nodup_cons.mp nd).2 (by simpa using h1) (by simpa using h2) hk

/-- the names' values at the entry -/
def start (N : List Str) (vs : List V) : St := vs.map some ++ List.replicate (N.length - vs.length) none

/-- the context of a def's body, at its entry; an exception leaves the frame, then lies as CX says -/
def cxOf (CX : CXT) (P : Program) (w : World) (K : PySem.W.Frag) (mg : Str → Option Value) (base : Heap) (N : List Str) (qual : Str) (scope : Scope) (f : Addr) (cd : Value) (A : Around) (outer : List Env) (s : Shared) (H : Hp) (E : XK) : Cx where
  prog := P
  w := w
  K := K
  mg := mg
  base := base
  A := A.deeper (envOfC qual scope s.heap.objs.size f cd)
  N := N
  s₀ := s
  H₀ := H
  env := envOfC qual scope s.heap.objs.size f cd
  outer := outer
  stack := envOfC qual scope s.heap.objs.size f cd :: outer
  ex := []
  calm := true
  fn := fun _ => true
  pn := []
  xe := fun e s' => wpAny (model P w) (A.deeper (envOfC qual scope s.heap.objs.size f cd)) (leaving (envOfC qual scope s.heap.objs.size f cd) e) (fun _ s'' => CX outer H s E e s'') (fun e' s'' => CX outer H s E e' s'') s'

theorem cell_has {sc : Scope} {n : Nat} {x : Str} (h : sc.names.lookup x = some .cell) : ∃ c, (cellsFrom n sc.names []).lookup x = some c := by
  have q := PySem.W.cellsFrom_some sc.names n [] (.inl h)
  exact Option.isSome_iff_exists.mp q

theorem inv_start {CX : CXT} {P : Program} {w : World} {K : PySem.W.Frag} {mg : Str → Option Value} {base : Heap} {N ps : List Str} {qual : Str} {scope : Scope} {f : Addr} {cd : Value} {A : Around} {outer : List Env} {s s1 : Shared} {H : Hp} {E : XK} {us : List Value} {vs : List V}
    (S : FnScope N ps scope) (hd : A.handled = none) (e0 : Env0 P w K mg base A outer s H) (hl : vs.length = ps.length) (r : Vals vs us)
    (x : InCallC s s.heap.objs.size (bindL (envOfC qual scope s.heap.objs.size f cd).kindOf (ps.zip us) fun _ => none) (cellsFrom (s.heap.objs.size + 1) scope.names []) (bindC (envOfC qual scope s.heap.objs.size f cd).kindOf (ps.zip us) fun _ => none) s1) :
    Inv (cxOf CX P w K mg base N qual scope f cd A outer s H E) [] (start N vs) H s1 := by
  have hpl : ps.length ≤ N.length := by have := congrArg List.length S.pre; rw [List.length_take] at this; omega
  obtain ⟨h1, tk, rfl, hk⟩ := x.done
  have noA : ∀ b : Addr, b ∉ (cxOf CX P w K mg base N qual scope f cd A outer s H E).ex := fun b z => absurd (show b ∈ ([] : List Addr) from z) (by simp)
  refine ⟨⟨e0.mod, S.kind, rfl, rfl, Nat.le_refl _, fun y z c h1 h2 => ?_, fun y hy => ?_, fun y c _ h => ?_, fun _ => hd, Around.frames_deeper e0.frames, .inr ⟨rfl, rfl⟩, fun b z => absurd z (noA b), e0.bs, e0.bsz, fun b _ _ => noA b, fun b z => absurd z (noA b), e0.funs, e0.frf⟩,
    rfl, e0.bare, Un.kept hk, ⟨_, x.toInCall.ns, fun i y v h1 h2 h3 => ?_⟩, fun y c h => ⟨_, x.cell y c h⟩, e0.hok.fresh (Nat.le_refl _), fun y c h => ?_, fun p hp => absurd (show p ∈ ([] : List (Addr × Obj)) from hp) (by simp), e0.hok.kept hk, ?_⟩
  · exact name_of_addr x.apart (PySem.mem_of_lookup h1) (PySem.mem_of_lookup h2)
  · have hy : scope.names.lookup y = some .cell ∨ scope.names.lookup y = some .free := hy
    rcases hy with hy | hy
    · exact cell_has hy
    · exact absurd rfl (S.nofree _ (PySem.mem_of_lookup hy))
  · exact Nat.le_of_lt (x.above y c (PySem.mem_of_lookup h))
  · have hi : i < vs.length := by
      unfold start at h2
      by_cases hi : i < vs.length
      · exact hi
      · rw [List.getElem?_append_right (by simpa using hi)] at h2
        rw [List.getElem?_replicate] at h2
        split at h2 <;> cases h2
    have ha : vs[i]? = some v := by
      unfold start at h2
      rw [List.getElem?_append_left (by simpa using hi), List.getElem?_map] at h2
      cases e : vs[i]? with
      | none => rw [e] at h2; cases h2
      | some a => rw [e] at h2; cases h2; rfl
    obtain ⟨u, hu, rv⟩ := r.get ha
    have hp : ps[i]? = some y := by
      rw [← S.pre, List.getElem?_take_of_lt (by omega)]; exact h1
    have ndP : ps.Nodup := by rw [← S.pre]; exact S.nd.sublist (List.take_sublist _ _)
    refine ⟨u, rv, ?_⟩
    rcases S.par y (List.mem_of_getElem? hp) with k | k
    · exact .inl ⟨k, bindL_get ndP hp hu k⟩
    · obtain ⟨c, e⟩ := cell_has (n := s.heap.objs.size + 1) k
      refine .inr ⟨.inl k, c, e, ?_⟩
      have q := x.cell y c e
      rw [bindC_get ndP hp hu (by show scope.names.lookup y ≠ _; rw [k]; decide)] at q
      exact q
  · exact e0.hok.fresh (Nat.le_of_lt (x.above y c (PySem.mem_of_lookup h)))
  · unfold start
    show _ = N.length
    rw [List.length_append, List.length_map, List.length_replicate]
    omega

/-- THE RULE: a def (or a method) of the text, by its body. The body's reading t is chosen for each entry; it is run at the parameters' values -/
theorem fn_of {CX : CXT} {P : Program} {w : World} {K : PySem.W.Frag} {mg : Str → Option Value} {base : Heap} {k : Nat} {f : Addr} {name qual : Str} {params : Arguments} {body : List Stmt} {scope : Scope} {dV kV doc pm cdv ct oc : Value} {an od : Option Addr}
    {osl : Array (Option Value)} {N ps : List Str} {sp : Sp} (lk : K.lookup f = some ⟨oc, od, .func (PySem.W.fnOf name qual params body scope dV kV doc pm an cdv ct), osl⟩) (hcd : PySem.W.codeIn K cdv qual = true) (S : FnScope N ps scope)
    (len : ∀ vs H Q E, sp vs H Q E → vs.length = ps.length)
    (hbody : ∀ (A : Around) (outer : List Env) (s : Shared) (H : Hp) (vs : List V) (Q : VK) (E : XK), Room k (A.deeper (envOfC qual scope s.heap.objs.size f cdv)) → sp vs H Q E →
      ∃ t, PSs (cxOf CX P w K mg base N qual scope f cdv A outer s H E) body t ∧ t { nx := fun _ H' => Q .non H', rt := Q } (start N vs) H) :
    FnOk P w K mg base CX (k + 1) f (PySem.W.fnOf name qual params body scope dV kV doc pm an cdv ct) ps sp := by
  refine ⟨len, fun A outer s H args us vs Q E hr e0 hb r hsp => ?_⟩
  have hl := len _ _ _ _ hsp
  have KX : K.In s.heap := e0.mod.kin.keeps fun b o e => (e0.bs b o e).1
  have lim : s.heap.NoLimit := e0.mod.nolimit.keeps fun b o e => (e0.bs b o e).1
  have hkind : ∀ y ∈ ps.zip us, scope.names.lookup y.1 = some .local ∨ (scope.names.lookup y.1 = some .cell ∧ ((cellsFrom (s.heap.objs.size + 1) scope.names []).lookup y.1).isSome = true) := fun ⟨n, v⟩ hy => by
    rcases S.par n (List.of_mem_zip hy).1 with q | q
    · exact .inl q
    · exact .inr ⟨q, PySem.W.cellsFrom_some _ _ _ (.inl q)⟩
  refine codeAny_call_function hr.depth (KX _ _ lk) rfl S.co S.gen rfl (PySem.W.codeRec_of KX hcd) (hb _ _ _ _ ?_)
  refine wpAny_newFunctionEnv_cells S.kind hkind fun env he s1 x => ?_
  subst he
  refine ⟨lim.keeps x.toInCall.keep, codeAny_func ?_⟩
  obtain ⟨t, ht, hq⟩ := hbody A outer s H vs Q E (hr.deeper _) hsp
  have I : Inv (cxOf CX P w K mg base N qual scope f cdv A outer s H E) [] (start N vs) H s1 := inv_start S hr.hd e0 hl r x
  refine wpAny_mono (ht [] s1 (start N vs) H _ I hq) (fun fl s' hs => ?_) fun e s' hs => hs
  have fin : ∀ {σ' : St} {H' : Hp} {v : V} {u : Value}, Inv (cxOf CX P w K mg base N qual scope f cdv A outer s H E) [] σ' H' s' → RelV v u → Q v H' → CE outer P w H s Q u s' :=
    fun {σ' H' v u} J rv q => ⟨v, H', J.os, J.bare, J.base, J.hok, rv, q⟩
  cases fl with
  | ret u =>
    obtain ⟨v, σ', H', J, rv, q⟩ := hs
    exact fin J rv q
  | next =>
    obtain ⟨σ', H', J, q⟩ := hs
    exact fin (v := V.non) (u := Value.none) J rfl q
  | brk =>
    obtain ⟨_, _, _, q⟩ := hs
    exact False.elim q
  | cont =>
    obtain ⟨_, _, _, q⟩ := hs
    exact False.elim q
end L2

namespace L2
open PySem PySem.Spec PyProof.Rows
section
variable {X : Cx} {x : Str} {p pos : Pos} {e : Expr} {es : List Expr} {t : TA} {id T : String} {r : List V → Hp → VK → Prop}

def tCB (r : List V → Hp → VK → Prop) (t : TA) : TE := fun σ H Q => t σ H fun vs H1 => r vs H1 Q
/-- f(e, ..), f a built-in function -/
theorem pe_callB (hc : CallR X (.builtin id) r) (hg : Gl X x) (hm : X.mg x = none) (hv : bootBuiltins x = some (.builtin id)) (ha : PA X (e :: es) t) (hn : x ≠ "__name__" := by decide) (hdb : (x == ("__debug__" : Str)) = false := by decide)
    (he : starEach (e :: es) X.env = (false, eval e X.env) :: starEach es X.env := by rfl) (hpl : (backTo pos (starEach es X.env)).any (·.1) = false := by rfl) : PE X (.Call (.Name x p) (e :: es) [] pos) (tCB r t) := by
  intro pins s σ H Q I h
  refine wpAny_Call_Name_kw (ld_blt I hg hm hv ?_ hn hdb)
  exact PyProof.Rows.callWith_builtin1 (thn (ha pos pins s σ H _ I h) fun us s1 ⟨vs, H1, I1, r1, q1⟩ => hc pins s1 σ H1 vs us Q I1 r1 q1) he hpl
/-- T(e, ..), T a built-in type -/
theorem pe_callTy (hc : CallR X (.type T) r) (hg : Gl X x) (hm : X.mg x = none) (hv : bootBuiltins x = some (.type T)) (ha : PA X (e :: es) t) (hn : x ≠ "__name__" := by decide) (hdb : (x == ("__debug__" : Str)) = false := by decide)
    (he : starEach (e :: es) X.env = (false, eval e X.env) :: starEach es X.env := by rfl) (hpl : (backTo pos (starEach es X.env)).any (·.1) = false := by rfl) : PE X (.Call (.Name x p) (e :: es) [] pos) (tCB r t) := by
  intro pins s σ H Q I h
  refine wpAny_Call_Name_kw (ld_blt I hg hm hv ?_ hn hdb)
  exact PyProof.Rows.callWith_type1 (thn (ha pos pins s σ H _ I h) fun us s1 ⟨vs, H1, I1, r1, q1⟩ => hc pins s1 σ H1 vs us Q I1 r1 q1) he hpl
end
end L2

namespace HT
open PySem PyProof.Rows



section
open PySem.SeqAt
open PySem.AutoSeq1 (wpAny_loadPart')
open PySem.MeetsSeq PySem.MeetsSeq2 PySem.MeetsSeq3

end

section
variable {prog : Program} {w : World} {A : Around} {E : Value → Shared → Prop} {s : Shared}


/-- t + u, t not empty -/
theorem cat_tup {t b : Addr} {vs ws : List Value} {Q : Value → Shared → Prop} (ht : IsTup s.heap t vs.toArray) (hb : IsTup s.heap b ws.toArray) (hv : vs ≠ [])
    (h1 : ws = [] → Q (.ref t) s) (h2 : ws ≠ [] → Q (.ref s.heap.objs.size) { s with heap := s.heap.push { cls := .type "tuple", data := .seq (vs ++ ws).toArray } })
    (hsz : vs.length + ws.length ≤ sizeLine) : wpAny (model prog w) A (binaryOp .Add (.ref t) (.ref b)) Q E s := by
  obtain ⟨⟨cls, dd, data, sl⟩, ho, hc, n, hd⟩ := id ht
  obtain ⟨⟨cls2, dd2, data2, sl2⟩, ho2, hc2, n2, hd2⟩ := id hb
  simp only at hc hd hc2 hd2
  subst hc hd hc2 hd2
  have e : vs.toArray ++ ws.toArray = (vs ++ ws).toArray := by simp
  by_cases hw : ws = []
  · exact concat_meets ⟨_, ho, rfl⟩ ⟨_, ho2, rfl⟩ noFill_tuple_add seq_tuple_add PySem.F.slot_tuple_add PySem.F.entry_tuple_add (PySem.F.args_tuple_add_2 _ _)
      (tuple_addW1 t b vs.toArray ws.toArray n n2 dd dd2 sl sl2 (by simpa using hv) (by simp [hw])) ⟨ho, ho2, h1 hw⟩
  · refine concat_meets ⟨_, ho, rfl⟩ ⟨_, ho2, rfl⟩ noFill_tuple_add seq_tuple_add PySem.F.slot_tuple_add PySem.F.entry_tuple_add (PySem.F.args_tuple_add_2 _ _)
      (tuple_addW2 t b vs.toArray ws.toArray n n2 dd dd2 sl sl2 (by simpa using hv) (by simpa using hw) (by rw [List.size_toArray, List.size_toArray]; exact hsz)) ⟨ho, ho2, ?_⟩
    rw [e]
    exact h2 hw

/-! ### t[a:b], not the whole -/
/-- a slice's bound as a place among n (d where it is left out) -/
def sIx (n d : Nat) : Option Int → Nat
  | none => d
  | some v => if v < 0 then (v + (n : Int)).toNat else min v.toNat n
theorem sIx_none (n d : Nat) : sIx n d none = d := rfl
theorem sIx_nat (n d k : Nat) : sIx n d (some (k : Int)) = min k n := by
  show (if (k : Int) < 0 then ((k : Int) + (n : Int)).toNat else min (k : Int).toNat n) = min k n
  rw [if_neg (by omega), Int.toNat_natCast]

end
end HT

namespace L2
open PySem PySem.Spec PyProof.Rows

/-! ### the parts of a slice -/
abbrev TO := St → Hp → (Option Int → Hp → Prop) → Prop
/-- a slice's part (left out, or an int) -/
def PO (X : Cx) (e : Option Expr) (t : TO) : Prop :=
  ∀ (pins : List (Addr × Obj)) (s : Shared) (σ : St) (H : Hp) (Q : Option Int → Hp → Prop), Inv X pins σ H s → t σ H Q →
    wpAny (model X.prog X.w) X.A (evalPart e X.env) (fun u s' => ∃ o H', Inv X pins σ H' s' ∧ IsPart u o ∧ Q o H') X.xe s
def tNoPart : TO := fun _ H Q => Q none H
def tPart (t : TE) : TO := fun σ H Q => t σ H fun x H1 => ∃ i, x = .int i ∧ Q (some i) H1


section
variable {X : Cx} {e : Expr} {te : TE} {lo hi : Option Expr} {tl th : TO} {pos p2 : Pos}

theorem po_none : PO X none tNoPart := by
  intro pins s σ H Q I h
  rw [evalPart_none]
  exact wpAny_pure ⟨none, H, I, .none, h⟩
theorem po_some (h : PE X e te) : PO X (some e) (tPart te) := by
  intro pins s σ H Q I hw
  rw [evalPart_some]
  refine thn (h pins s σ H _ I hw) fun u s1 ⟨x, H1, I1, r1, q1⟩ => ?_
  obtain ⟨i, rfl, q⟩ := q1
  obtain ⟨t, rfl⟩ := r1
  exact ⟨some i, H1, I1, .int i t, q⟩

/-- what a slice of a value is, by values: the slice object stands at sl -/
def SlR (X : Cx) (r : V → Option Int → Option Int → Hp → VK → Prop) : Prop :=
  ∀ (pins : List (Addr × Obj)) (s : Shared) (σ : St) (H : Hp) (x : V) (v vl vu : Value) (lo hi : Option Int) (sl : Addr) (Q : VK), Inv X pins σ H s → RelV x v → s.heap.IsSliceOf sl vl vu .none → IsPart vl lo → IsPart vu hi → r x lo hi H Q →
    ∃ T id, typeLookup (.type T) "__getitem__" = pure (some (.builtin id)) ∧ s.TypeIs v T ∧ wpAny (model X.prog X.w) X.A (getItem v (.ref sl)) (EP X pins σ Q) X.xe s
def tSl (r : V → Option Int → Option Int → Hp → VK → Prop) (te : TE) (tl th : TO) : TE := fun σ H Q => te σ H fun x H1 => tl σ H1 fun l H2 => th σ H2 fun u H3 => r x l u H3 Q
/-- a[lo:hi], any a -/
theorem pe_slice {r : V → Option Int → Option Int → Hp → VK → Prop} (hr : SlR X r) (he : PE X e te) (hl : PO X lo tl) (hu : PO X hi th) : PE X (.Subscript e (.Slice lo hi none p2) pos) (tSl r te tl th) := by
  intro pins s σ H Q I h
  refine Subscript_ (thn (he pins s σ H _ I h) fun v s1 ⟨x, H1, I1, r1, q1⟩ => ?_)
  refine wpAny_Slice (thn (hl pins s1 σ H1 _ I1 q1) fun vl s2 ⟨l, H2, I2, pl, q2⟩ => thn (hu pins s2 σ H2 _ I2 q2) fun vu s3 ⟨u, H3, I3, pu, q3⟩ => ?_)
  rw [evalPart_none]
  refine wpAny_pure ?_
  have I4 : Inv X pins σ H3 { s3 with heap := s3.heap.push { cls := .type "slice", data := .fields #[vl, vu, .none] } } := I3.kept (t' := s3.toks) fun b ob q => Heap.get?_push_of_some _ q
  obtain ⟨T, id, hT, ht, hg⟩ := hr pins { s3 with heap := s3.heap.push { cls := .type "slice", data := .fields #[vl, vu, .none] } } σ H3 x v vl vu l u s3.heap.objs.size Q I4 r1 (Heap.IsSliceOf.new ..) pl pu q3
  show wpAny (model X.prog X.w) X.A (subscriptTail e (.Slice lo hi none p2) v (.ref s3.heap.objs.size)) (EP X pins σ Q) X.xe { s3 with heap := s3.heap.push { cls := .type "slice", data := .fields #[vl, vu, .none] } }
  exact tail_any (ops := [.ref s3.heap.objs.size, v]) ht hT hg (by with_unfolding_all rfl)

/-- the items of xs[lo:hi] -/
def cutV (xs : List V) (lo hi : Option Int) : List V := (xs.drop (HT.sIx xs.length 0 lo)).take (HT.sIx xs.length xs.length hi - HT.sIx xs.length 0 lo)
theorem cutV_length (xs : List V) (lo hi : Option Int) : (cutV xs lo hi).length ≤ xs.length := by
  unfold cutV
  rw [List.length_take, List.length_drop]
  omega

/-! ### t < u, t + u -/
/-- t + u, t not empty: u empty gives t itself -/
def rCatT (K : PySem.W.Frag) : R2 := fun x y H Q => ∃ a b xs ys, x = .ref a ∧ y = .ref b ∧ SqT K H a xs ∧ SqT K H b ys ∧ xs ≠ [] ∧ xs.length + ys.length ≤ sizeLine ∧
  (ys = [] → Q (.ref a) H) ∧ (ys ≠ [] → ∀ p, H p = none → Q (.ref p) (upd H p (.tup (xs ++ ys))))
theorem Vals.nil_iff {xs : List V} {us : List Value} (r : Vals xs us) : us = [] ↔ xs = [] := by
  cases r with
  | nil => simp
  | cons _ _ => simp
theorem op_catT : OpR X (binaryOp .Add) (rCatT X.K) := by
  intro pins s σ H x y v u Q I rx ry h
  obtain ⟨a, b, xs, ys, rfl, rfl, ha, hb, hx, hz, q1, q2⟩ := h
  cases rx
  cases ry
  obtain ⟨its, r1, p1, _⟩ := I.tuple ha
  obtain ⟨its2, r2, p2, _⟩ := I.tuple hb
  refine HT.cat_tup p1 p2 (fun z => hx (r1.nil_iff.mp z)) (fun z => ⟨.ref a, H, I, rfl, q1 (r2.nil_iff.mp z)⟩) (fun z => ?_) (by rw [← r1.length, ← r2.length]; exact hz)
  refine ⟨.ref s.heap.objs.size, _, I.laid (t' := s.toks) (o := .tup (xs ++ ys)) (fun b ob q => Heap.get?_push_of_some _ q) (Nat.le_refl _) ?_, rfl, q2 (fun w => z (r2.nil_iff.mpr w)) _ (I.hok.fresh (Nat.le_refl _))⟩
  exact ⟨by rw [List.length_append]; exact hz, _, r1.append r2, IsTup.new _ _⟩
end
end L2

namespace L2
open PySem PySem.Spec PyProof.Rows

/-! ### places -/
/-- the place that an index of any sign means -/
def ixN (n : Nat) (i : Int) : Option Nat := if 0 ≤ i then (if i < n then some i.toNat else none) else if -(n : Int) ≤ i then some (i + n).toNat else none
def atI {α : Type} (xs : List α) (i : Int) : Option α := (ixN xs.length i).bind fun j => xs[j]?
theorem ixN_seq {n : Nat} {i : Int} {j : Nat} (h : ixN n i = some j) : seqIndex? i n = some j ∧ j < n ∧ -(n : Int) ≤ i ∧ i < n := by
  unfold ixN at h
  by_cases h0 : 0 ≤ i
  · rw [if_pos h0] at h
    by_cases h1 : i < n
    · rw [if_pos h1] at h
      have e : i.toNat = j := Option.some.inj h
      exact ⟨by rw [seqIndex_of h0 h1, e], by omega, by omega, h1⟩
    · rw [if_neg h1] at h; cases h
  · rw [if_neg h0] at h
    by_cases h1 : -(n : Int) ≤ i
    · rw [if_pos h1] at h
      have e : (i + n).toNat = j := Option.some.inj h
      exact ⟨by rw [seqIndex_neg (by omega) h1, e], by omega, h1, by omega⟩
    · rw [if_neg h1] at h; cases h
theorem atI_get {α : Type} {xs : List α} {i : Int} {v : α} (h : atI xs i = some v) : ∃ j, seqIndex? i xs.length = some j ∧ xs[j]? = some v ∧ j < xs.length ∧ -(xs.length : Int) ≤ i ∧ i < xs.length := by
  unfold atI at h
  cases e : ixN xs.length i with
  | none => rw [e] at h; cases h
  | some j =>
    rw [e] at h
    obtain ⟨h1, h2, h3, h4⟩ := ixN_seq e
    exact ⟨j, h1, h, h2, h3, h4⟩
theorem atI_nat {α : Type} {xs : List α} {j : Nat} {v : α} (h : xs[j]? = some v) : atI xs (j : Int) = some v := by
  have hj : j < xs.length := (List.getElem?_eq_some_iff.mp h).1
  have e : ixN xs.length (j : Int) = some j := by
    unfold ixN
    rw [if_pos (by omega), if_pos (by omega)]; simp
  unfold atI; rw [e]; exact h

/-! ### what may be subscripted -/
/-- what stands as an index of a plain subscript -/
def PlainIx (b : Expr) : Prop := ∀ o i, subscripted b false o i = operate [o, i] (getItem o i)
/-- a subscript by values -/
def IxR (X : Cx) (r : R2) : Prop :=
  ∀ (value slice : Expr) (pins : List (Addr × Obj)) (s : Shared) (σ : St) (H : Hp) (x y : V) (v u : Value) (Q : VK), Inv X pins σ H s → RelV x v → RelV y u → r x y H Q →
    subscripted slice false v u = operate [v, u] (getItem v u) → wpAny (model X.prog X.w) X.A (subscriptTail value slice v u) (EP X pins σ Q) X.xe s
/-- a call of a builtin's method by values: the receiver, the arguments -/
def MtR (X : Cx) (id : String) (r : V → List V → Hp → VK → Prop) : Prop :=
  ∀ (pins : List (Addr × Obj)) (s : Shared) (σ : St) (H : Hp) (x : V) (xs : List V) (v : Value) (us : List Value) (Q : VK), Inv X pins σ H s → RelV x v → Vals xs us → r x xs H Q →
    wpAny (model X.prog X.w) X.A (call (.builtin id) (v :: us)) (EP X pins σ Q) X.xe s
section
variable {X : Cx} {a b : Expr} {ta tb : TE} {pos : Pos}
theorem IxR.or {r r' : R2} (h : IxR X r) (h' : IxR X r') : IxR X (fun x y H Q => r x y H Q ∨ r' x y H Q) := by
  intro value slice pins s σ H x y v u Q I rx ry q hs
  rcases q with q | q
  · exact h value slice pins s σ H x y v u Q I rx ry q hs
  · exact h' value slice pins s σ H x y v u Q I rx ry q hs
/-- a[b] -/
theorem pe_ix {r : R2} (hr : IxR X r) (ha : PE X a ta) (hb : PE X b tb) (hs : PlainIx b) : PE X (.Subscript a b pos) (tOp r ta tb) := by
  intro pins s σ H Q I h
  exact Subscript_ (binT ha hb I h fun v u s2 x y H2 I2 rx ry q => hr a b pins s2 σ H2 x y v u Q I2 rx ry q (hs _ _))

def rIxL (K : PySem.W.Frag) : R2 := fun x y H Q => ∃ p xs i v, x = .ref p ∧ y = .int i ∧ SqL K H p xs ∧ atI xs i = some v ∧ Q v H
def rIxT (K : PySem.W.Frag) : R2 := fun x y H Q => ∃ p xs i v, x = .ref p ∧ y = .int i ∧ SqT K H p xs ∧ atI xs i = some v ∧ Q v H
def rIxS : R2 := fun x y H Q => ∃ z i c, x = .str z ∧ y = .int i ∧ z.length ≤ sizeLine ∧ atI z.cps.toList i = some c ∧ Q (.str ⟨#[c]⟩) H
theorem ix_list : IxR X (rIxL X.K) := by
  intro value slice pins s σ H x y v u Q I rx ry h hs
  obtain ⟨p, xs, i, z, rfl, rfl, hq, he, q⟩ := h
  cases rx
  obtain ⟨t, rfl⟩ := ry
  obtain ⟨its, r, pl, hz⟩ := I.list hq
  obtain ⟨j, h1, h2, h3, h4, h5⟩ := atI_get he
  obtain ⟨w, ew, rw'⟩ := r.get h2
  have hl := r.length
  have hn := line63
  have fin : EP X pins σ Q w s := ⟨z, H, I, rw', q⟩
  by_cases h0 : 0 ≤ i
  · have hj : i.toNat = j := by
      rw [seqIndex_of h0 h5] at h1
      exact Option.some.inj h1
    exact item_listR pl.isList h0 (by omega) (by rw [hj]; simpa using ew) fin hs
  · have hj : (i + (its.toArray.size : Int)).toNat = j := by
      rw [seqIndex_neg (by omega) h4] at h1
      rw [List.size_toArray, ← hl]
      exact Option.some.inj h1
    exact subscriptTail_builtinR (x := w) pl.isList.typeIs slot_list_getitem.lookup
      (wpAny_getItem_list_neg (Q := fun r s' => r = w ∧ EP X pins σ Q r s') pl.isList (by omega) (by rw [List.size_toArray] <;> omega) (by omega) (by rw [hj]; simpa using ew) ⟨rfl, fin⟩) hs
theorem ix_tup : IxR X (rIxT X.K) := by
  intro value slice pins s σ H x y v u Q I rx ry h hs
  obtain ⟨p, xs, i, z, rfl, rfl, hq, he, q⟩ := h
  cases rx
  obtain ⟨t, rfl⟩ := ry
  obtain ⟨its, r, pl, hz⟩ := I.tuple hq
  obtain ⟨j, h1, h2, h3, h4, h5⟩ := atI_get he
  obtain ⟨w, ew, rw'⟩ := r.get h2
  have hl := r.length
  have hn := line63
  have fin : EP X pins σ Q w s := ⟨z, H, I, rw', q⟩
  exact subscriptTail_builtinR (x := w) pl.typeIs slot_tuple_getitem.lookup
    (getItem_tuple (j := j) (Q := fun r s' => r = w ∧ EP X pins σ Q r s') pl (by omega) (by omega) (by rw [List.size_toArray, ← hl]; exact h1) (by simpa using ew) ⟨rfl, fin⟩) hs
theorem ix_str : IxR X rIxS := by
  intro value slice pins s σ H x y v u Q I rx ry h hs
  obtain ⟨z, i, c, rfl, rfl, hz, he, q⟩ := h
  obtain ⟨t, rfl⟩ := rx
  obtain ⟨t', rfl⟩ := ry
  obtain ⟨j, h1, h2, h3, h4, h5⟩ := atI_get he
  have hl : z.cps.toList.length = z.length := by simp [Str.length]
  rw [hl] at h1 h4 h5
  have hn := line63
  exact tail_any (typeIs_str s z t) slot_str_getitem.lookup (getItem_str (c := c) (by
    have e1 : decide (i < -(2 ^ 63 : Int)) = false := decide_eq_false (by omega)
    have e2 : decide (i ≥ 2 ^ 63) = false := decide_eq_false (by omega)
    rw [e1, e2, Bool.or_false]) (by rw [h1]; simpa using h2) ⟨.str ⟨#[c]⟩, H, I.tok _, ⟨_, rfl⟩, q⟩) hs
/-- list, tuple or str -/
def rIx (K : PySem.W.Frag) : R2 := fun x y H Q => rIxL K x y H Q ∨ rIxT K x y H Q ∨ rIxS x y H Q
theorem ix_seq : IxR X (rIx X.K) := ix_list.or (ix_tup.or ix_str)

/-! ### xs[i] = v, any sign -/
/-- the list's object behind a store -/
theorem mapSeq_set (its : List Value) (n j : Nat) (u : Value) : Obj.mapSeq (·.setIfInBounds j u) { cls := .type "list", data := .seq its.toArray n } = { cls := .type "list", data := .seq (its.set j u).toArray n } := by
  simp [Obj.mapSeq]
theorem Inv.lst {pins : List (Addr × Obj)} {σ : St} {H : Hp} {s : Shared} {p : Addr} {xs : List V} (I : Inv X pins σ H s) (h : H p = some (.lst xs)) :
    ∃ (its : List Value) (n : Nat), Vals xs its ∧ s.heap.get? p = some { cls := .type "list", data := .seq its.toArray n } ∧ xs.length ≤ sizeLine := by
  obtain ⟨z, its, n, r, e⟩ := I.hok p _ h
  exact ⟨its, n, r, e, z⟩
/-- the list at p is written by an update of its object -/
theorem Inv.lstUpd {pins : List (Addr × Obj)} {σ : St} {H : Hp} {s : Shared} {p : Addr} {xs ys : List V} {its its' : List Value} {n n' : Nat} {f : Obj → Obj} (I : Inv X pins σ H s) (h : H p = some (.lst xs))
    (ho : s.heap.get? p = some { cls := .type "list", data := .seq its.toArray n }) (hf : f { cls := .type "list", data := .seq its.toArray n } = { cls := .type "list", data := .seq its'.toArray n' }) (r : Vals ys its') (hz : ys.length ≤ sizeLine) (t : Nat) :
    Inv X pins σ (upd H p (.lst ys)) { s with heap := s.heap.update p f, toks := t } := by
  have e : (s.heap.update p f).get? p = some { cls := .type "list", data := .seq its'.toArray n' } := by
    rw [Heap.get?_update_self f ho (by rw [hf] <;> rfl), hf]
  refine I.write (x := p) (e := p) (by rw [h]; trivial) (.inl rfl) (fun b u hb q => (Heap.get?_update_other _ _ (Ne.symm hb)).trans q) ⟨_, e⟩ ?_
  exact ⟨hz, its', n', r, e⟩
def rSetL : V → V → V → Hp → (Hp → Prop) → Prop := fun o i v H Q => ∃ p xs k j, o = .ref p ∧ i = .int k ∧ H p = some (.lst xs) ∧ ixN xs.length k = some j ∧ Q (upd H p (.lst (xs.set j v)))
theorem set_list : PSet X rSetL := by
  intro pins s σ H o i v ov iv u Q I ro ri rv h
  obtain ⟨p, xs, k, j, rfl, rfl, hp, hj, q⟩ := h
  cases ro
  obtain ⟨t, rfl⟩ := ri
  obtain ⟨its, n, r, ho, hz⟩ := I.lst hp
  obtain ⟨h1, h2, h3, h4⟩ := ixN_seq hj
  have hl := r.length
  have hn := line63
  have I' : Inv X pins σ (upd H p (.lst (xs.set j v))) { s with heap := s.heap.update p (Obj.mapSeq (·.setIfInBounds j u)) } :=
    I.lstUpd hp ho (mapSeq_set its n j u) (r.set rv j) (by rw [List.length_set]; exact hz) s.toks
  by_cases h0 : 0 ≤ k
  · have hk : k.toNat = j := by
      rw [seqIndex_of h0 h4] at h1
      exact Option.some.inj h1
    exact PySem.W.ki_setAt ho h0 (by omega) (by rw [List.size_toArray, ← hl]; exact h4) (by rw [hk]; exact ⟨_, I', q⟩)
  · have hk : (k + (its.toArray.size : Int)).toNat = j := by
      rw [seqIndex_neg (by omega) h3] at h1
      rw [List.size_toArray, ← hl]
      exact Option.some.inj h1
    exact PySem.W.ki_setBack ho (by omega) (by rw [List.size_toArray, ← hl]; exact h3) (by omega) (by rw [hk]; exact ⟨_, I', q⟩)

/-! ### slices -/
theorem slice_bounds (lo hi : Option Int) (n : Nat) : (sliceBounds lo hi none n).1 = ((HT.sIx n 0 lo : Nat) : Int) ∧ (sliceBounds lo hi none n).2.1 = ((HT.sIx n n hi : Nat) : Int) ∧ (sliceBounds lo hi none n).2.2 = 1 := by
  refine ⟨?_, ?_, rfl⟩
  · cases lo with
    | none => simp [sliceBounds, HT.sIx]
    | some i =>
      simp only [sliceBounds, HT.sIx, Option.getD_none, show (1 : Int) > 0 by decide, if_true]
      by_cases h : i < 0
      · simp only [h, if_true] <;> omega
      · simp only [h, if_false] <;> omega
  · cases hi with
    | none => simp [sliceBounds, HT.sIx]
    | some i =>
      simp only [sliceBounds, HT.sIx, Option.getD_none, show (1 : Int) > 0 by decide, if_true]
      by_cases h : i < 0
      · simp only [h, if_true] <;> omega
      · simp only [h, if_false] <;> omega
theorem slicePick_cut (its : List Value) (lo hi : Option Int) : slicePick its.toArray lo hi none = ((its.drop (HT.sIx its.length 0 lo)).take (HT.sIx its.length its.length hi - HT.sIx its.length 0 lo)).toArray := by
  obtain ⟨h1, h2, h3⟩ := slice_bounds lo hi its.toArray.size
  unfold slicePick
  rw [h1, h2, h3]
  simp only [sliceRange_one, pick_run, List.size_toArray] <;> rfl
/-- xs[lo:hi] of a list: a new list -/
def rSlL (K : PySem.W.Frag) : V → Option Int → Option Int → Hp → VK → Prop := fun x lo hi H Q => ∃ a xs, x = .ref a ∧ SqL K H a xs ∧ ∀ p, H p = none → Q (.ref p) (upd H p (.lst (cutV xs lo hi)))
theorem sl_list : SlR X (rSlL X.K) := by
  intro pins s σ H x v vl vu lo hi sl Q I rx hs pl pu h
  obtain ⟨a, xs, rfl, hx, q⟩ := h
  cases rx
  obtain ⟨its, r, ht, hz⟩ := I.list hx
  have hlen := r.length
  refine ⟨"list", _, slot_list_getitem.lookup, ht.isList.typeIs, ?_⟩
  refine wpAny_getItem_list_slice ht.isList hs pl pu .none (by simp) ?_ (by rw [List.size_toArray] <;> omega)
  rw [slicePick_cut, ← hlen]
  refine ⟨.ref s.heap.objs.size, _, I.laid (t' := s.toks) (o := .lst (cutV xs lo hi)) (fun b ob q => Heap.get?_push_of_some _ q) (Nat.le_refl _) ?_, rfl, q _ (I.hok.fresh (Nat.le_refl _))⟩
  exact ⟨Nat.le_trans (cutV_length xs lo hi) hz, _, 0, (r.drop (HT.sIx xs.length 0 lo)).take (HT.sIx xs.length xs.length hi - HT.sIx xs.length 0 lo), Heap.get?_push_size _ rfl⟩

/-! ### in, not in: flat items -/

/-! ### len, list(x), tuple(x) of any list or tuple that is read -/
theorem call_list_of : CallR X (.type "list") (fun xs H Q => ∃ p ys, xs = [.ref p] ∧ (SqL X.K H p ys ∨ SqT X.K H p ys) ∧ ∀ l, H l = none → Q (.ref l) (upd H l (.lst ys))) := by
  intro pins s σ H xs us Q I r h
  obtain ⟨p, ys, rfl, hq, q⟩ := h
  obtain ⟨u, rfl, rx⟩ := vals1 r
  cases rx
  have fin : ∀ (its : List Value), Vals ys its → ys.length ≤ sizeLine → ∀ (h' : Heap) (c' : Nat), (∀ b o', s.heap.get? b = some o' → h'.get? b = some o') →
      h'.get? s.heap.objs.size = some { cls := .type "list", dict := none, data := .seq its.toArray c', slots := #[] } → EP X pins σ Q (.ref s.heap.objs.size) { s with heap := h' } := fun its r' hz h' c' kp e =>
    ⟨.ref s.heap.objs.size, _, I.laid (t' := s.toks) kp (Nat.le_refl _) (show ObjOk X.prog X.w _ h' _ (.lst ys) from ⟨hz, its, c', r', e⟩), rfl, q _ (I.hok.fresh (Nat.le_refl _))⟩
  rcases hq with hq | hq
  · obtain ⟨its, r', pl, hz⟩ := I.list hq
    have hlen := r'.length
    obtain ⟨o, ho, hc, n, hd⟩ := pl.isList
    exact call_list_seq p (.inl rfl) ho hc hd (fun h' c' kp e => fin its r' hz h' c' kp e) (by simp only [List.size_toArray] <;> omega)
  · obtain ⟨its, r', pl, hz⟩ := I.tuple hq
    have hlen := r'.length
    obtain ⟨o, ho, hc, n, hd⟩ := pl
    exact call_list_seq p (.inr rfl) ho hc hd (fun h' c' kp e => fin its r' hz h' c' kp e) (by simp only [List.size_toArray] <;> omega)

/-! ### the call of a builtin's method: o.m(..) -/
/-- the value is of that builtin type -/
def tyV (K : PySem.W.Frag) (T : String) (x : V) (H : Hp) : Prop := match x with
  | .str _ => T = "str"
  | .int _ => T = "int"
  | .ref p => (T = "list" ∧ ∃ xs, SqL K H p xs) ∨ (T = "tuple" ∧ ∃ o, K.lookup p = some o ∧ o.cls = .type "tuple" ∧ o.dict = none) ∨
      (T = "dict" ∧ ((∃ kvs, H p = some (.dK kvs)) ∨ ∃ kvs, H p = some (.dT kvs))) ∨ (T = "set" ∧ ∃ S n, H p = some (.set S n))
  | _ => False
theorem tyV_is {pins : List (Addr × Obj)} {σ : St} {H : Hp} {s : Shared} {T : String} {x : V} {v : Value} (I : Inv X pins σ H s) (r : RelV x v) (ty : tyV X.K T x H) :
    s.TypeIs v T ∧ ∀ a, v = .ref a → ∃ ob, s.heap.get? a = some ob ∧ ob.dict = none := by
  cases x with
  | str z =>
    obtain ⟨t, rfl⟩ := r
    cases (show T = "str" from ty)
    exact ⟨typeIs_str s z t, fun _ e => nomatch e⟩
  | int i =>
    obtain ⟨t, rfl⟩ := r
    cases (show T = "int" from ty)
    exact ⟨typeIs_int s i t, fun _ e => nomatch e⟩
  | ref p =>
    cases r
    rcases ty with ⟨rfl, xs, hq⟩ | ⟨rfl, o, hk, hc, hd⟩ | ⟨rfl, hk⟩ | ⟨rfl, S, n, hk⟩
    · obtain ⟨its, _, pl, _⟩ := I.list hq
      refine ⟨pl.isList.typeIs, fun a e => ?_⟩
      cases e
      obtain ⟨o, n, e, c, hd, _⟩ := pl
      exact ⟨o, e, hd⟩
    · refine ⟨⟨o, I.kIn p o hk, hc⟩, fun a e => ?_⟩
      cases e
      exact ⟨o, I.kIn _ o hk, hd⟩
    · have z : ∃ o, s.heap.get? p = some o ∧ o.ExactDict := by
        rcases hk with ⟨kvs, hk⟩ | ⟨kvs, hk⟩
        · obtain ⟨_, _, _, _, o, _, _, e, ex, _⟩ := I.hok p _ hk
          exact ⟨o, e, ex⟩
        · obtain ⟨_, _, _, _, o, _, _, e, ex, _⟩ := I.hok p _ hk
          exact ⟨o, e, ex⟩
      obtain ⟨o, e, ex⟩ := z
      refine ⟨⟨o, e, ex.1⟩, fun a e2 => ?_⟩
      cases e2
      exact ⟨o, e, ex.2.1⟩
    · obtain ⟨o, _, _, _, e, ex, _⟩ := I.hok p _ hk
      refine ⟨⟨o, e, ex.1⟩, fun a e2 => ?_⟩
      cases e2
      exact ⟨o, e, ex.2.1⟩
  | _ => exact False.elim ty
def tBM (K : PySem.W.Frag) (T : String) (r : V → List V → Hp → VK → Prop) (to : TE) (t : TA) : TE := fun σ H Q => to σ H fun x H1 => tyV K T x H1 ∧ t σ H1 fun xs H2 => r x xs H2 Q
variable {o e : Expr} {es : List Expr} {to : TE} {t : TA} {name : Str} {apos cpos : Pos} {T id : String} {r : V → List V → Hp → VK → Prop}
theorem pe_bm (pa : PlainAttrs T) (slot : Slot T name id) (hty : typeOf (.builtin id) = pure (.type "method_descriptor")) (hm : MtR X id r) (ho : PE X o to) (ha : PA X (e :: es) t)
    (hbase : attributeBase o name X.env (eval o X.env) = eval o X.env := by rfl)
    (hfew : ((backTo cpos (starEach (e :: es) X.env)).all (fun x => !x.1) && (backToKw cpos (keywordEach [] X.env)).all (fun x => x.1.isSome)
      && decide ((e :: es).length + ([] : List Keyword).length + (if ([] : List Keyword).isEmpty then 0 else 1) < 30)) = true := by rfl)
    (hline : (apos.endLine == cpos.line) = true := by rfl) (hs : starEach (e :: es) X.env = (false, eval e X.env) :: starEach es X.env := by rfl) (hplain : (backTo cpos (starEach es X.env)).any (·.1) = false := by rfl) :
    PE X (.Call (.Attribute o name apos) (e :: es) [] cpos) (tBM X.K T r to t) := by
  intro pins s σ H Q I h
  refine wpAny_Call_method_late hbase hfew hline rfl (thn (ho pins s σ H _ I h) fun v s1 ⟨x, H1, I1, r1, ty, q1⟩ => ?_)
  obtain ⟨h1, h2⟩ := tyV_is I1 r1 ty
  refine ⟨T, id, pa, slot, hty, h1, h2, ?_⟩
  have hA := ha cpos pins s1 σ H1 _ I1 q1
  rw [hs] at hA ⊢
  refine Calls.callWith_builtin (by show (false || (backTo cpos (starEach es X.env)).any (·.1)) = false; rw [hplain] <;> rfl) (Calls.evalArgs_plain ?_)
  exact thn hA fun us s2 ⟨vs, H2, I2, r2, q2⟩ => hm pins s2 σ H2 x vs v us Q I2 r1 r2 q2
/- xs.append(e), list.index on a module's tuple .. are MtR facts of 06m -/
end
end L2

namespace L2
open PySem PySem.Spec PyProof.Rows

def MtM (X : Cx) (id : String) (r : V → List V → Hp → VK → Prop) : Prop :=
  ∀ (pins : List (Addr × Obj)) (s : Shared) (σ : St) (H : Hp) (x : V) (xs : List V) (v : Value) (us : List Value) (Q : VK), Inv X pins σ H s → RelV x v → Vals xs us → r x xs H Q →
    wpAny (model X.prog X.w) X.A (call (.builtin id) (v :: us)) (EP X pins σ Q) X.xe s

/-! ### lists of values -/
theorem Vals.one : ∀ {x : V} {us : List Value}, Vals [x] us → ∃ u, us = [u] ∧ RelV x u
  | _, _, .cons r .nil => ⟨_, rfl, r⟩

section
variable {X : Cx} {pins : List (Addr × Obj)} {σ : St} {H : Hp} {s : Shared} {l b : Addr} {xs ys zs : List V}

/-! ### the two steps: a tracked list is rewritten, a new list is laid -/
theorem Inv.lset {its its' : List Value} {n : Nat} {f : Array Value → Array Value} {t' : Nat} (I : Inv X pins σ H s) (hH : H l = some (.lst xs))
    (e : s.heap.get? l = some { cls := .type "list", data := .seq its.toArray n }) (hf : f its.toArray = its'.toArray) (hv : Vals ys its') (hz : ys.length ≤ sizeLine) :
    Inv X pins σ (upd H l (.lst ys)) { s with heap := s.heap.update l (Obj.mapSeq f), toks := t' } := by
  have q := PySem.IsL.update e f
  rw [hf] at q
  refine I.write (x := l) (e := l) (by rw [hH]; exact trivial) (.inl rfl) (fun b' u hb hu => (Heap.get?_update_other s.heap (Obj.mapSeq f) (Ne.symm hb)).trans hu) ⟨_, q⟩ ?_
  exact ⟨hz, its', _, hv, q⟩
theorem Inv.lnew {its : List Value} {t' : Nat} (I : Inv X pins σ H s) (hv : Vals ys its) (hz : ys.length ≤ sizeLine) :
    Inv X pins σ (upd H s.heap.objs.size (.lst ys)) { s with heap := s.heap.push { cls := .type "list", data := .seq its.toArray }, toks := t' } :=
  I.laid (fun _ _ q => Heap.get?_push_of_some _ q) (Nat.le_refl _) ⟨hz, its, 0, hv, Heap.get?_push_size _ rfl⟩
theorem Inv.fresh (I : Inv X pins σ H s) : H s.heap.objs.size = none := I.hok.fresh (Nat.le_refl _)
theorem Inv.lstM (I : Inv X pins σ H s) (hH : H l = some (.lst xs)) : xs.length ≤ sizeLine ∧ ∃ (its : List Value) (n : Nat), Vals xs its ∧ xs.length = its.length ∧ s.heap.get? l = some { cls := .type "list", data := .seq its.toArray n } := by
  obtain ⟨z, its, n, r, e⟩ := I.hok l _ hH
  exact ⟨z, its, n, r, r.length, e⟩

end

section
variable {X : Cx}

/-! ### methods -/
def rAppend : V → List V → Hp → VK → Prop := fun x vs H Q => ∃ l xs y, x = .ref l ∧ vs = [y] ∧ H l = some (.lst xs) ∧ xs.length < sizeLine ∧ Q .non (upd H l (.lst (xs ++ [y])))
theorem mt_append : MtM X "list.append" rAppend := by
  intro pins s σ H x vs v us Q I rx rv h
  obtain ⟨l, xs, y, rfl, rfl, hH, hz, q⟩ := h
  cases rx
  obtain ⟨u, rfl, ru⟩ := rv.one
  obtain ⟨z, its, n, r, hl, e⟩ := I.lstM hH
  refine call_meets F.slot_list_append ⟨_, e, rfl⟩ F.entry_list_append (F.args_list_append_2 _ _) (PySem.list_append l its.toArray n u (by rw [List.size_toArray]; omega)) ⟨e, ?_⟩
  refine ⟨.non, _, I.lset (its' := its ++ [u]) hH e (by simp) (r.append (.cons ru .nil)) ?_, rfl, q⟩
  rw [List.length_append, List.length_singleton]
  omega






/-! ### list + list, list += list, list * int -/

/-! ### del xs[i] -/
end

/-! ### xs[a:b] = ys -/
section
variable {prog : Program} {w : World} {A : Around} {E : Value → Shared → Prop} {s : Shared}
set_option maxRecDepth 100000 in
end

section
variable {X : Cx}
end
end L2

namespace Att
open PySem PySem.W PySem.Calls PyProof.Rows

/-! ### the script -/
theorem ints_of_wellAll {P : Params} {h : Heap} : ∀ (ns : List Int) (vs : List Value), WellAll P h vs (ns.map WData.int) → IntsAre vs ns := by
  intro ns
  induction ns with
  | nil =>
    intro vs w
    rw [List.map_nil] at w
    cases w
    exact .nil
  | cons n ns ih =>
    intro vs w
    rw [List.map_cons] at w
    cases w with
    | cons a b =>
      cases a
      exact .cons _ _ (ih _ b)

theorem script_of {l : OpenLaw} {n : Nat} (hn : l.most = some n) {P : Params} {h : Heap} {args : List WData} {vals : List Value}
    (hpre : l.row.toRowW.claim.pre args = true) (hwl : WellAll P h vals args) :
    ∃ a vs ns, vals = [Value.ref a] ∧ args = [WData.list (ns.map WData.int)] ∧ h.get? a = some { cls := .type "list", data := .seq vs.toArray } ∧ IntsAre vs ns ∧ ns.length ≤ n := by
  have hsh : WShape.hasAll [] args [.list .int] = true := (pre_splitW hpre).1
  have hc : l.pre.holds [] { args := args } = true := (pre_splitW hpre).2
  obtain ⟨d, r, rfl, h1, h2⟩ := hasAllW_cons hsh
  obtain rfl := hasAllW_nil h2
  obtain ⟨xs, rfl, h3⟩ := hasW_list h1
  obtain ⟨ns, rfl⟩ := items_int h3
  have hlen : ns.length ≤ n := by
    unfold OpenLaw.pre at hc
    have h4 : (WTm.not (.lt (.lit (.int (n : Int))) (.len (.arg 0)))).holds [] { args := [.list (ns.map .int)] } = true := by
      have h4 := (holds_andW hc).1
      rw [hn] at h4
      exact h4
    have h5 := condW_of h4 (w_not (w_lt w_lit (w_len_list (w_arg rfl))))
    rw [List.length_map] at h5
    refine Nat.le_of_not_lt fun q => ?_
    have q' : (n : Int) < ((ns.length : Nat) : Int) := by omega
    first
      | (rw [decide_eq_true q'] at h5; exact absurd h5 (by decide))
      | (simp at h5; omega)
  cases hwl with
  | cons w1 w2 =>
    cases w2
    cases w1 with
    | list ho hall => exact ⟨_, _, ns, rfl, rfl, ho, ints_of_wellAll ns _ hall, hlen⟩

theorem post_true (l : OpenLaw) (args : List WData) : l.row.toRowW.claim.post args (.bool true) args = true :=
  postW_of (r := l.row.toRowW) (X := (true == true))
    (show WShape.has [] (.bool true) .bool = true by first | rfl | decide | simp [WShape.has, WShape.arms, WShape.armsAll])
    (show (WTm.eq .res (.lit (.bool true))).value [] { args := args, res := some (.bool true), after := args } = some (.bool (true == true)) from w_eq_bool (w_res rfl) w_lit) rfl

/-! ### the attachment: holds_open's last premise (the goal 'hc' behind k_head) from a wpAny of the law's body -/

/-- the same from a codeAny of the CALL (for a layer whose function contracts speak of calls) -/
theorem attach_call {l : OpenLaw} {n : Nat} {q : Program} {loose : List Str} {XP : (Str → Option Value) → Heap → Prop} {YP : World → Heap → Prop} {d : DefRec}
    (hn : l.most = some n) (hdf : d.params.defaults = [])
    (call : ∀ (w : World) (s₀ s₁ : Shared) (mg mb : Str → Option Value) (fa : Addr) (o : Obj) (pm cd doc : Value) (a : Addr) (vs : List Value) (ns : List Int),
      Ground q loose [] XP w s₀ mg mb s₁.heap → YP w s₁.heap →
      s₁.heap.get? fa = some o → o.data = .func (docDef d.name d.params d.body d.scope pm cd doc) → s₁.heap.CodeRec cd d.name → mg d.name = some (.ref fa) →
      s₁.heap.get? a = some { cls := .type "list", data := .seq vs.toArray } → IntsAre vs ns → ns.length ≤ n → s₁.gens = #[] →
      codeAny (model l.prog w) callerA (.call (.ref fa) ⟨[.ref a], []⟩) (fun r s' => r = .ok (.ret (.bool true)) ∧ OldK s₁.heap s'.heap ∧ s'.os = s₁.os ∧ AllBare s'.gens) s₁) :
    WalkO q loose XP YP l.row.toRowW d [] (fun f vs => PySem.call f vs) := by
  intro w s₀ s₁ mg mb G Y fa o pm cd doc dV kV ho hd hcd hD hmg hg args vals as hpre hlay hrd hwl hlo
  obtain rfl : dV = .none := Dflts.none hD hdf
  obtain rfl : kV = .none := Dflts.noKw hD
  obtain ⟨a, vs, ns, rfl, rfl, hobj, hints, hlen⟩ := script_of hn hpre hwl
  refine enter_call (codeAny_mono (call w s₀ s₁ mg mb fa o pm cd doc a vs ns G Y ho (fd_plain hd) hcd hmg hobj hints hlen hg) fun r s' hq => ?_)
  obtain ⟨rfl, h2, h3, h4⟩ := hq
  exact ⟨.inl ⟨.bool true, .bool true, [], rfl, fun _ => rfl, .bool true, post_true l _, fun _ => ⟨List.Pairwise.nil, fun _ hm => (nomatch hm)⟩⟩, h2, h3, h4⟩


/-! ### rules over ANY heap (no ledger) from facts about the written part K: the library's own take a ledger (News) for what they write -/
section
variable {prog : Program} {w : World} {A : Around} {E : Value → Shared → Prop} {s : Shared} {K : Frag}





/-! the whole heap as the ledger: makes every rule that writes through a ledger a rule over any heap -/

end
end Att

namespace L2
open PySem PySem.Spec PyProof.Rows

theorem vals_ints : ∀ {vs : List Value} {ns : List Int}, IntsAre vs ns → Vals (ns.map V.int) vs
  | _, _, .nil => .nil
  | _, _, .cons n t h => .cons ⟨t, rfl⟩ (vals_ints h)

/-- nothing is tracked but the script, known to the object (or it is an object of the module) -/
def Only (H : Hp) : Prop := ∀ b, H b = none ∨ ∃ o xs, H b = some (.frz o (.lst xs))

/-- THE HEAD: the law's promise, at the heap behind the top. F, the promise of the law's def, may use that base is part of the heap (so K.In base, base.Ns mainGlobals mg stand in Mod) -/
theorem law_call {P : Program} {w : World} {K : PySem.W.Frag} {mg mb : Str → Option Value} {CX : CXT} {k : Nat} {fa a : Addr} {fd : FuncData} {x : Str} {sp : Sp} {s₁ : Shared} {vs : List Value} {ns : List Int}
    (KX : K.In s₁.heap) (hns : s₁.heap.Ns mainGlobals mg) (hb : s₁.heap.Ns builtinsNs mb) (hbb : ∀ x : Str, x ≠ "__name__" → mb x = bootBuiltins x) (hlim : s₁.heap.NoLimit) (hg : s₁.gens = #[])
    (ha : s₁.heap.get? a = some { cls := .type "list", data := .seq vs.toArray }) (hi : IntsAre vs ns) (hl : ns.length ≤ sizeLine) (hr : Room k callerA)
    (F : ∀ base : Heap, K.In base → base.Ns mainGlobals mg → FnOk P w K mg base CX k fa fd [x] sp) (hbind : ∀ (s : Shared) (u : Value), BindsTo s fd ⟨[u], []⟩ [(x, u)])
    (hsp : ∀ H : Hp, Only H → SqL K H a (ns.map V.int) → sp [.ref a] H (fun v _ => v = .bl true) fun _ _ _ => False)
    (hCX : ∀ H e s', CX [] H s₁ (fun _ _ _ => False) e s' → False) :
    codeAny (model P w) callerA (.call (.ref fa) ⟨[.ref a], []⟩) (fun r s' => r = .ok (.ret (.bool true)) ∧ OldK s₁.heap s'.heap ∧ s'.os = s₁.os ∧ AllBare s'.gens) s₁ := by
  have rv := vals_ints hi
  have lenV := hi.length
  -- from an abstract heap in which nothing but the script may be tracked
  have core : ∀ H : Hp, Only H → SqL K H a (ns.map V.int) → HOk P w H s₁.heap → (∀ b, H b ≠ none → b = a) → (H a ≠ none → K.lookup a = none) →
      codeAny (model P w) callerA (.call (.ref fa) ⟨[.ref a], []⟩) (fun r s' => r = .ok (.ret (.bool true)) ∧ OldK s₁.heap s'.heap ∧ s'.os = s₁.os ∧ AllBare s'.gens) s₁ := by
    intro H hO hS hok hA hK
    have base_of : ∀ {b : Addr} {o : Obj}, s₁.heap.get? b = some o → H b = none → (hidT s₁.heap H).get? b = some o := fun e n => hidT_get e n
    have noA : ∀ {b : Addr} {o : Obj} {es : Array DictEntry} {ep : Nat}, s₁.heap.get? b = some o → o.data = .dict es ep → H b = none := fun {b o es ep} e d => by
      cases q : H b with
      | none => rfl
      | some u =>
        have e' : b = a := hA b (by rw [q]; simp)
        subst e'
        rw [ha] at e; cases e
        have d' : Data.seq vs.toArray _ = Data.dict es ep := d
        cases d'
    have nsK : ∀ {b : Addr} {m : Str → Option Value}, s₁.heap.Ns b m → (hidT s₁.heap H).Ns b m := fun {b m} ⟨o, es, ep, e, d, r⟩ => ⟨o, es, ep, base_of e (noA e d), d, r⟩
    have hKb : K.In (hidT s₁.heap H) := fun b o e => base_of (KX b o e) (by
      cases q : H b with
      | none => rfl
      | some u =>
        have e' : b = a := hA b (by rw [q]; simp)
        subst e'
        rw [hK (by rw [q]; simp)] at e; cases e)
    have hM : Mod K mg (hidT s₁.heap H) := ⟨hKb, nsK hns, ⟨mb, nsK hb, hbb⟩, let ⟨mc, h1, h2⟩ := hlim; ⟨mc, nsK h1, h2⟩⟩
    have e0 : Env0 P w K mg (hidT s₁.heap H) callerA [] s₁ H := ⟨rfl, hM, fun b o e => of_hidT e, Nat.le_of_eq (hidT_size _ _), trivial, fun b hb => absurd (show b ∈ ([] : List Addr) from hb) (by simp), hok, .of_eq hg⟩
    refine codeAny_mono ((F _ hKb (nsK hns)).run callerA [] s₁ H ⟨[.ref a], []⟩ [.ref a] [.ref a] _ _ hr e0 (hbind s₁ (.ref a)) (.cons rfl .nil) (hsp H hO hS)) fun r s' h => ?_
    cases r with
    | error e => exact (hCX H e s' h).elim
    | ok fl =>
      cases fl with
      | next => exact False.elim h
      | brk => exact False.elim h
      | cont => exact False.elim h
      | ret u =>
        obtain ⟨v, H', os, bare, un, hok', r', q⟩ := h
        have q' : v = .bl true := q
        subst q'
        obtain rfl : u = Value.bool true := r'
        refine ⟨rfl, OldK.of_keep fun b o e => ?_, os, bare⟩
        cases q : H b with
        | none => exact un.keep b o e q (by intro z; exact absurd (show b ∈ ([] : List Addr) from z) (by simp)) (by simp)
        | some u =>
          rcases hO b with z | ⟨ob, xs, z⟩
          · rw [q] at z; cases z
          · have z2 := un.frzs b ob _ z
            obtain ⟨e1, _⟩ := hok b _ z
            obtain ⟨e2, _⟩ := hok' b _ z2
            rw [e] at e1; cases e1
            exact e2
  cases hk : K.lookup a with
  | some o =>
    -- the script is one of the module's own objects
    have e := KX a o hk
    rw [ha] at e
    cases e
    refine core (fun _ => none) (fun _ => .inl rfl) (.inr ⟨_, vs.toArray, _, hk, rfl, rfl, rfl, by rw [List.size_toArray, lenV]; exact hl, by simpa using rv⟩) (fun b u z => by have z' : (none : Option HO) = some u := z; cases z') (fun b z => absurd rfl z) fun z => absurd rfl z
  | none =>
    refine core (fun b => if b = a then some (.frz { cls := .type "list", data := .seq vs.toArray } (.lst (ns.map V.int))) else none) (fun b => ?_) (.inl (.inr ⟨{ cls := .type "list", data := .seq vs.toArray }, if_pos rfl⟩)) (fun b u z => ?_) (fun b z => ?_) fun _ => hk
    · by_cases hb : b = a
      · exact .inr ⟨_, _, if_pos hb⟩
      · exact .inl (if_neg hb)
    · by_cases hb : b = a
      · have z' := (if_pos hb).symm.trans z
        cases z'
        subst hb
        exact ⟨ha, by rw [List.length_map]; exact hl, vs, _, rv, ha⟩
      · have z' := (if_neg hb).symm.trans z
        cases z'
    · by_cases hb : b = a
      · exact hb
      · exact absurd (if_neg hb) z
end L2

namespace L2
open PySem PySem.Spec PyProof.Rows


/-- the goal that k_head leaves (case hc), from the law's promise. F gives the function object fd (K's own) once, then the promise over every base -/
theorem walk_of {l : PySem.W.OpenLaw} {n k : Nat} {q : Program} {loose : List Str} {XP : (Str → Option Value) → Heap → Prop} {YP : World → Heap → Prop} {d : DefRec} {K : Params → PySem.W.Frag} {CX : World → CXT} {sp : World → Sp} {x : Str}
    (hn : l.most = some n) (hn2 : n ≤ sizeLine) (hdf : d.params.defaults = []) (hr : Room k callerA)
    (hY : ∀ (w : World) (h : Heap), YP w h → (K w.params).In h)
    (F : ∀ (w : World) (mg : Str → Option Value) (fa : Addr) (h : Heap), (K w.params).In h → h.Ns mainGlobals mg → mg d.name = some (.ref fa) →
      ∃ fd : FuncData, (∀ (s : Shared) (u : Value), BindsTo s fd ⟨[u], []⟩ [(x, u)]) ∧
        ∀ base : Heap, (K w.params).In base → base.Ns mainGlobals mg → FnOk l.prog w (K w.params) mg base (CX w) k fa fd [x] (sp w))
    (hsp : ∀ (w : World) (H : Hp) (a : Addr) (ns : List Int), ns.length ≤ n → Only H → SqL (K w.params) H a (ns.map V.int) → sp w [.ref a] H (fun v _ => v = .bl true) fun _ _ _ => False)
    (hCX : ∀ (w : World) (H : Hp) (s : Shared) (e : Value) (s' : Shared), CX w [] H s (fun _ _ _ => False) e s' → False) :
    PySem.W.WalkO q loose XP YP l.row.toRowW d [] (fun f vs => PySem.call f vs) := by
  refine Att.attach_call hn hdf fun w s₀ s₁ mg mb fa o pm cd doc a vs ns G Y ho hd hcd hmg hobj hints hlen hg => ?_
  have KX := hY w _ Y
  obtain ⟨fd, hb, hF⟩ := F w mg fa _ KX G.T.g hmg
  exact law_call KX G.T.g G.T.b G.T.builtins G.T.nolimit hg hobj hints (Nat.le_trans hlen hn2) hr hF hb (fun H hO hS => hsp w H a ns hlen hO hS) fun H e s' => hCX w H s₁ e s'
end L2

/- THE LAST THEOREM (shape; LID, My.* are yours):
   My.Adr: a structure of the addresses that your layer names (classes, functions); My.Txt K t: a structure (Prop) of the equations over K;
   My.txt_mk : {K} {implicit addresses ..} (e1 : nsIn K mainGlobals "law" = some (some (.ref f))) (e2 : K.lookup f = some ⟨oc, od, .func (fnOf "law" "law" params body scope dV kV doc pm an cdv ct), sl⟩) (e3 : codeIn K cdv "law" = true) .. : ∃ t, My.Txt K t

set_option maxRecDepth 100000 in
set_option maxHeartbeats 0 in
theorem PySem.Challenge.cw_LID_holds : PySem.Challenge.rw_LID.Holds := by
  w_on; o_law; k_head; (case hw => w_witness2)
  k_fill
  refine L2.walk_of (l := PySem.Challenge.rw_LID) (n := 63) (k := 40) (x := "script") (CX := fun w => ..) (sp := fun _ => My.sp_law) rfl (by decide) rfl ⟨rfl, by decide, by decide⟩ (fun w h Y => PySem.W.kIn_of Y) ?F ?S ?C
  case F =>
    intro w mg fa h KX G hmg
    have T : ∃ t, My.Txt (L2.KOf KX) t := by
      dsimp only [L2.KOf]                          -- K must stand as «<heap const> w.params» for k_is
      refine' My.txt_mk ?e1 ?e2 ?e3 ..
      (case e1 => PySem.W.k_is)                    -- in the order: a name -> its address -> its object -> its parts
      (case e2 => PySem.W.k_is)
      ..
    obtain ⟨t, T⟩ := T
    have e0 := hmg.symm.trans (PySem.W.mg_of KX G T.law)
    cases e0                                       -- fa is the law's own address
    exact ⟨_, fun s u => .of_eq rfl, fun base kb nb => My.law_fn T kb nb⟩     -- if «.of_eq rfl» comes too early: refine' ⟨_, ?b, fun base kb nb => My.law_fn T kb nb⟩; exact fun s u => .of_eq rfl
  case S => exact fun w H a ns hl hO hS => ..
  case C => exact ..
(the tactic k_is has no namespace: write k_is) -/

/-! SHORT WORDS over the layer: a def of the text, its body, what a loop and a test want. -/
namespace L2
open PySem PySem.Spec PyProof.Rows

/-! ### the text by places -/
def defArgs (s : Stmt) : Arguments := match s with
  | .FunctionDef _ a _ _ _ _ _ _ _ _ => a
  | _ => { posonlyargs := [], args := [], vararg := none, kwonlyargs := [], kw_defaults := [], kwarg := none, defaults := [] }
def defBody (s : Stmt) : List Stmt := match s with
  | .FunctionDef _ _ b _ _ _ _ _ _ _ => b
  | _ => []
def defScope (s : Stmt) : Scope := match s with
  | .FunctionDef _ _ _ _ _ _ sc _ _ _ => sc
  | _ => { kind := .function, names := [], isGenerator := false, isCoroutine := false }

/-! ### no exception leaves a def -/
abbrev CX0 : CXT := fun _ _ _ _ _ _ => False
abbrev E0 : XK := fun _ _ _ => False
theorem pass0 {X : Cx} : Passes CX0 X E0 := fun _ _ _ _ _ _ _ h => h.elim

/-! ### a def (or method) of the text as it stands behind the top -/
structure Fun (K : PySem.W.Frag) (x qual : Str) (st : Stmt) (f : Addr) (fd : FuncData) : Prop where
  ex : ∃ (oc : Value) (od : Option Addr) (kV doc pm : Value) (an : Option Addr) (cdv ct : Value) (osl : Array (Option Value)),
    fd = PySem.W.fnOf x qual (defArgs st) (defBody st) (defScope st) .none kV doc pm an cdv ct ∧ K.lookup f = some ⟨oc, od, .func fd, osl⟩ ∧ PySem.W.codeIn K cdv qual = true
  kp : PySem.W.keepIn K (.ref f) = true
section
variable {P : Program} {w : World} {K : PySem.W.Frag} {mg : Str → Option Value} {base : Heap}
/-- THE RULE for a def: its body as a term of rules, and the reading of that term -/
theorem Fun.ok {x qual : Str} {st : Stmt} {f : Addr} {fd : FuncData} {N ps : List Str} {k : Nat} {sp : Sp} (F : Fun K x qual st f fd) (S : FnScope N ps (defScope st)) (len : ∀ vs H Q E, sp vs H Q E → vs.length = ps.length)
    (hbody : ∀ (cdv : Value) (A : Around) (outer : List Env) (s : Shared) (H : Hp) (vs : List V) (Q : VK) (E : XK), Room k (A.deeper (envOfC qual (defScope st) s.heap.objs.size f cdv)) → sp vs H Q E →
      ∃ t, PSs (cxOf CX0 P w K mg base N qual (defScope st) f cdv A outer s H E).nox (defBody st) t ∧ t { nx := fun _ H' => Q .non H', rt := Q } (start N vs) H) : FnOk P w K mg base CX0 (k + 1) f fd ps sp := by
  obtain ⟨oc, od, kV, doc, pm, an, cdv, ct, osl, rfl, lk, hcd⟩ := F.ex
  refine fn_of lk hcd S len fun A outer s H vs Q E hr hsp => ?_
  obtain ⟨t, h, q⟩ := hbody cdv A outer s H vs Q E hr hsp
  exact ⟨t, h.nox, q⟩
/-- how its arguments bind (no defaults): h is «fun _ _ _ _ _ _ us hl => match us, hl with | [_, _], _ => rfl», one _ a parameter -/
theorem Fun.binds {x qual : Str} {st : Stmt} {f : Addr} {fd : FuncData} {ps : List Str} (F : Fun K x qual st f fd)
    (h : ∀ (kV doc pm : Value) (an : Option Addr) (cdv ct : Value) (us : List Value), us.length = ps.length → bindArgs (PySem.W.fnOf x qual (defArgs st) (defBody st) (defScope st) .none kV doc pm an cdv ct) ⟨us, []⟩ = pure (ps.zip us)) : Binds K fd ps [] := by
  obtain ⟨oc, od, kV, doc, pm, an, cdv, ct, osl, rfl, lk, hcd⟩ := F.ex
  exact .all (h kV doc pm an cdv ct)
theorem fun_mk {x qual : Str} {st : Stmt} {f : Addr} {oc : Value} {od an : Option Addr} {osl : Array (Option Value)} {kV doc pm cdv ct : Value} (l : K.lookup f = some ⟨oc, od, .func (PySem.W.fnOf x qual (defArgs st) (defBody st) (defScope st) .none kV doc pm an cdv ct), osl⟩)
    (c : PySem.W.codeIn K cdv qual = true) (k : PySem.W.keepIn K (.ref f) = true) : Fun K x qual st f (PySem.W.fnOf x qual (defArgs st) (defBody st) (defScope st) .none kV doc pm an cdv ct) := ⟨⟨oc, od, kV, doc, pm, an, cdv, ct, osl, rfl, l, c⟩, k⟩
end

/-! ### expressions in short: the name that stands in the i-th slot -/
section
variable {X : Cx}
theorem pv (i : Nat) {x : Str} {pos : Pos} (hN : X.N[i]? = some x := by rfl) (hv : Vis X.env.scope x := by first | exact Or.inl rfl | exact Or.inr (Or.inl rfl) | exact Or.inr (Or.inr rfl)) (hd : (x == ("__debug__" : Str)) = false := by decide)
    (hcd : (x == ("__classdict__" : Str)) = false := by decide) : PE X (.Name x pos) (tVar i) := pe_var hN hv hd hcd
end

/-! ### tests -/
theorem iteF {A B : Prop} (h : B) : if false = true then A else B := by
  rw [if_neg Bool.false_ne_true]
  exact h
theorem iteT {A B : Prop} (h : A) : if true = true then A else B := by
  rw [if_pos rfl]
  exact h

/-! ### heaps -/
/-- all that was tracked is as it was -/
def Same (H H' : Hp) : Prop := ∀ b o, H b = some o → H' b = some o
theorem Same.refl (H : Hp) : Same H H := fun _ _ h => h
theorem Same.trans {H H1 H2 : Hp} (a : Same H H1) (b : Same H1 H2) : Same H H2 := fun c o h => b c o (a c o h)
theorem Same.free {H H' : Hp} (e : Same H H') {l : Addr} (h : H' l = Option.none) : H l = Option.none := by
  cases q : H l with
  | none => rfl
  | some o =>
    rw [e l o q] at h
    cases h
theorem Same.seq {K : PySem.W.Frag} {H H' : Hp} {a : Addr} {xs : List V} (e : Same H H') (h : SqL K H a xs) : SqL K H' a xs := by
  rcases h with (h | ⟨o, h⟩) | h
  · exact .inl (.inl (e _ _ h))
  · exact .inl (.inr ⟨o, e _ _ h⟩)
  · exact .inr h

end L2

section
set_option maxHeartbeats 4000000
/-! EXCEPTIONS over the hand layer: own classes without __init__, raised by a def, passing defs, caught in a caller by a class's name. -/
namespace L2
open PySem PySem.Spec PyProof.Rows



section
variable {X : Cx} {pins : List (Addr × Obj)} {σ : St} {H H' : Hp} {s : Shared} {B h2 : Heap}
end

/-! ### a def whose exceptions leave it -/
section
variable {P : Program} {w : World} {K : PySem.W.Frag} {mg : Str → Option Value} {base : Heap} {N : List Str} {qual : Str} {scope : Scope} {f : Addr} {cd : Value} {A : Around} {outer : List Env} {s : Shared} {H : Hp} {E : XK}
end

/-! ### raise C(e) -/
section
variable {X : Cx} {E : XK} {x : Str} {C : Addr} {np cpos pos : Pos} {e : Expr} {es : List Expr} {t : TA}
end

/-! ### a caught exception -/
/-- its object: ea, of the own class C -/
def ExcO (ea C : Addr) : HO := .ext fun h => ∃ ox, h.get? ea = some ox ∧ ox.cls = .ref C
/-- what the walk asks of an own exception class -/
structure XcI (K : PySem.W.Frag) (C : Addr) : Prop where
  cl : (PySem.W.clsIn K C).isSome = true
  ga : PySem.W.findIn K (.ref C) "__getattribute__" = some (some (.builtin "BaseException.__getattribute__"))
  gt : PySem.W.findIn K (.ref C) "__getattr__" = some none
  ca : PySem.W.findIn K (.ref C) "__class__" = some (some (.builtin "object.__class__"))
  sp : PySem.W.specialIn K (.builtin "object.__class__") "__get__" = some (some (.builtin "getset_descriptor.__get__"))
  tk : PySem.W.takesIn K (.builtin "object.__class__") = some true
  mo : PySem.W.mroIn K C (.type "object") = some true
  mb : PySem.W.mroIn K C (.type "BaseException") = some true
section
open PySem.W Builtin Builtin.ObjectAttr Builtin.Getset_descriptor
variable {prog : Program} {w : World} {A : Around} {E : Value → Shared → Prop} {s : Shared} {K : PySem.W.Frag} {x C : Addr}
theorem xc_get {tp : Value} {R : Result → Shared → Prop} (X : K.In s.heap) (L0 : Looks (model prog w) s.heap (typeOf (.ref x)) (.ref C)) (F : XcI K C) (h : R (.ok (.ret (.ref C))) s) :
    codeAny (model prog w) A (.call (.builtin "getset_descriptor.__get__") ⟨[.builtin "object.__class__", .ref x, tp], []⟩) R s := by
  obtain ⟨hh, g, dr, t, os⟩ := s
  have L1 := looks_mroIn (M := model prog w) X F.mo
  refine codeAny_call_builtin KF.slot_gs.plain KF.entry_gs ?_
  refine KF.slot_gs.check _ _ _ _ _ _ _ _ KF.type_class (KF.args_gs _ _ _) ?_
  unfold Builtin.«getset_descriptor.__get__» descrGet
  rw [dga_obj]
  refine wpAny_bind (wpAny_pure ?_)
  unfold descrGetter descrCheckInstance descrNameAndClass isInstance
  simp only [KF.owner_class]
  repeat lk
  refine ⟨Code.quiet_builtin _ (by decide +kernel), ?_⟩
  refine codeAny_builtin KF.entry_class ?_
  unfold Builtin.«object.__class__» shownTypeOf
  repeat lk
  exact h
theorem xc_find (X : K.In s.heap) (F : XcI K C) : Looks (model prog w) s.heap (find (.ref x) (.ref C) "__class__") (.bind (.builtin "getset_descriptor.__get__") (.builtin "object.__class__")) := by
  have L1 := looks_findIn (M := model prog w) X F.ca
  have L2 : Looks (model prog w) s.heap (getOf (some (.builtin "object.__class__"))) (some (.builtin "getset_descriptor.__get__")) := looks_specialIn X F.sp
  have L3 := looks_takesIn (M := model prog w) X F.tk
  unfold find
  refine L1.andThen (L2.andThen ?_)
  refine Looks.andThen (a := some (.builtin "getset_descriptor.__get__", .builtin "object.__class__")) ?_ (Looks.tag .now)
  unfold dataDescriptor?
  exact L3.andThen .now
theorem slot_one {y z : Value} : slotArgs "__getattribute__" 1 ⟨[y, z], []⟩ = pure (y, [z]) := by
  simp [slotArgs]
theorem ga_two {y z g a tp : Value} {n : Str} {Q : Fin → Shared → Prop} (hz : attrName z = pure n) (e1 : Looks (model prog w) s.heap (typeOf y) tp) (e2 : Looks (model prog w) s.heap (find y tp n) (.bind g a)) (hb : wpAny (model prog w) A (bindTo g a y tp) Q E s) :
    wpAny (model prog w) A (Builtin.«object.__getattribute__» ⟨[y, z], []⟩) Q E s := by
  obtain ⟨hh, g', d, t, os⟩ := s
  unfold Builtin.«object.__getattribute__»
  rw [slot_one]
  refine wpAny_bind (wpAny_pure ?_)
  dsimp only
  rw [hz]
  refine wpAny_bind (wpAny_pure (wpAny_bind (e1.at (wpAny_bind (e2.at ?_)))))
  exact hb
theorem bind_ref {g a tp : Value} {Q : Fin → Shared → Prop} (h : wpAny (model prog w) A (call g [a, .ref x, tp]) (fun v s' => Q (.done (.ret v)) s') E s) : wpAny (model prog w) A (bindTo g a (.ref x) tp) Q E s := by
  show wpAny _ _ (holding [a] (call g [a, .ref x, tp]) >>= ret) _ _ _
  exact wpAny_bind (wpAny_holding (wpAny_mono h (fun v s' z => wpAny_pure z) fun _ _ z => z))
theorem ga_kind : builtinKind "BaseException.__getattribute__" = some .slot := by decide +kernel
theorem ga_split : splitId "BaseException.__getattribute__" = some ("BaseException", "__getattribute__") := by decide +kernel
theorem chk_ga {z : Value} {Q : Unit → Shared → Prop} (L4 : Looks (model prog w) s.heap (isInstance (.ref x) (.type "BaseException")) true) (q : Q () s) :
    wpAny (model prog w) A (checkBuiltinCall "BaseException.__getattribute__" ⟨[.ref x, z], []⟩) Q E s := by
  have ha := PySem.F.args_bexc_ga (.ref x) z
  have hk := ga_kind
  have hs := ga_split
  generalize "BaseException.__getattribute__" = i at ha hk hs ⊢
  exact check_slot hk hs L4 ha q
theorem xc_ga {n : Str} {tk : Tok} {R : Result → Shared → Prop} (X : K.In s.heap) (L0 : Looks (model prog w) s.heap (typeOf (.ref x)) (.ref C)) (F : XcI K C) (en : n = "__class__") (h : R (.ok (.ret (.ref C))) s) :
    codeAny (model prog w) A (.call (.builtin "BaseException.__getattribute__") ⟨[.ref x, .str n tk], []⟩) R s := by
  refine codeAny_call_builtin PySem.F.attr_ValueError.ga.plain PySem.F.entry_bexc_ga ?_
  refine chk_ga (L0.andThen (looks_mroIn X F.mb)) ?_
  refine ga_two (n := n) rfl L0 (en ▸ xc_find X F) ?_
  refine bind_ref (wpAny_call (xc_get X L0 F ?_))
  exact h
theorem xc_own {n : Str} {tk : Tok} {Q : Value → Shared → Prop} (X : K.In s.heap) (L0 : Looks (model prog w) s.heap (typeOf (.ref x)) (.ref C)) (F : XcI K C) (en : n = "__class__") (h : Q (.ref C) s) :
    wpAny (model prog w) A (getAttrBy (.ref x) (.str n tk) false) Q E s := by
  obtain ⟨hh, g, d, t, os⟩ := s
  have L1 := looks_findIn (M := model prog w) X F.ga
  have L2 := looks_findIn (M := model prog w) X F.gt
  unfold getAttrBy
  refine wpAny_holding ?_
  refine wpAny_bind (L0.at (wpAny_bind (L1.at ?_)))
  have e : (Value.builtin "BaseException.__getattribute__" == Value.builtin "object.__getattribute__") = false := by decide +kernel
  dsimp only
  rw [e, Bool.and_false, if_neg Bool.false_ne_true]
  unfold getAttrByItsOwn
  refine wpAny_bind (m := hookBefore _) (L2.at ?_)
  refine wpAny_bind (wpAny_attempt (wpAny_holding ?_))
  unfold callGetattribute
  rw [Bool.false_and, if_neg Bool.false_ne_true]
  unfold boundAndCalled
  rw [PySem.F.attr_ValueError.ga.bind (.ref x)]
  refine wpAny_bind (wpAny_pure ?_)
  refine wpAny_call (xc_ga X L0 F en ?_)
  exact wpAny_pure h
theorem xc_class {Q : Option Value → Shared → Prop} (X : K.In s.heap) (L0 : Looks (model prog w) s.heap (typeOf (.ref x)) (.ref C)) (F : XcI K C) (h : Q (some (.ref C)) { s with toks := s.toks + 1 }) :
    wpAny (model prog w) A (getAttr? (.ref x) "__class__") Q E s := by
  unfold getAttr? getAttrBy?
  refine wpAny_bind (wpAny_mkText (wpAny_bind (wpAny_attempt (xc_own (s := { s with toks := s.toks + 1 }) X L0 F rfl ?_))))
  exact wpAny_pure h
end
/-- isinstance's words about a caught exception -/
theorem kitx_exc {K : PySem.W.Frag} {ea C : Addr} (F : XcI K C) : PySem.W.KitX K (.ref ea) (.ref C) (fun h => ∃ ox, h.get? ea = some ox ∧ ox.cls = .ref C) where
  ty := fun M h _ ⟨ox, h1, h2⟩ => h2 ▸ (PySem.W.Looks.ld h1).andThen .now
  it := fun M h X _ => by
    have c := F.cl
    unfold PySem.W.clsIn at c
    split at c
    · rename_i c' d' cd' sl' ho
      intro A' Q' E' s' k q
      unfold isType loadHead
      exact wpAny_bind (wpAny_loadPart (k _ _ (X _ _ ho)) (wpAny_pure q))
    · cases c
  ne := fun h tp dd its n sl X htp => by
    refine Bool.eq_false_iff.mpr fun q => ?_
    have e : C = tp := Value.ref.inj (beq_iff_eq.mp q)
    subst e
    have c := F.cl
    unfold PySem.W.clsIn at c
    split at c
    · rename_i c' d' cd' sl' ho
      have z := (X _ _ ho).symm.trans htp
      cases z
    · cases c
  ca := fun {prog w A E Q s} X p k => xc_class X (by obtain ⟨ox, h1, h2⟩ := p; exact h2 ▸ (PySem.W.Looks.ld h1).andThen .now) F k

/-! ### isinstance -/
/-- the class of a value; of a caught exception its own -/
inductive Ty (K : PySem.W.Frag) (H : Hp) : V → Value → Prop where
  | of {x : V} {t : Value} (h : TyOf K H x t) : Ty K H x t
  | exc {ea C : Addr} (e : H ea = some (ExcO ea C)) (F : XcI K C) : Ty K H (.ref ea) (.ref C)
/-- a class as a value -/
inductive ClsV : V → Value → Prop where
  | ty (T : String) : ClsV (.ty T) (.type T)
  | own (C : Addr) : ClsV (.ref C) (.ref C)
theorem ClsV.rel {x : V} {c u : Value} (h : ClsV x c) (r : RelV x u) : u = c := by
  cases h <;> exact r
section
variable {X : Cx}
def rIsi (K : PySem.W.Frag) : List V → Hp → VK → Prop := fun xs H Q => ∃ x y t c b, xs = [x, y] ∧ Ty K H x t ∧ ClsV y c ∧ PySem.W.kitOne K t c = some b ∧ Q (.bl b) H
theorem call_isi : CallR X (.builtin "isinstance") (rIsi X.K) := by
  intro pins s σ H xs us Q I r h
  obtain ⟨x, y, t, c, b, rfl, ty, cl, e, q⟩ := h
  obtain ⟨u, v, rfl, ru, rv⟩ := vals2 r
  have ev := cl.rel rv
  subst ev
  cases ty with
  | of ty => exact isinst_ok I ru ty e fun tk => ⟨.bl b, H, I.tok tk, rfl, q⟩
  | @exc ea C eh F =>
    cases (show u = Value.ref ea from ru)
    obtain ⟨⟨ox, h1, h2⟩, _⟩ := I.hok ea _ eh
    exact PySem.W.kia_one (kitx_exc F) I.kIn ⟨ox, h1, h2⟩ e (fun z => nomatch z) fun tk => ⟨.bl b, H, I.tok tk, rfl, q⟩
end

/-! ### try -/
section
variable {X : Cx} {pins : List (Addr × Obj)} {σ : St} {H H' : Hp} {s : Shared}
end
section
variable {X : Cx} {E : XK} {x n : Str} {i : Nat} {Cx0 : Addr} {np hpos pos : Pos} {body : List Stmt} {b₀ : Stmt} {suite : List Stmt} {tb ts : TS}
end
end L2

end

section
set_option maxHeartbeats 4000000
/-! MORE RULES over the hand layer: products and quotients of great numbers, script + [..], {}, what built-in names stand for, isinstance against int and bool. -/
namespace L2
open PySem PySem.Spec PyProof.Rows
theorem bt_int : bootBuiltins "int" = some (.type "int") := by decide +kernel
theorem bt_bool : bootBuiltins "bool" = some (.type "bool") := by decide +kernel
theorem bt_tuple : bootBuiltins "tuple" = some (.type "tuple") := by decide +kernel
theorem bt_list : bootBuiltins "list" = some (.type "list") := by decide +kernel
theorem bt_isinstance : bootBuiltins "isinstance" = some (.builtin "isinstance") := by decide +kernel
theorem bt_len : bootBuiltins "len" = some (.builtin "len") := by decide +kernel
theorem bt_abs : bootBuiltins "abs" = some (.builtin "abs") := by decide +kernel
theorem bt_max : bootBuiltins "max" = some (.builtin "max") := by decide +kernel

theorem iteN {b : Bool} {A B : Prop} (h : b = false) (q : B) : if b = true then A else B := by
  subst h
  exact iteF q
theorem iteY {b : Bool} {A B : Prop} (h : b = true) (q : A) : if b = true then A else B := by
  subst h
  exact iteT q
section
variable {X : Cx}
/-- an argument that is no star -/
def notStar : Expr → Prop
  | .Starred .. => False
  | _ => True
theorem star_of {e : Expr} {es : List Expr} {env : Env} (h : notStar e) : starEach (e :: es) env = (false, eval e env) :: starEach es env := by
  cases e <;> first | rfl | exact h.elim
theorem pk {e : Expr} {es : List Expr} {te : TE} {t : TA} (ha : PE X e te) (hr : PA X es t) (h : notStar e := by exact True.intro) : PA X (e :: es) (tCons te t) := pa_cons ha hr (star_of h)
/-- a built-in class, an own class, as a value -/
theorem pe_bt {x : Str} {T : String} {pos : Pos} (hg : Gl X x) (hm : X.mg x = none) (hv : bootBuiltins x = some (.type T)) (hn : x ≠ "__name__" := by decide) (hd : (x == ("__debug__" : Str)) = false := by decide) : PE X (.Name x pos) (tC (.ty T)) := pe_bltn hg hm hv rfl hn hd
theorem pe_gr {x : Str} {C : Addr} {pos : Pos} (hg : Gl X x) (hm : X.mg x = some (.ref C)) (hd : (x == ("__debug__" : Str)) = false := by decide) : PE X (.Name x pos) (tC (.ref C)) := pe_glob hg hm rfl hd
/-- ps_set, its facts asked last -/
theorem ps_st {pos : Pos} {i : Nat} {x : Str} {e : Expr} {te : TE} {pos' : Pos} (he : PE X e te) (hN : X.N.Nodup := by assumption) (hi : X.N[i]? = some x := by rfl) (hx : Loc X.env.scope x := by first | exact Or.inl rfl | exact Or.inr rfl) (hs : swapsWith e (some (.Name x pos')) pos.line X.env = pure false := by rfl)
    (hf : X.fn x = true ∨ X.env.scope.names.lookup x = some .local := by first | exact .inl rfl | exact .inr rfl | assumption) : PS X (.Assign [.Name x pos'] e pos) (tAsg te (gName i)) := ps_set hN hi hx he hs hf
theorem pg_nm {pos : Pos} (i : Nat) {x : Str} (hN : X.N.Nodup := by assumption) (hi : X.N[i]? = some x := by rfl) (hx : Loc X.env.scope x := by first | exact Or.inl rfl | exact Or.inr rfl) (hf : X.fn x = true ∨ X.env.scope.names.lookup x = some .local := by first | exact .inl rfl | exact .inr rfl | assumption) : PG X (.Name x pos) (gName i) := pg_name hN hi hx hf
theorem ps_pr {pos : Pos} {i j : Nat} {x y : Str} {a b : Expr} {ta : TA} {px py pt : Pos} {kt k2 pt2} (ha : PA X [a, b] ta) (hc : X.calm = true := by rfl) (hN : X.N.Nodup := by assumption) (hi : X.N[i]? = some x := by rfl) (hj : X.N[j]? = some y := by rfl) (hij : i ≠ j := by decide)
    (hx : X.env.scope.names.lookup x = some .local := by rfl) (hy : X.env.scope.names.lookup y = some .local := by rfl)
    (hw : swappedStores [.Tuple [.Name x px, .Name y py] kt pt] (.Tuple [a, b] k2 pt2) X.env = pure (some [x, y]) := by rfl)
    (hs : swapsWithSole [.Tuple [.Name x px, .Name y py] kt pt] (.Tuple [a, b] k2 pt2) pos.line X.env = pure false := by rfl) :
    PS X (.Assign [.Tuple [.Name x px, .Name y py] kt pt] (.Tuple [a, b] k2 pt2) pos) (tPar i j ta) := ps_par hc hN hi hj hij hx hy ha hw hs
theorem call_isiK {K : PySem.W.Frag} (h : X.K = K) : CallR X (.builtin "isinstance") (rIsi K) := h ▸ call_isi
/-- a number that is not too great -/
abbrev Sm (i : Int) : Prop := i.natAbs < 2 ^ 4000
def CMulX (i j : Int) : Prop := CMul i j ∨ (Sm i ∧ Sm j)
theorem op_mulX : OpR X (binaryOp .Mult) (rI CMulX fun i j => .int (i * j)) := opI fun i j _ _ _ _ _ hc q => by
  refine mul_int q ?_
  rcases hc with h | ⟨h1, h2⟩
  · exact h.ok
  · exact IntMulOk.of_le (intBits_le_iff.mpr h1) (intBits_le_iff.mpr h2) (by decide)
def CDivB (i j : Int) : Prop := j ≠ 0 ∧ Sm j
theorem op_fdivB : OpR X (binaryOp .FloorDiv) (rI CDivB fun i j => .int (i.fdiv j)) := opI fun i j _ _ _ _ _ hc q => by
  refine floordiv_int hc.1 q (Or.inl (PyProof.noPylong_of_log2 ?_))
  have h : j.natAbs ≠ 0 := by have := hc.1; omega
  have := (Nat.log2_lt h).mpr hc.2
  omega
/-- xs + ys, both only read -/
def rCatS (K : PySem.W.Frag) : R2 := fun x y H Q => ∃ l b xs zs, x = .ref l ∧ y = .ref b ∧ SqL K H l xs ∧ SqL K H b zs ∧ xs.length + zs.length ≤ sizeLine ∧ ∀ p, H p = none → Q (.ref p) (upd H p (.lst (xs ++ zs)))
theorem op_catS : OpR X (binaryOp .Add) (rCatS X.K) := by
  intro pins s σ H x y v u Q I rx ry h
  obtain ⟨l, b, xs, zs, rfl, rfl, hl, hb, hz, q⟩ := h
  cases rx
  cases ry
  obtain ⟨its, r, ⟨⟨k1, k2, k3, k4⟩, n, e, c1, c2, c3⟩, z⟩ := I.list hl
  obtain ⟨its2, r2, ⟨⟨j1, j2, j3, j4⟩, n2, e2, d1, d2, d3⟩, z2⟩ := I.list hb
  have h1 := r.length
  have h2 := r2.length
  dsimp only at c1 c3 d1 d3
  subst c1 c3 d1 d3
  have lw := list_addW l b its.toArray its2.toArray n n2 k2 j2 k4 j4 (by simp only [List.size_toArray]; omega)
  refine concat_meets ⟨_, e, rfl⟩ ⟨_, e2, rfl⟩ noFill_list_add seq_list_add
    PySem.F.slot_list_add PySem.F.entry_list_add (PySem.F.args_list_add_2 _ _) lw ⟨e, e2, ?_⟩
  have ea : its.toArray ++ its2.toArray = (its ++ its2).toArray := by simp
  rw [ea]
  exact ⟨.ref _, _, I.lnew (t' := s.toks) (r.append r2) (by rw [List.length_append]; omega), rfl, q _ I.fresh⟩
end

/-! ### isinstance against built-in classes -/
def kitT (T C : String) : Option Bool := if (Value.type T == Value.type C) = true then some true else if PySem.W.kitMeta C = true then (fastBuiltinMro T).map (·.contains (.type C)) else none
theorem kit_t {K : PySem.W.Frag} {T C : String} {b : Bool} (h : kitT T C = some b) : PySem.W.kitOne K (.type T) (.type C) = some b := h
/-- a whole number (no truth) -/
def isInt : V → Bool
  | .int _ => true
  | _ => false
theorem ty_whole {K : PySem.W.Frag} {H : Hp} {x : V} {T : String} (h : TyOf K H x (.type T)) : ∃ b1 b2, PySem.W.kitOne K (.type T) (.type "int") = some b1 ∧ PySem.W.kitOne K (.type T) (.type "bool") = some b2 ∧ isInt x = (b1 && !b2) := by
  cases h with
  | non => exact ⟨false, false, kit_t (by decide +kernel), kit_t (by decide +kernel), rfl⟩
  | bl _ => exact ⟨true, true, kit_t (by decide +kernel), kit_t (by decide +kernel), rfl⟩
  | int _ => exact ⟨true, false, kit_t (by decide +kernel), kit_t (by decide +kernel), rfl⟩
  | str _ => exact ⟨false, false, kit_t (by decide +kernel), kit_t (by decide +kernel), rfl⟩
  | flt _ => exact ⟨false, false, kit_t (by decide +kernel), kit_t (by decide +kernel), rfl⟩
  | lst _ => exact ⟨false, false, kit_t (by decide +kernel), kit_t (by decide +kernel), rfl⟩
  | frz _ => exact ⟨false, false, kit_t (by decide +kernel), kit_t (by decide +kernel), rfl⟩
  | tup _ => exact ⟨false, false, kit_t (by decide +kernel), kit_t (by decide +kernel), rfl⟩
  | dK _ => exact ⟨false, false, kit_t (by decide +kernel), kit_t (by decide +kernel), rfl⟩
  | dT _ => exact ⟨false, false, kit_t (by decide +kernel), kit_t (by decide +kernel), rfl⟩
end L2

end

namespace Fr
/-- lowest terms of t by b: x by y -/
structure Low (t b x y : Int) : Prop where
  pos : 0 < y
  cop : Int.gcd x y = 1
  eq : x * b = t * y
theorem gcd_step {a b : Int} (ha : 0 ≤ a) (hb : 0 ≤ b) : Int.gcd b (a.fmod b) = Int.gcd a b := by
  obtain ⟨m, rfl⟩ := Int.eq_ofNat_of_zero_le ha
  obtain ⟨n, rfl⟩ := Int.eq_ofNat_of_zero_le hb
  rw [Int.fmod_eq_emod_of_nonneg _ hb]
  show Nat.gcd n (m % n) = Nat.gcd m n
  rw [Nat.gcd_comm m n, Nat.gcd_rec n m, Nat.gcd_comm]
theorem gcd_end {a : Int} (ha : 0 ≤ a) : (Int.gcd a 0 : Int) = a := by
  rw [Int.gcd_zero_right]; omega
theorem gcd_abs (a b : Int) : Int.gcd (if a < 0 then -a else a) (if b < 0 then -b else b) = Int.gcd a b := by
  split <;> split <;> simp
theorem gcd_pos {a b : Int} (h : b ≠ 0) : 0 < Int.gcd a b := Int.gcd_pos_of_ne_zero_right a h
/-- the quotients by the greatest common divisor -/
theorem quot {a b : Int} (h : b ≠ 0) : ∃ x y : Int, a = x * (Int.gcd a b : Int) ∧ b = y * (Int.gcd a b : Int) ∧ Int.gcd x y = 1 := by
  have gp := gcd_pos (a := a) h
  obtain ⟨x, hx⟩ := Int.gcd_dvd_left a b
  obtain ⟨y, hy⟩ := Int.gcd_dvd_right a b
  refine ⟨x, y, by rw [Int.mul_comm]; exact hx, by rw [Int.mul_comm]; exact hy, ?_⟩
  have e : Int.gcd a b = Int.gcd a b * Int.gcd x y := by
    have := Int.gcd_mul_left (Int.gcd a b : Int) x y
    rw [← hx, ← hy] at this
    simpa using this
  have : Int.gcd a b * 1 = Int.gcd a b * Int.gcd x y := by rw [Nat.mul_one]; exact e
  exact (Nat.eq_of_mul_eq_mul_left gp this).symm
theorem fdiv_mul {x d : Int} (h : d ≠ 0) : (x * d).fdiv d = x := by
  rw [Int.mul_comm]; exact Int.mul_fdiv_cancel_left x h
theorem low {t b : Int} (h : b ≠ 0) (d : Int) (hd : d = if b < 0 then -(Int.gcd t b : Int) else (Int.gcd t b : Int)) :
    d ≠ 0 ∧ Low t b (t.fdiv d) (b.fdiv d) := by
  obtain ⟨x, y, hx, hy, c⟩ := quot (a := t) h
  have gp : (0 : Int) < (Int.gcd t b : Int) := by have := gcd_pos (a := t) h; omega
  generalize (Int.gcd t b : Int) = g at *
  by_cases n : b < 0
  · rw [if_pos n] at hd
    subst hd
    have e1 : t.fdiv (-g) = -x := by
      have : t = (-x) * (-g) := by rw [Int.neg_mul_neg]; exact hx
      rw [this]; exact fdiv_mul (by omega)
    have e2 : b.fdiv (-g) = -y := by
      have : b = (-y) * (-g) := by rw [Int.neg_mul_neg]; exact hy
      rw [this]; exact fdiv_mul (by omega)
    refine ⟨by omega, ?_⟩
    rw [e1, e2]
    refine ⟨?_, by simpa using c, ?_⟩
    · have : y < 0 := by
        rcases Int.lt_trichotomy y 0 with q | q | q
        · exact q
        · rw [q] at hy; omega
        · have := Int.mul_pos q gp; omega
      omega
    · rw [hx, hy, Int.mul_assoc, Int.mul_neg, Int.mul_comm g y, Int.mul_neg, Int.neg_mul]
  · rw [if_neg n] at hd
    rw [hd]
    have e1 : t.fdiv g = x := by rw [hx]; exact fdiv_mul (by omega)
    have e2 : b.fdiv g = y := by rw [hy]; exact fdiv_mul (by omega)
    refine ⟨by omega, ?_⟩
    rw [e1, e2]
    refine ⟨?_, c, ?_⟩
    · rcases Int.lt_trichotomy y 0 with q | q | q
      · have := Int.mul_neg_of_neg_of_pos q gp; omega
      · rw [q] at hy; omega
      · exact q
    · rw [hx, hy, Int.mul_assoc, Int.mul_comm g y]
/-- bounds of the quotients -/
theorem fdiv_le {t d : Int} {M : Int} (hd : d ≠ 0) (h : -M ≤ t ∧ t ≤ M) (dv : d ∣ t) : -M ≤ t.fdiv d ∧ t.fdiv d ≤ M := by
  obtain ⟨k, rfl⟩ := dv
  rw [Int.mul_fdiv_cancel_left k hd]
  have h1 : k.natAbs ≤ (d * k).natAbs := by
    rw [Int.natAbs_mul]
    exact Nat.le_mul_of_pos_left _ (by omega)
  omega
end Fr

section
set_option maxHeartbeats 1000000
/-! STEPS of readings, one rule for each head; the calls of own defs by one fact; equality of data. -/
namespace L2
open PySem PySem.Spec PyProof.Rows
section
variable {σ : St} {H : Hp} {D : Ends} {t u : TS} {te ta tb tc : TE} {Q : VK} {c d : TT} {ts : TA}
theorem s_seq {n : St → Hp → Prop} {r : VK} {b k : St → Hp → Prop} (h : t (Ends.mk (u (Ends.mk n r b k)) r b k) σ H) : tSeq t u (Ends.mk n r b k) σ H := h
theorem s_asg {i : Nat} (h : te σ H fun x H1 => D.nx (σ.set i (some x)) H1) : tAsg te (gName i) D σ H := h
theorem s_drop (h : te σ H fun _ H1 => D.nx σ H1) : tDrop te D σ H := h
theorem s_ret (h : te σ H D.rt) : tRet te D σ H := h
theorem s_if (h : c σ H fun b H1 => if b = true then t D σ H1 else u D σ H1) : tIfS c t u D σ H := h
theorem s_next (h : D.nx σ H) : tNext D σ H := h
theorem s_par {i j : Nat} (h : ts σ H fun vs H1 => ∃ v w, vs = [v, w] ∧ D.nx ((σ.set i (some v)).set j (some w)) H1) : tPar i j ts D σ H := h
theorem s_gn {i : Nat} {v : V} {σ' : St} {P : St → Hp → Prop} (e : σ.set i (some v) = σ') (h : P σ' H) : gName i v σ H P := by
  subst e
  exact h
theorem s_var {i : Nat} {v : V} (h : σ[i]? = some (some v)) (q : Q v H) : tVar i σ H Q := ⟨v, h, q⟩
theorem s_c {v : V} (q : Q v H) : tC v σ H Q := q
theorem s_op {r : R2} (h : ta σ H fun x H1 => tb σ H1 fun y H2 => r x y H2 Q) : tOp r ta tb σ H Q := h
theorem s_un {r : V → Hp → VK → Prop} (h : ta σ H fun x H1 => r x H1 Q) : tUn r ta σ H Q := h
theorem s_cons {P : List V → Hp → Prop} (h : ta σ H fun x H1 => ts σ H1 fun xs H2 => P (x :: xs) H2) : tCons ta ts σ H P := h
theorem s_nil {P : List V → Hp → Prop} (h : P [] H) : tNil σ H P := h
/-- a new object is laid -/
def Al (o : HO) (n : Nat) (H : Hp) (Q : VK) : Prop := n ≤ sizeLine ∧ ∀ p, H p = none → Q (.ref p) (upd H p o)
theorem s_al {o : HO} {n : Nat} (hn : n ≤ sizeLine) (h : ∀ p H', Same H H' → H' p = some o → Q (.ref p) H') : Al o n H Q := ⟨hn, fun p hp => h p _ (fun b u e => by rw [upd_ne (ne_of_none e hp)]; exact e) upd_same⟩
theorem s_alN {o : HO} {n : Nat} (hn : n ≤ sizeLine) (h : ∀ p H', H p = none → Same H H' → H' p = some o → Q (.ref p) H') : Al o n H Q := ⟨hn, fun p hp => h p _ hp (fun b u e => by rw [upd_ne (ne_of_none e hp)]; exact e) upd_same⟩
theorem s_tup (h : ts σ H fun xs H1 => Al (.tup xs) xs.length H1 Q) : tTup ts σ H Q := h
theorem s_lst (h : ts σ H fun xs H1 => Al (.lst xs) xs.length H1 Q) : tLst ts σ H Q := h
theorem s_call {sp : Sp} {E : XK} (h : ts σ H fun vs H1 => sp vs H1 Q E) : tCall sp [] E ts σ H Q := by
  unfold tCall
  simpa only [List.append_nil] using h
theorem s_cb {r : List V → Hp → VK → Prop} (h : ts σ H fun vs H1 => r vs H1 Q) : tCB r ts σ H Q := h
theorem s_test {P : Bool → Hp → Prop} (h : te σ H fun x H' => ∃ k, x = .bl k ∧ P k H') : tTest te σ H P := h
theorem s_b {P : Bool → Hp → Prop} (h : te σ H fun x H' => ∃ k, x = .bl k ∧ P k H') : tB te σ H P := h
theorem s_and {P : Bool → Hp → Prop} (h : c σ H fun k H1 => if k = true then d σ H1 P else P false H1) : tAnd c d σ H P := h
theorem s_or {P : Bool → Hp → Prop} (h : c σ H fun k H1 => if k = true then P true H1 else d σ H1 P) : tOr c d σ H P := h
theorem s_not {P : Bool → Hp → Prop} (h : c σ H fun k H1 => P (!k) H1) : tNot c σ H P := h
theorem s_andV (h : ta σ H fun x H1 => ∃ c, x = .bl c ∧ if c = true then tb σ H1 Q else Q (.bl false) H1) : tAndV ta tb σ H Q := h
theorem s_notV (h : ta σ H fun x H1 => ∃ c, x = .bl c ∧ Q (.bl (!c)) H1) : tNotV ta σ H Q := h
theorem s_chain {r r' : R2} (h : ta σ H fun x H1 => tb σ H1 fun y H2 => r x y H2 fun z H3 => ∃ k, z = .bl k ∧ (if k = true then tc σ H3 fun w' H4 => r' y w' H4 Q else Q (.bl false) H3)) : tChain r r' ta tb tc σ H Q := h
theorem s_bl {P : Bool → Prop} {k : Bool} (h : P k) : ∃ k', V.bl k = .bl k' ∧ P k' := ⟨k, rfl, h⟩
theorem s_rI {C : Int → Int → Prop} {g : Int → Int → V} {i j : Int} (hc : C i j) (q : Q (g i j) H) : rI C g (.int i) (.int j) H Q := ⟨i, j, rfl, rfl, hc, q⟩
theorem s_rI0 {g : Int → Int → V} {i j : Int} (q : Q (g i j) H) : rI0 g (.int i) (.int j) H Q := ⟨i, j, rfl, rfl, q⟩
theorem s_rU {g : Int → V} {i : Int} (q : Q (g i) H) : rU g (.int i) H Q := ⟨i, rfl, q⟩
theorem s_eqI {i j : Int} (q : Q (.bl (decide (i = j))) H) : rEq (.int i) (.int j) H Q := ⟨rfl, by
  have e : decide (V.int i = V.int j) = decide (i = j) := by rw [Bool.eq_iff_iff]; simp
  rw [e]; exact q⟩
theorem s_neI {i j : Int} (q : Q (.bl (!decide (i = j))) H) : rNe (.int i) (.int j) H Q := ⟨rfl, by
  have e : decide (V.int i = V.int j) = decide (i = j) := by rw [Bool.eq_iff_iff]; simp
  rw [e]; exact q⟩
theorem s_eqB {i j : Bool} (q : Q (.bl (decide (i = j))) H) : rEq (.bl i) (.bl j) H Q := ⟨rfl, by
  have e : decide (V.bl i = V.bl j) = decide (i = j) := by rw [Bool.eq_iff_iff]; simp
  rw [e]; exact q⟩
theorem s_ixT {K : PySem.W.Frag} {p : Addr} {xs : List V} {i : Int} {v : V} (h : SqT K H p xs) (e : atI xs i = some v) (q : Q v H) : rIxT K (.ref p) (.int i) H Q := ⟨p, xs, i, v, rfl, rfl, h, e, q⟩
theorem s_ixL {K : PySem.W.Frag} {p : Addr} {xs : List V} {i : Int} {v : V} (h : SqL K H p xs) (e : atI xs i = some v) (q : Q v H) : rIxL K (.ref p) (.int i) H Q := ⟨p, xs, i, v, rfl, rfl, h, e, q⟩
theorem s_nx {n : St → Hp → Prop} {r : VK} {b k : St → Hp → Prop} (h : n σ H) : (Ends.mk n r b k).nx σ H := h
theorem s_rt {n : St → Hp → Prop} {r : VK} {b k : St → Hp → Prop} {v : V} (h : r v H) : (Ends.mk n r b k).rt v H := h
theorem s_set {i : Nat} {v : Option V} {σ' : St} (e : σ.set i v = σ') (h : D.nx σ' H) : D.nx (σ.set i v) H := e ▸ h
theorem s_set2 {i j : Nat} {v w : Option V} {σ' : St} (e : (σ.set i v).set j w = σ') (h : D.nx σ' H) : D.nx ((σ.set i v).set j w) H := e ▸ h
end
theorem iteNt {A B : Prop} (h : B) : if (!true) = true then A else B := iteF h
theorem ln0 : ([] : List V).length ≤ sizeLine := by show 0 ≤ sizeLine; decide
theorem ln1 {a : V} : [a].length ≤ sizeLine := by show 1 ≤ sizeLine; decide
theorem ln2 {a b : V} : [a, b].length ≤ sizeLine := by show 2 ≤ sizeLine; decide
theorem ln3 {a b c : V} : [a, b, c].length ≤ sizeLine := by show 3 ≤ sizeLine; decide
theorem ln5 {a b c d e : V} : [a, b, c, d, e].length ≤ sizeLine := by show 5 ≤ sizeLine; decide
theorem Same.new {H : Hp} {p : Addr} {o : HO} (h : H p = none) : Same H (upd H p o) := fun b u e => by
  rw [upd_ne (ne_of_none e h)]
  exact e
theorem Same.tup {K : PySem.W.Frag} {H H' : Hp} {a : Addr} {xs : List V} (e : Same H H') (h : SqT K H a xs) : SqT K H' a xs := by
  rcases h with (h | ⟨o, h⟩) | h
  · exact .inl (.inl (e _ _ h))
  · exact .inl (.inr ⟨o, e _ _ h⟩)
  · exact .inr h
/-! ### own defs, called -/
/-- the def x is there, and keeps its promise -/
def Cal (P : Program) (w : World) (K : PySem.W.Frag) (mg : Str → Option Value) (base : Heap) (CX : CXT) (k : Nat) (x : Str) (sp : Sp) : Prop :=
  ∃ f fd ps, FnOk P w K mg base CX k f fd ps sp ∧ mg x = some (.ref f) ∧ PySem.W.keepIn K (.ref f) = true ∧ Binds K fd ps []
section
variable {X : Cx} {x : Str} {p pos : Pos} {e : Expr} {es : List Expr} {t : TA} {sp : Sp} {CX : CXT} {k : Nat} {E : XK}
theorem pe_cal (c : Cal X.prog X.w X.K X.mg X.base CX k x sp) (hr : Room k X.A) (hx : Passes CX X E) (ha : PA X (e :: es) t) (hg : Gl X x := by rfl) (hdb : (x == ("__debug__" : Str)) = false := by decide)
    (he : starEach (e :: es) X.env = (false, eval e X.env) :: starEach es X.env := by rfl) (hpl : (backTo pos (starEach es X.env)).any (·.1) = false := by rfl) : PE X (.Call (.Name x p) (e :: es) [] pos) (tCall sp [] E t) := by
  obtain ⟨f, fd, ps, G, hm, hk, hb⟩ := c
  exact pe_call G hr hg hm hk hb .nil hx ha hdb he hpl
end
end L2

end

section
set_option maxHeartbeats 1000000
namespace Fr
open PySem L2
/-- of at most n bits -/
abbrev Sz (n : Nat) (i : Int) : Prop := i.natAbs < 2 ^ n
theorem Sz.mono {n m : Nat} {i : Int} (h : Sz n i) (l : n ≤ m) : Sz m i := Nat.lt_of_lt_of_le h (Nat.pow_le_pow_right (by decide) l)
theorem Sz.sm {n : Nat} {i : Int} (h : Sz n i) (l : n ≤ 4000 := by decide) : Sm i := h.mono l
theorem Sz.mul {n m : Nat} {i j : Int} (h : Sz n i) (k : Sz m j) : Sz (n + m) (i * j) := by
  show (i * j).natAbs < 2 ^ (n + m)
  rw [Int.natAbs_mul, Nat.pow_add]
  exact Nat.mul_lt_mul'' h k
theorem Sz.le {n : Nat} {i j : Int} (h : Sz n i) (l : j.natAbs ≤ i.natAbs) : Sz n j := Nat.lt_of_le_of_lt l h
theorem Sz.of {n : Nat} {i : Int} (a : -((2 ^ n : Nat) : Int) < i) (b : i < ((2 ^ n : Nat) : Int)) : Sz n i := by
  show i.natAbs < 2 ^ n
  omega
/-- both quotients by the divisor with b's sign -/
theorem low2 {t b d : Int} (h : b ≠ 0) (hd : d = if b < 0 then -(Int.gcd t b : Int) else (Int.gcd t b : Int)) :
    d ≠ 0 ∧ d.natAbs ≤ b.natAbs ∧ Low t b (t.fdiv d) (b.fdiv d) ∧ (t.fdiv d).natAbs ≤ t.natAbs ∧ (b.fdiv d).natAbs ≤ b.natAbs := by
  obtain ⟨d0, L⟩ := low h d hd
  have dt : d ∣ t := by
    rw [hd]
    split
    · exact Int.neg_dvd.mpr (Int.gcd_dvd_left t b)
    · exact Int.gcd_dvd_left t b
  have db : d ∣ b := by
    rw [hd]
    split
    · exact Int.neg_dvd.mpr (Int.gcd_dvd_right t b)
    · exact Int.gcd_dvd_right t b
  have t1 := fdiv_le (M := t.natAbs) d0 ⟨by omega, by omega⟩ dt
  have b1 := fdiv_le (M := b.natAbs) d0 ⟨by omega, by omega⟩ db
  exact ⟨d0, Nat.le_of_dvd (by omega) (Int.natAbs_dvd_natAbs.mpr db), L, by omega, by omega⟩
/-- two lowest terms of one number are one -/
theorem Low.bottom {t b x y : Int} (L : Low t b x y) (hb : 0 < b) : y ∣ b := by
  have h : y ∣ x * b := ⟨t, by rw [L.eq, Int.mul_comm]⟩
  have c : Int.gcd y x = 1 := by rw [Int.gcd_comm]; exact L.cop
  have h' : y.natAbs ∣ x.natAbs * b.natAbs := by rw [← Int.natAbs_mul]; exact Int.natAbs_dvd_natAbs.mpr h
  exact Int.natAbs_dvd_natAbs.mp (Nat.Coprime.dvd_of_dvd_mul_left (show Nat.Coprime y.natAbs x.natAbs from c) h')
theorem Low.small {t b x y : Int} (L : Low t b x y) (hb : 0 < b) : 0 < y ∧ y ≤ b ∧ x.natAbs ≤ t.natAbs := by
  have yp := L.pos
  have h := Int.le_of_dvd hb (L.bottom hb)
  refine ⟨yp, h, ?_⟩
  have e : x.natAbs * b.natAbs = t.natAbs * y.natAbs := by rw [← Int.natAbs_mul, L.eq, Int.natAbs_mul]
  have e2 : t.natAbs * y.natAbs ≤ t.natAbs * b.natAbs := Nat.mul_le_mul_left _ (by omega)
  exact Nat.le_of_mul_le_mul_right (by rw [e]; exact e2) (by omega)
/-- lowest terms of another pair that is crosswise alike -/
theorem Low.cross {t b t' b' x y : Int} (L : Low t b x y) (hb : b ≠ 0) (e : t * b' = t' * b) : Low t' b' x y := by
  refine ⟨L.pos, L.cop, ?_⟩
  have h : (x * b') * b = (t' * y) * b := by
    calc (x * b') * b = (x * b) * b' := by rw [Int.mul_assoc, Int.mul_comm b' b, ← Int.mul_assoc]
      _ = (t * y) * b' := by rw [L.eq]
      _ = (t * b') * y := by rw [Int.mul_assoc, Int.mul_comm y b', ← Int.mul_assoc]
      _ = (t' * b) * y := by rw [e]
      _ = (t' * y) * b := by rw [Int.mul_assoc, Int.mul_comm b y, ← Int.mul_assoc]
  exact Int.eq_of_mul_eq_mul_right hb h
end Fr

end

section
set_option maxHeartbeats 1000000
namespace L2
open PySem PySem.Spec PyProof.Rows
/-! ### data: what a value tells, whole -/
mutual
inductive Rp (K : PySem.W.Frag) (H : Hp) : V → PyData → Prop where
  | non : Rp K H .non .none
  | bl (b : Bool) : Rp K H (.bl b) (.bool b)
  | int (i : Int) : Rp K H (.int i) (.int i)
  | str (x : Str) : Rp K H (.str x) (.str x)
  | tup {a : Addr} {xs : List V} {ds : List PyData} : SqT K H a xs → Rps K H xs ds → Rp K H (.ref a) (.tuple ds)
  | lst {a : Addr} {xs : List V} {ds : List PyData} : SqL K H a xs → Rps K H xs ds → Rp K H (.ref a) (.list ds)
inductive Rps (K : PySem.W.Frag) (H : Hp) : List V → List PyData → Prop where
  | nil : Rps K H [] []
  | cons {x : V} {xs : List V} {d : PyData} {ds : List PyData} : Rp K H x d → Rps K H xs ds → Rps K H (x :: xs) (d :: ds)
end
section
variable {X : Cx} {pins : List (Addr × Obj)} {σ : St} {H : Hp} {s : Shared}
mutual
theorem Inv.reads (I : Inv X pins σ H s) : ∀ {d : PyData} {x : V} {u : Value}, Rp X.K H x d → RelV x u → ∃ as, Reads s.heap u d as
  | .none, _, _, .non, r => by cases r; exact ⟨_, .none⟩
  | .bool _, _, _, .bl _, r => by cases r; exact ⟨_, .bool _⟩
  | .int _, _, _, .int _, r => by obtain ⟨t, rfl⟩ := r; exact ⟨_, .int _ _⟩
  | .str _, _, _, .str _, r => by obtain ⟨t, rfl⟩ := r; exact ⟨_, .str _ _⟩
  | .tuple ds, _, _, .tup h hs, r => by
    cases r
    obtain ⟨its, rv, ⟨o, e, c, n, d⟩, _⟩ := I.tuple h
    obtain ⟨as, q⟩ := Inv.readsAll I hs rv
    exact ⟨_, .tuple e c d (by simpa using q)⟩
  | .list ds, _, _, .lst h hs, r => by
    cases r
    obtain ⟨its, rv, ⟨o, n, e, c, _, d⟩, _⟩ := I.list h
    obtain ⟨as, q⟩ := Inv.readsAll I hs rv
    exact ⟨_, .list e c d (by simpa using q)⟩
theorem Inv.readsAll (I : Inv X pins σ H s) : ∀ {ds : List PyData} {xs : List V} {us : List Value}, Rps X.K H xs ds → Vals xs us → ∃ as, ReadsAll s.heap us ds as
  | [], _, _, .nil, r => by cases r; exact ⟨_, .nil⟩
  | d :: ds, _, _, .cons h hs, r => by
    cases r with
    | cons r1 r2 =>
      obtain ⟨as, q⟩ := Inv.reads I h r1
      obtain ⟨bs, q2⟩ := Inv.readsAll I hs r2
      exact ⟨_, .cons q q2⟩
end
def rEqD (K : PySem.W.Frag) : R2 := fun x y H Q => ∃ d e, Rp K H x d ∧ Rp K H y e ∧ SeqAt.shaped d = true ∧ SeqAt.shaped e = true ∧ Q (.bl (PyData.eqv d e)) H
def rNeD (K : PySem.W.Frag) : R2 := fun x y H Q => ∃ d e, Rp K H x d ∧ Rp K H y e ∧ SeqAt.shaped d = true ∧ SeqAt.shaped e = true ∧ Q (.bl (!PyData.eqv d e)) H
theorem op_eqD (hu : X.A.units + 64 < cLine) : OpR X (compareOp .Eq) (rEqD X.K) := by
  intro pins s σ H x y v u Q I rx ry h
  obtain ⟨d, e, hd, he, sd, se, q⟩ := h
  obtain ⟨as, ra⟩ := I.reads hd rx
  obtain ⟨bs, rb⟩ := I.reads he ry
  exact SeqAt.compareEq_shaped ra rb sd se hu ⟨.bl _, H, I, rfl, q⟩
theorem op_neD (hu : X.A.units + 64 < cLine) : OpR X (compareOp .NotEq) (rNeD X.K) := by
  intro pins s σ H x y v u Q I rx ry h
  obtain ⟨d, e, hd, he, sd, se, q⟩ := h
  obtain ⟨as, ra⟩ := I.reads hd rx
  obtain ⟨bs, rb⟩ := I.reads he ry
  exact SeqAt.compareNe_shaped ra rb sd se hu ⟨.bl _, H, I, rfl, q⟩
end
/-- what changes no tuple, no frozen thing -/
def Tups (H H' : Hp) : Prop := (∀ b xs, H b = some (.tup xs) → H' b = some (.tup xs)) ∧ ∀ b o u, H b = some (.frz o u) → H' b = some (.frz o u)
theorem Same.tups {H H' : Hp} (s : Same H H') : Tups H H' := ⟨fun b xs e => s _ _ e, fun b o u e => s _ _ e⟩
theorem Tups.trans {H H1 H2 : Hp} (a : Tups H H1) (b : Tups H1 H2) : Tups H H2 := ⟨fun c xs e => b.1 c xs (a.1 c xs e), fun c o u e => b.2 c o u (a.2 c o u e)⟩
theorem Tups.lst {H : Hp} {l : Addr} {xs ys : List V} (h : H l = some (.lst xs)) : Tups H (upd H l (.lst ys)) := by
  refine ⟨fun b zs e => ?_, fun b o u e => ?_⟩
  · rw [upd_ne (ne_of e h (by intro z; cases z))]
    exact e
  · rw [upd_ne (ne_of e h (by intro z; cases z))]
    exact e
/-- a fraction as a value: two ints in a tuple -/
def FrV (H : Hp) (v : V) (x y : Int) : Prop := ∃ p, v = .ref p ∧ H p = some (.tup [.int x, .int y])
theorem FrV.of {H : Hp} {p : Addr} {x y : Int} (h : H p = some (.tup [.int x, .int y])) : FrV H (.ref p) x y := ⟨p, rfl, h⟩
theorem FrV.mono {H H' : Hp} {v : V} {x y : Int} (h : FrV H v x y) (t : Tups H H') : FrV H' v x y := by
  obtain ⟨p, rfl, h⟩ := h
  exact ⟨p, rfl, t.1 _ _ h⟩
theorem FrV.rp {K : PySem.W.Frag} {H : Hp} {v : V} {x y : Int} (h : FrV H v x y) : Rp K H v (.tuple [.int x, .int y]) := by
  obtain ⟨p, rfl, h⟩ := h
  exact .tup (SqT.of h) (.cons (.int x) (.cons (.int y) .nil))
theorem fr_shaped {x y : Int} : SeqAt.shaped (.tuple [.int x, .int y]) = true := rfl
theorem fr_eqv {x y z w : Int} : PyData.eqv (.tuple [.int x, .int y]) (.tuple [.int z, .int w]) = (decide (x = z) && decide (y = w)) := by
  simp [PyData.eqv, PyData.eqvAll]
  rfl
/-- the ten classes of refusals -/
structure Cs where
  (RoadError NoNumber NoNet NoWish NoWay TooMany NoShare NoStep NoSuch NoText : Addr)
end L2

end

section
set_option maxHeartbeats 1000000
namespace L2
open PySem

end L2

end

section
set_option maxHeartbeats 1000000
/-! LIST COMPREHENSIONS over the hand layer: one clause, at most one test; an element that raises nothing. -/
namespace L2
open PySem PySem.Spec PyProof.Rows
/-- the cells of the names that a block draws from around it -/
def closL (cells : List (Str × Addr)) : List (Str × NameKind) → List (Str × Addr) → List (Str × Addr)
  | [], cs => cs
  | (n, k) :: r, cs => closL cells r (if (k == .free) = true then (n, (cells.lookup n).getD 0) :: cs else cs)
theorem clos_eq {scope : Scope} {env : Env} (h : ∀ x ∈ scope.names, x.2 = .free → ∃ c, env.cells.lookup x.1 = some c) : closureFor scope env = pure (closL env.cells scope.names []) := by
  have key : ∀ (l : List (Str × NameKind)) (cs : List (Str × Addr)), (∀ x ∈ l, x.2 = .free → ∃ c, env.cells.lookup x.1 = some c) →
      forIn (m := Sem) l cs (fun (x : Str × NameKind) (r : List (Str × Addr)) => if (x.2 == .free) = true then (do let a ← cellOf env x.1; pure (.yield ((x.1, a) :: r))) else pure (.yield r)) = pure (closL env.cells l cs) := by
    intro l
    induction l with
    | nil => intro cs _; rfl
    | cons x r ih =>
      intro cs hx
      obtain ⟨n, k⟩ := x
      rw [List.forIn_cons]
      unfold closL
      by_cases hk : k = .free
      · subst hk
        obtain ⟨c, e⟩ := hx (n, .free) List.mem_cons_self rfl
        have ec : cellOf env n = pure c := by unfold cellOf; rw [e]
        simp only [beq_self_eq_true, if_true]
        rw [ec, pure_bind, pure_bind]
        rw [e]
        exact ih _ fun y hy => hx y (List.mem_cons_of_mem _ hy)
      · have hb : (k == NameKind.free) = false := by simpa using hk
        simp only [hb, Bool.false_eq_true, if_false]
        rw [pure_bind]
        exact ih _ fun y hy => hx y (List.mem_cons_of_mem _ hy)
  have e := key scope.names [] h
  unfold closureFor
  simp only [bind_pure]
  exact e
theorem closL_lookup {cells : List (Str × Addr)} {x : Str} {c : Addr} : ∀ {l : List (Str × NameKind)} {cs : List (Str × Addr)}, (closL cells l cs).lookup x = some c →
    cs.lookup x = some c ∨ ((x, NameKind.free) ∈ l ∧ (cells.lookup x).getD 0 = c)
  | [], cs, h => .inl h
  | (n, k) :: r, cs, h => by
    unfold closL at h
    rcases closL_lookup h with q | ⟨h1, h2⟩
    · clear h
      by_cases hk : (k == NameKind.free) = true
      · rw [if_pos hk, List.lookup_cons] at q
        cases hx : x == n with
        | true =>
          rw [hx] at q
          have e1 : x = n := by simpa using hx
          have e2 : k = .free := by simpa using hk
          subst e1 e2
          exact .inr ⟨List.mem_cons_self, Option.some.inj q⟩
        | false =>
          rw [hx] at q
          exact .inl q
      · rw [if_neg hk] at q
        exact .inl q
    · exact .inr ⟨List.mem_cons_of_mem _ h1, h2⟩
theorem closL_has {cells : List (Str × Addr)} {x : Str} : ∀ {l : List (Str × NameKind)} {cs : List (Str × Addr)}, ((x, NameKind.free) ∈ l ∨ ∃ c, cs.lookup x = some c) → ∃ c, (closL cells l cs).lookup x = some c
  | [], cs, h => by
    rcases h with h | h
    · cases h
    · exact h
  | (n, k) :: r, cs, h => by
    unfold closL
    refine closL_has ?_
    rcases h with h | ⟨c, h⟩
    · rcases List.mem_cons.mp h with h | h
      · cases h
        right
        simp only [beq_self_eq_true, if_true, List.lookup_cons]
        exact ⟨_, rfl⟩
      · exact .inl h
    · right
      split
      · rw [List.lookup_cons]
        cases x == n with
        | true => exact ⟨_, rfl⟩
        | false => exact ⟨c, h⟩
      · exact ⟨c, h⟩
section
variable {prog : Program} {w : World} {A : Around} {R : Result → Shared → Prop} {s : Shared}
/-- the block's loop, the step ahead of the store told apart -/
theorem comp_loop {elt target iter : Expr} {ifs : List Expr} {scope : Scope} {pos : Pos} {it acc : Value} {env : Env} (I : Nat → Shared → Prop) (n : Nat) (h : I n s)
    (turn : ∀ n s, I n s → wpAny (model prog w) A (pyNext it) (fun r s1 => match r with
      | none => R (.ok .next) s1
      | some v => wpAny (model prog w) A (letOwnedTupleGo target it v) (fun _ s2 => wpAny (model prog w) A (assign target env v) (fun _ s3 =>
          wpAny (model prog w) A (forIn ifs true fun c r => if r = true then do let ok ← isTrue c env (eval c env); pure (ForInStep.yield ok) else pure (ForInStep.yield r)) (fun ok s4 =>
            if ok = true then wpAny (model prog w) A (eval elt env) (fun x s5 => wpAny (model prog w) A (call (.builtin "list.append") [acc, x]) (fun _ s6 => ∃ m, m < n ∧ I m s6) (fun _ _ => False) s5) (fun _ _ => False) s4
            else ∃ m, m < n ∧ I m s4) (fun _ _ => False) s3) (fun _ _ => False) s2) (fun _ _ => False) s1) (fun _ _ => False) s) :
    codeAny (model prog w) A (.compLoop (.ListComp elt [⟨target, iter, ifs, 0⟩] scope pos) 0 it acc env) R s := by
  refine codeAny_loop rfl I (fun n s hI => ?_) n h
  show wpAny _ A ((compTurn (.ListComp elt [⟨target, iter, ifs, 0⟩] scope pos) 0 it acc env).onRaise (fun x => do noteFrame x env; theTreesLotGoes x)) _ _ s
  refine wpAny_noted ?_
  rw [compTurn_list]
  refine wpAny_bind (wpAny_standAt (wpAny_bind (wpAny_mono (turn n s hI) (fun r s1 h1 => ?_) fun _ _ z => z.elim)))
  cases r with
  | none => exact wpAny_pure h1
  | some v =>
    refine wpAny_bind (wpAny_mono h1 (fun _ s2 h2 => ?_) fun _ _ z => z.elim)
    refine wpAny_bind (wpAny_mono h2 (fun _ s3 h3 => ?_) fun _ _ z => z.elim)
    refine wpAny_bind (wpAny_mono h3 (fun ok s4 h4 => ?_) fun _ _ z => z.elim)
    cases ok with
    | false => exact wpAny_pure ⟨rfl, h4⟩
    | true => exact wpAny_bind (wpAny_bind (wpAny_mono h4 (fun x s5 h5 => wpAny_bind (wpAny_mono h5 (fun _ s6 h6 => wpAny_pure (wpAny_pure ⟨rfl, h6⟩)) fun _ _ z => z.elim)) fun _ _ z => z.elim))
end

/-- the block's context: its own names first, then those it draws from around it -/
def Cx.comp (X : Cx) (s : Shared) (H : Hp) (N' : List Str) (scope : Scope) (C : Addr) (fp : List Addr) : Cx where
  prog := X.prog
  w := X.w
  K := X.K
  mg := X.mg
  base := X.base
  A := X.A
  N := N'
  s₀ := s
  H₀ := H
  env := compEnvC scope (closL X.env.cells scope.names []) C X.env
  outer := X.stack
  stack := X.stack
  ex := fp
  fn := fun _ => false
  calm := X.calm
  pn := []
  xe := fun _ _ => False
/-- a block's scope within X's: own names local, all others drawn from X's cells; capt: those it draws -/
structure CompScope (X : Cx) (scope : Scope) (own capt : List Str) (ix : List Nat) : Prop where
  kind : scope.kind = .function
  nocell : ∀ y ∈ scope.names, y.2 ≠ .cell
  locs : ∀ y ∈ scope.names, y.2 = .local → scope.names.lookup y.1 = some .local
  frees : ∀ y ∈ scope.names, y.2 = .free → X.env.scope.names.lookup y.1 = some .cell
  cap : ∀ (j : Nat) (x : Str), capt[j]? = some x → scope.names.lookup x = some .free ∧ ∃ i, ix[j]? = some i ∧ X.N[i]? = some x
  nd : (own ++ capt).Nodup
  len : ix.length = capt.length
inductive Caps (X : Cx) (scope : Scope) : List Str → List Nat → Prop where
  | nil : Caps X scope [] []
  | cons {x : Str} {i : Nat} {xs : List Str} {is : List Nat} (h1 : scope.names.lookup x = some .free) (h2 : X.N[i]? = some x) (r : Caps X scope xs is) : Caps X scope (x :: xs) (i :: is)
theorem Caps.at {X : Cx} {scope : Scope} : ∀ {capt : List Str} {ix : List Nat}, Caps X scope capt ix → ∀ (j : Nat) (x : Str), capt[j]? = some x → scope.names.lookup x = some .free ∧ ∃ i, ix[j]? = some i ∧ X.N[i]? = some x
  | _, _, .nil, j, x, h => by simp at h
  | _, _, .cons h1 h2 r, 0, x, h => by
    simp at h
    subst h
    exact ⟨h1, _, rfl, h2⟩
  | _, _, .cons h1 h2 r, j + 1, x, h => by
    obtain ⟨q1, i, q2, q3⟩ := r.at j x (by simpa using h)
    exact ⟨q1, i, by simpa using q2, q3⟩
theorem Caps.len {X : Cx} {scope : Scope} : ∀ {capt : List Str} {ix : List Nat}, Caps X scope capt ix → ix.length = capt.length
  | _, _, .nil => rfl
  | _, _, .cons _ _ r => by simp [r.len]
theorem CompScope.of {X : Cx} {scope : Scope} {own capt : List Str} {ix : List Nat} (kind : scope.kind = .function) (nocell : ∀ y ∈ scope.names, y.2 ≠ .cell) (locs : ∀ y ∈ scope.names, y.2 = .local → scope.names.lookup y.1 = some .local)
    (frees : ∀ y ∈ scope.names, y.2 = .free → X.env.scope.names.lookup y.1 = some .cell) (c : Caps X scope capt ix) (nd : (own ++ capt).Nodup) : CompScope X scope own capt ix := ⟨kind, nocell, locs, frees, c.at, nd, c.len⟩
/-- what the names hold at the block's entry -/
def capV (n : Nat) (ix : List Nat) (σ : St) : St := List.replicate n none ++ ix.map fun i => (σ[i]?).join
section
variable {X : Cx} {pins : List (Addr × Obj)} {σ : St} {H : Hp} {s : Shared} {scope : Scope} {own capt : List Str} {ix : List Nat} {fp : List Addr}
theorem lookup_relabel {env : Env} {x : Str} : ∀ {names : List (Str × NameKind)}, (∀ y ∈ names, y.2 = .free → env.scope.names.lookup y.1 = some .cell) → env.scope.kind = .function →
    (names.map fun (n, k) => if (k == NameKind.free && env.scope.kind == .function && env.kindOf n == some .cell) then (n, NameKind.cell) else (n, k)).lookup x = (names.lookup x).map fun k => if k = .free then .cell else k
  | [], _, _ => rfl
  | (n, k) :: r, h, hk => by
    have ih := lookup_relabel (x := x) (names := r) (fun y hy => h y (List.mem_cons_of_mem _ hy)) hk
    rw [List.map_cons, List.lookup_cons]
    by_cases hf : k = .free
    · subst hf
      have e : env.kindOf n = some .cell := h (n, .free) List.mem_cons_self rfl
      have e2 : (NameKind.free == NameKind.free && env.scope.kind == .function && env.kindOf n == some .cell) = true := by rw [e, hk]; rfl
      rw [if_pos e2, List.lookup_cons]
      cases x == n with
      | true => rfl
      | false => exact ih
    · have e2 : ¬ (k == NameKind.free && env.scope.kind == .function && env.kindOf n == some .cell) = true := by
        intro z
        rw [Bool.and_eq_true, Bool.and_eq_true] at z
        exact hf (by simpa using z.1.1)
      rw [if_neg e2, List.lookup_cons]
      cases x == n with
      | true => simp [hf]
      | false => exact ih
theorem comp_cells (I : Inv X pins σ H s) (CS : CompScope X scope own capt ix) {x : Str} {c : Addr} (e : (closL X.env.cells scope.names []).lookup x = some c) : (x, NameKind.free) ∈ scope.names ∧ X.env.cells.lookup x = some c := by
  rcases closL_lookup e with e | ⟨h1, h2⟩
  · cases e
  · obtain ⟨c', e'⟩ := I.ok.has x (.inl (CS.frees _ h1 rfl))
    rw [e'] at h2
    exact ⟨h1, by rw [e']; exact congrArg some h2⟩
theorem comp_ok (I : Inv X pins σ H s) (CS : CompScope X scope own capt ix) (f : ∀ b ∈ fp, FpOk X pins H b) {C : Addr} (hC : s.heap.objs.size ≤ C) (hfp : ∀ b ∈ fp, b < s.heap.objs.size) : (X.comp s H (own ++ capt) scope C fp).Ok := by
  have cl : ∀ x c, (closL X.env.cells scope.names []).lookup x = some c → (x, NameKind.free) ∈ scope.names ∧ X.env.cells.lookup x = some c := fun x c e => comp_cells I CS e
  refine ⟨I.ok.mod, CS.kind, I.ok.glob, I.ok.blt, hC, fun x y c h1 h2 => I.ok.inj x y c (cl x c h1).2 (cl y c h2).2, fun x hx => ?_, fun x c z => (by cases z), I.ok.hd, I.ok.frames, .inl rfl, fun b hb => ⟨?_, fun x c e => ?_⟩, fun b o e => I.bs b o e, ?_, fun b o e hb => ?_, fun b hb z => ?_, I.stack, fun b hb => I.stkFree b hb⟩
  · -- a name that is a cell or free there
    have e : (compEnvC scope (closL X.env.cells scope.names []) C X.env).kindOf x = (scope.names.lookup x).map fun k => if k = .free then .cell else k := lookup_relabel CS.frees I.ok.kind
    have hx' : (scope.names.lookup x).map (fun k => if k = NameKind.free then NameKind.cell else k) = some .cell ∨ (scope.names.lookup x).map (fun k => if k = NameKind.free then NameKind.cell else k) = some .free := by rw [← e]; exact hx
    cases q : scope.names.lookup x with
    | none => rw [q] at hx'; rcases hx' with z | z <;> cases z
    | some k =>
      rw [q] at hx'
      have hm := PySem.mem_of_lookup q
      by_cases hk : k = .free
      · subst hk
        exact closL_has (.inl hm)
      · rcases hx' with z | z
        · simp only [Option.map_some, if_neg hk, Option.some.injEq] at z
          subst z
          exact absurd rfl (CS.nocell _ hm)
        · simp only [Option.map_some, if_neg hk, Option.some.injEq] at z
          exact absurd z hk
  · exact Nat.ne_of_lt (Nat.lt_of_lt_of_le (hfp b hb) hC)
  · exact (f b hb).2.2.2.2.1 x c (cl x c e).2
  · exact Nat.le_trans I.ok.bsz I.sz
  · rcases (f b hb).2.2.2.1 with z | z
    · exact I.ok.noex b o e z
    · exact absurd (Nat.lt_of_lt_of_le (Heap.lt_size e) (Nat.le_trans I.ok.bsz z)) (Nat.lt_irrefl _)
  · rcases List.mem_cons.mp (I.stkSub b z) with q | q
    · exact (f b hb).2.1 q
    · exact (f b hb).2.2.1 q
/-- the block's first state -/
theorem comp_inv (I : Inv X pins σ H s) (CS : CompScope X scope own capt ix) (f : ∀ b ∈ fp, FpOk X pins H b) (hfp : ∀ b ∈ fp, b < s.heap.objs.size) {h1 : Heap} {m : Str → Option Value} {C : Addr} {n tk : Nat} (hC : s.heap.objs.size < C)
    (keep : ∀ b o, s.heap.get? b = some o → h1.get? b = some o) (hacc : h1.get? s.heap.objs.size = some { cls := .type "list", data := .seq #[] n }) (hns : h1.Ns C m) :
    Inv (X.comp s H (own ++ capt) scope C fp) [] (capV own.length ix σ) (upd H s.heap.objs.size (.lst [])) { s with heap := h1, toks := tk } := by
  have hD := I.hok.fresh (Nat.le_refl s.heap.objs.size)
  have cellK : ∀ c v, s.heap.IsCell c v → h1.IsCell c v := fun c v ⟨o, e, d⟩ => ⟨o, keep c o e, d⟩
  refine ⟨comp_ok I CS f (Nat.le_of_lt hC) hfp, rfl, I.bare, Un.laid keep (Nat.le_refl _) hD, ⟨m, hns, fun i x v e1 e2 e3 => ?_⟩, fun x c e => ?_, ?_, fun x c e => ?_, fun p hp => absurd (show p ∈ ([] : List (Addr × Obj)) from hp) (by simp), ?_, ?_⟩
  · have hi : own.length ≤ i := by
      rcases Nat.lt_or_ge i own.length with z | z
      · have e2' : (capV own.length ix σ)[i]? = some (some v) := e2
        unfold capV at e2'
        rw [List.getElem?_append_left (by simpa using z), List.getElem?_replicate] at e2'
        split at e2' <;> cases e2'
      · exact z
    have e1' : capt[i - own.length]? = some x := by
      have e1'' : (own ++ capt)[i]? = some x := e1
      rw [List.getElem?_append_right hi] at e1''
      exact e1''
    obtain ⟨hl, i0, hi0, hN⟩ := CS.cap _ _ e1'
    have hv : σ[i0]? = some (some v) := by
      have e2' : (capV own.length ix σ)[i]? = some (some v) := e2
      unfold capV at e2'
      rw [List.getElem?_append_right (by simpa using hi), List.length_replicate, List.getElem?_map, hi0] at e2'
      have e3' : (σ[i0]?).join = some v := Option.some.inj e2'
      cases q : σ[i0]? with
      | none => rw [q] at e3'; cases e3'
      | some z => rw [q] at e3'; exact congrArg some e3'
    have hm := PySem.mem_of_lookup hl
    have hcell : X.env.scope.names.lookup x = some .cell := CS.frees _ hm rfl
    obtain ⟨m0, _, hloc⟩ := I.loc
    obtain ⟨u, ru, lk⟩ := hloc i0 x v hN hv (.inr (.inl hcell))
    refine ⟨u, ru, .inr ⟨.inl ?_, ?_⟩⟩
    · have e : (compEnvC scope (closL X.env.cells scope.names []) C X.env).kindOf x = (scope.names.lookup x).map fun k => if k = .free then .cell else k := lookup_relabel CS.frees I.ok.kind
      show (compEnvC scope (closL X.env.cells scope.names []) C X.env).kindOf x = some .cell
      rw [e, hl]
      rfl
    · rcases lk with ⟨k, _⟩ | ⟨_, c, ec, z⟩
      · have k' : X.env.scope.names.lookup x = some .local := k
        rw [hcell] at k'
        cases k'
      · obtain ⟨c', e'⟩ := closL_has (cells := X.env.cells) (cs := []) (.inl hm)
        have := (comp_cells I CS e').2
        rw [ec] at this
        cases this
        exact ⟨c, e', cellK _ _ z⟩
  · obtain ⟨v, z⟩ := I.cell x c (comp_cells I CS e).2
    exact ⟨v, cellK _ _ z⟩
  · show upd H s.heap.objs.size (.lst []) C = none
    rw [upd_ne (Nat.ne_of_gt hC)]
    exact I.hok.fresh (Nat.le_of_lt hC)
  · have q := (comp_cells I CS e).2
    obtain ⟨v, z⟩ := I.cell x c q
    rw [upd_ne (Nat.ne_of_lt z.lt)]
    exact I.freeC x c q
  · exact I.hok.laid keep (Nat.le_refl _) ⟨Nat.zero_le _, [], n, .nil, hacc⟩
  · show (capV own.length ix σ).length = (own ++ capt).length
    unfold capV
    rw [List.length_append, List.length_append, List.length_replicate, List.length_map, CS.len]
/-- no test, one test -/
def tNoIf : TT := fun _ H P => P true H
def PF (X : Cx) (ifs : List Expr) (t : TT) : Prop :=
  ∀ (pins : List (Addr × Obj)) (s : Shared) (σ : St) (H : Hp) (Q : Bool → Hp → Prop), Inv X pins σ H s → t σ H Q →
    wpAny (model X.prog X.w) X.A (forIn ifs true fun c r => if r = true then do let ok ← isTrue c X.env (eval c X.env); pure (ForInStep.yield ok) else pure (ForInStep.yield r)) (TP X pins σ Q) X.xe s
theorem pf_nil : PF X [] tNoIf := fun pins s σ H Q I h => wpAny_pure ⟨H, I, h⟩
theorem pf_one {c : Expr} {t : TT} (hc : PT X c t) : PF X [c] t := fun pins s σ H Q I h => by
  rw [List.forIn_cons]
  refine wpAny_bind ?_
  rw [if_pos rfl]
  exact wpAny_bind (thn (hc pins s σ H Q I h) fun ok s1 q => wpAny_pure (wpAny_pure q))
/-- [e for x in xs if c]: what the loop that makes the list asks -/
def tComp (n : Nat) (ix : List Nat) (wi : TI) (g : TG) (tc : TT) (te : TE) : TE := fun σ H Q => wi σ H fun J H1 => ∀ acc, H1 acc = none → ∃ W : Nat → Nat → St → Hp → Prop, (∃ m, W 0 m (capV n ix σ) (upd H1 acc (.lst []))) ∧
  ∀ i m σ' H', W i m σ' H' → (J.stop i H' ∧ Q (.ref acc) H') ∨ (J.go i H' ∧ ∃ N : St → Hp → Prop, (∀ σ2 H2, N σ2 H2 → ∃ m', m' < m ∧ W (i + 1) m' σ2 H2) ∧
    ∀ x H2, J.yld i H' x H2 → g x σ' H2 fun σ3 H3 => tc σ3 H3 fun ok H4 => if ok = true then te σ3 H4 fun v H5 => ∃ ys, H5 acc = some (.lst ys) ∧ ys.length < sizeLine ∧ N σ3 (upd H5 acc (.lst (ys ++ [v]))) else N σ3 H4)
theorem comp_run {E : Value → Shared → Prop} {elt target iter : Expr} {ifs : List Expr} {pos : Pos} {g : TG} {tc : TT} {te : TE} {J : It} {it : Addr} {tn : Nat → Heap → Prop} {RR : Value → Addr → Result → Shared → Prop} {Q : VK}
    (I : Inv X pins σ H s) (hc : X.calm = true) (CS : CompScope X scope own capt ix) (T : Turn X.prog X.w X.K target J fp it tn) (st : tn 0 s.heap) (f : ∀ b ∈ fp, FpOk X pins H b)
    (hg : ∀ s H C fp, PG (X.comp s H (own ++ capt) scope C fp) target g) (hf : ∀ s H C fp, PF (X.comp s H (own ++ capt) scope C fp) ifs tc) (he : ∀ s H C fp, PE (X.comp s H (own ++ capt) scope C fp) elt te)
    (hW : ∀ acc, H acc = none → ∃ W : Nat → Nat → St → Hp → Prop, (∃ m, W 0 m (capV own.length ix σ) (upd H acc (.lst []))) ∧
      ∀ i m σ' H', W i m σ' H' → (J.stop i H' ∧ Q (.ref acc) H') ∨ (J.go i H' ∧ ∃ N : St → Hp → Prop, (∀ σ2 H2, N σ2 H2 → ∃ m', m' < m ∧ W (i + 1) m' σ2 H2) ∧
        ∀ x H2, J.yld i H' x H2 → g x σ' H2 fun σ3 H3 => tc σ3 H3 fun ok H4 => if ok = true then te σ3 H4 fun v H5 => ∃ ys, H5 acc = some (.lst ys) ∧ ys.length < sizeLine ∧ N σ3 (upd H5 acc (.lst (ys ++ [v]))) else N σ3 H4))
    (fin : ∀ D C s' H', Inv X pins σ H' s' → FpOk X pins H' C → (∃ m, s'.heap.Ns C m) → Q (.ref D) H' → RR (.ref D) C (.ok .next) s') :
    wpAny (model X.prog X.w) X.A (newList []) (fun acc s3 => wpAny (model X.prog X.w) X.A (newFunctionEnv scope X.env.globals (closL X.env.cells scope.names []) [] X.env.qual none .none (some X.env)) (fun cenv s4 =>
      codeAny (model X.prog X.w) X.A (.compStart (.ListComp elt [⟨target, iter, ifs, 0⟩] scope pos) 0 (.ref it) acc { cenv with scope := relabel scope X.env }) (RR acc cenv.locals) s4) E s3) E s := by
  refine wpAny_newObj_type (wpAny_newFunctionEnv CS.nocell (by intro y hy; simp at hy) (fun h1 hns hsb => ?_) CS.kind)
  dsimp only at hns hsb ⊢
  generalize hP : s.heap.push { cls := .type "list", dict := none, data := .seq ([] : List Value).toArray } = P2 at hns hsb ⊢
  have hC : P2.objs.size = s.heap.objs.size + 1 := by rw [← hP, Heap.size_push]
  have lt : s.heap.objs.size < P2.objs.size := by omega
  have keep : ∀ b o, s.heap.get? b = some o → h1.get? b = some o := fun b o e => by
    have hb := Heap.lt_size e
    exact hsb.extBut b o (Nat.ne_of_lt (Nat.lt_trans hb lt)) (Heap.get?_push_of_some _ (hP ▸ Heap.get?_push_of_some _ e))
  have hacc : h1.get? s.heap.objs.size = some { cls := .type "list", data := .seq #[] } := hsb.extBut _ _ (Nat.ne_of_lt lt) (Heap.get?_push_of_some _ (hP ▸ Heap.get?_push_size _ rfl))
  have hfp : ∀ b ∈ fp, b < s.heap.objs.size := fun b hb => by
    obtain ⟨o, e, _⟩ := T.obj 0 _ st b hb
    exact Heap.lt_size e
  obtain ⟨W, ⟨m0, w0⟩, turn⟩ := hW s.heap.objs.size (I.hok.fresh (Nat.le_refl _))
  have ok := comp_ok I CS f (Nat.le_of_lt lt) hfp
  have stat : ∀ {H' : Hp}, (∀ b ∈ fp, H' b = none) → ∀ b ∈ fp, FpOk (X.comp s H (own ++ capt) scope P2.objs.size fp) [] H' b := fun hn b hb =>
    ⟨hn b hb, (ok.exf b hb).1, ok.exfs b hb, .inl hb, (ok.exf b hb).2, fun p hp => absurd (show p ∈ ([] : List (Addr × Obj)) from hp) (by simp)⟩
  have back : ∀ {s' : Shared} {σ' : St} {H' : Hp}, Inv (X.comp s H (own ++ capt) scope P2.objs.size fp) [] σ' H' s' → Inv X pins σ H' s' := fun {s' σ' H'} J' =>
    I.call' J'.os J'.base J'.hok J'.bare fun b hb => ⟨(f b hb).2.2.2.1, (f b hb).2.1, (f b hb).2.2.2.2.1, (f b hb).2.2.2.2.2⟩
  have loop : ∀ tk : Nat, codeAny (model X.prog X.w) X.A (.compLoop (.ListComp elt [⟨target, iter, ifs, 0⟩] scope pos) 0 (.ref it) (.ref s.heap.objs.size) (compEnvC scope (closL X.env.cells scope.names []) P2.objs.size X.env))
      (RR (.ref s.heap.objs.size) P2.objs.size) { s with heap := h1, toks := tk } := fun tk => by
    have I1 := comp_inv (tk := tk) I CS f hfp lt keep hacc hns
    refine comp_loop (fun n s' => ∃ i σ' H', Inv (X.comp s H (own ++ capt) scope P2.objs.size fp) [] σ' H' s' ∧ tn i s'.heap ∧ (∀ b ∈ fp, H' b = none) ∧ W i n σ' H') m0 ⟨0, _, _, I1, T.keep _ _ _ st fun b _ o e => keep b o e, fun b hb => ?_, w0⟩ ?_
    · rw [upd_ne (Nat.ne_of_lt (hfp b hb))]
      exact (f b hb).1
    rintro n s3 ⟨i, σ3, H3, I3, st3, fr3, w3⟩
    rcases turn i n σ3 H3 w3 with ⟨stop, qn⟩ | ⟨go, N, hN, step⟩
    · refine thn (T.done (X.comp s H (own ++ capt) scope P2.objs.size fp) rfl rfl rfl hc i [] s3 σ3 H3 _ I3 (stat fr3) st3 stop) fun r s4 ⟨hr, I4⟩ => ?_
      subst hr
      obtain ⟨m, hm, _⟩ := I4.loc
      exact fin _ _ _ _ (back I4) (I.fpOk (Nat.le_of_lt lt) I4.free) ⟨m, hm⟩ qn
    · refine thn (T.item (X.comp s H (own ++ capt) scope P2.objs.size fp) rfl rfl rfl hc i [] s3 σ3 H3 _ I3 (stat fr3) st3 go) fun r s4 ⟨u, hr, h4⟩ => ?_
      subst hr
      refine thn h4 fun _ s5 ⟨x, H5, I5, r5, y5, st5, fr5⟩ => ?_
      have I5' := I5.pinned (stat fr5) (T.obj _ _ st5)
      refine thn (hg _ _ _ _ _ s5 σ3 H5 x u _ I5' r5 (step x H5 y5)) fun _ s6 ⟨σ6, H6, I6, q6⟩ => ?_
      have again : ∀ {s7 : Shared} {H7 : Hp}, Inv (X.comp s H (own ++ capt) scope P2.objs.size fp) ([] ++ pinsAt fp s5.heap) σ6 H7 s7 → N σ6 H7 → ∃ m, m < n ∧ ∃ i σ' H', Inv (X.comp s H (own ++ capt) scope P2.objs.size fp) [] σ' H' s7 ∧ tn i s7.heap ∧ (∀ b ∈ fp, H' b = none) ∧ W i m σ' H' := fun {s7 H7} I7 n7 => by
        obtain ⟨m', hm, w7⟩ := hN σ6 H7 n7
        refine ⟨m', hm, i + 1, σ6, H7, I7.unpinned, T.keep _ _ _ st5 fun b hb o e => (I7.pin (b, o) (List.mem_append_right _ (List.mem_append_right _ (mem_pinsAt hb e)))).1, fun b hb => ?_, w7⟩
        obtain ⟨o, e, d⟩ := T.obj _ _ st5 b hb
        exact (I7.pin (b, o) (List.mem_append_right _ (List.mem_append_right _ (mem_pinsAt hb e)))).2.1
      refine thn (hf _ _ _ _ _ s6 σ6 H6 _ I6 q6) fun okv s7 ⟨H7, I7, q7⟩ => ?_
      cases okv with
      | false =>
        rw [if_neg Bool.false_ne_true] at q7 ⊢
        exact again I7 q7
      | true =>
        rw [if_pos rfl] at q7 ⊢
        refine thn (he _ _ _ _ _ s7 σ6 H7 _ I7 q7) fun xv s8 ⟨v, H8, I8, r8, ys, hy, hz, n8⟩ => ?_
        refine thn (mt_append (X := X.comp s H (own ++ capt) scope P2.objs.size fp) _ s8 σ6 H8 (.ref s.heap.objs.size) [v] (.ref s.heap.objs.size) [xv] (fun _ H9 => N σ6 H9) I8 rfl (.cons r8 .nil) ⟨_, ys, v, rfl, rfl, hy, hz, n8⟩) fun _ s9 ⟨_, H9, I9, _, n9⟩ => again I9 n9
  refine codeAny_compStart_list (loop _) (T.self _ 0 _ _ _ (T.keep _ _ _ st fun b _ o e => keep b o e) (loop _))
theorem pe_comp {elt target iter : Expr} {ifs : List Expr} {pos : Pos} {wi : TI} {g : TG} {tc : TT} {te : TE} (hc : X.calm = true) (CS : CompScope X scope own capt ix) (hi : PI X target iter wi)
    (hg : ∀ s H C fp, PG (X.comp s H (own ++ capt) scope C fp) target g) (hf : ∀ s H C fp, PF (X.comp s H (own ++ capt) scope C fp) ifs tc) (he : ∀ s H C fp, PE (X.comp s H (own ++ capt) scope C fp) elt te)
    (hs : ∀ x, foldedSetIterable iter X.env x = pure x := by intro _; rfl) : PE X (.ListComp elt [⟨target, iter, ifs, 0⟩] scope pos) (tComp own.length ix wi g tc te) := by
  intro pins s σ H Q I h
  rw [eval_ListComp]
  refine wpAny_comprehension_free (use := none) rfl hs (clos_eq fun x hx hk => I.ok.has x.1 (.inl (CS.frees x hx hk))) CS.kind CS.locs (thn (hi pins s σ H _ I h) fun v s1 h1 => thn h1 fun itv s2 h2 => ?_)
  obtain ⟨it, fp, tn, J, H2, e, I2, T, st2, f2, hW⟩ := h2
  subst e
  refine comp_run (RR := fun acc C => compPost (model X.prog X.w) X.A X.xe none (EP X pins σ Q) acc C) I2 hc CS T st2 f2 hg hf he hW fun D C s' H' J' fC ⟨m, hn⟩ q => ⟨m, hn, fun h' sb => ⟨.ref D, H', ?_, rfl, q⟩⟩
  exact J'.turned (t' := s'.toks) (fun b o hb e => (sb.2 b hb).trans e) fC.1 fC.2.1 fC.2.2.2.1 fC.2.2.2.2.1 fC.2.2.2.2.2
/-- y = [..]: the store comes ahead of the block's end -/
theorem ps_comp {i : Nat} {y : Str} {py spos : Pos} {elt target iter : Expr} {ifs : List Expr} {pos : Pos} {wi : TI} {g : TG} {tc : TT} {te : TE} (hc : X.calm = true) (CS : CompScope X scope own capt ix) (hi : PI X target iter wi)
    (hg : ∀ s H C fp, PG (X.comp s H (own ++ capt) scope C fp) target g) (hf : ∀ s H C fp, PF (X.comp s H (own ++ capt) scope C fp) ifs tc) (he : ∀ s H C fp, PE (X.comp s H (own ++ capt) scope C fp) elt te)
    (hN : X.N.Nodup := by assumption) (hiy : X.N[i]? = some y := by rfl) (hy : Loc X.env.scope y := by first | exact Or.inl rfl | exact Or.inr rfl) (hfn : X.fn y = true ∨ X.env.scope.names.lookup y = some .local := by first | exact .inl rfl | exact .inr rfl | assumption)
    (hsw : swapsWith (.ListComp elt [⟨target, iter, ifs, 0⟩] scope pos) (some (.Name y py)) spos.line X.env = pure true := by rfl)
    (hs : ∀ x, foldedSetIterable iter X.env x = pure x := by intro _; rfl) : PS X (.Assign [.Name y py] (.ListComp elt [⟨target, iter, ifs, 0⟩] scope pos) spos) (tAsg (tComp own.length ix wi g tc te) (gName i)) := by
  intro pins s σ H D I h
  rw [exec_Assign_Name_used _ _ _ _ hsw]
  refine wpAny_bind (wpAny_standAt (wpAny_bind ?_))
  show wpAny _ X.A (do let _ ← comprehension (.ListComp elt [⟨target, iter, ifs, 0⟩] scope pos) scope X.env _ (newList []) false (eval iter X.env) (some (assign (.Name y py) X.env))) _ _ s
  refine wpAny_bind (wpAny_mono (wpAny_comprehension_free (use := some (assign (.Name y py) X.env)) (Q := fun _ s' => SP X pins D .next s') rfl hs (clos_eq fun x hx hk => I.ok.has x.1 (.inl (CS.frees x hx hk))) CS.kind CS.locs
    (thn (hi pins s σ H _ I h) fun v s1 h1 => thn h1 fun itv s2 h2 => ?_)) (fun _ s' hq => wpAny_pure (wpAny_pure hq)) fun _ _ e => e)
  obtain ⟨it, fp, tn, J, H2, e, I2, T, st2, f2, hW⟩ := h2
  subst e
  refine comp_run (Q := fun x H1 => D.nx (σ.set i (some x)) H1) (RR := fun acc C => compPost (model X.prog X.w) X.A X.xe (some (assign (.Name y py) X.env)) (fun _ s' => SP X pins D .next s') acc C) I2 hc CS T st2 f2 hg hf he hW fun Dd C s' H' J' fC ⟨m, hn⟩ q => ?_
  show wpAny _ X.A (assign (.Name y py) X.env (.ref Dd)) _ _ _
  refine wpAny_assign_Name (store_ok2 J' hN hiy hy (v := .ref Dd) rfl (fun s'' I'' ⟨a, sa, ha⟩ => ?_) hfn)
  have hCa : C ≠ a := by
    rcases ha with z | z
    · rw [z]; exact fC.2.1
    · exact Ne.symm (fC.2.2.2.2.1 y a z)
  refine ⟨m, hn.sameBut sa hCa, fun h' sb => ⟨_, H', ?_, q⟩⟩
  exact I''.turned (t' := s''.toks) (fun b o hb e => (sb.2 b hb).trans e) fC.1 fC.2.1 fC.2.2.2.1 fC.2.2.2.2.1 fC.2.2.2.2.2
end
end L2

end

section
set_option maxHeartbeats 1000000
/-! enumerate and zip of lists, walked by a tuple of names. -/
namespace L2
open PySem PySem.Spec PyProof.Rows
section
variable {X : Cx} {pins : List (Addr × Obj)} {σ : St} {H : Hp} {s : Shared}
end
section
variable {X : Cx} {elts : List Expr} {k : Nat} {tp : Pos}
end
end L2

end

section
set_option maxHeartbeats 1000000
/-! ONE RULE FOR EACH OPERATION: ==, !=, +, []; texts with fields; global numbers. -/
namespace L2
open PySem PySem.Spec PyProof.Rows
section
variable {X : Cx}
/-- what is equal to itself -/
def plainV : V → Bool
  | .flt _ => false
  | .byt _ => false
  | _ => true
theorem eq_same {A : Around} {s : Shared} {v : V} {u u' : Value} (r : RelV v u) (r' : RelV v u') (h : plainV v = true) : SeqAt.EqAt A s u u' true := by
  cases v with
  | non => cases r; cases r'; exact .same _
  | bl _ => cases r; cases r'; exact .same _
  | int i =>
    obtain ⟨t, rfl⟩ := r
    obtain ⟨t', rfl⟩ := r'
    have := SeqAt.EqAt.int_int (A := A) (s := s) i t i t'
    rwa [beq_self_eq_true] at this
  | str x =>
    obtain ⟨t, rfl⟩ := r
    obtain ⟨t', rfl⟩ := r'
    have := SeqAt.EqAt.str_str (A := A) (s := s) x t x t'
    rwa [beq_self_eq_true] at this
  | byt _ => cases h
  | flt _ => cases h
  | ref _ => cases r; cases r'; exact .same _
  | ty _ => cases r; cases r'; exact .same _
/-- two lists (or tuples) of the very same things -/
def TwoSame (K : PySem.W.Frag) (x y : V) (H : Hp) : Prop := ∃ a b xs, x = .ref a ∧ y = .ref b ∧ ((SqL K H a xs ∧ SqL K H b xs) ∨ (SqT K H a xs ∧ SqT K H b xs)) ∧ xs.all plainV = true
theorem vals_same {A : Around} {s : Shared} {xs : List V} {us us' : List Value} (r : Vals xs us) (r' : Vals xs us') (h : xs.all plainV = true) : ∀ j (h1 : j < us.toArray.size) (h2 : j < us'.toArray.size), SeqAt.EqAt A s us.toArray[j] us'.toArray[j] true := fun j h1 h2 => by
  have l1 := r.length
  have l2 := r'.length
  have hj : j < xs.length := by simp at h1; omega
  have hx : xs[j]? = some xs[j] := by simp [hj]
  obtain ⟨u, e1, q1⟩ := r.get hx
  obtain ⟨u', e2, q2⟩ := r'.get hx
  have p : plainV xs[j] = true := List.all_eq_true.mp h _ (List.getElem_mem hj)
  obtain ⟨_, e1'⟩ := List.getElem?_eq_some_iff.mp e1
  obtain ⟨_, e2'⟩ := List.getElem?_eq_some_iff.mp e2
  have := eq_same (A := A) (s := s) q1 q2 p
  rw [← e1', ← e2'] at this
  simpa using this
theorem all_true {n : Nat} : (List.range n).all (fun _ => true) = true := by simp
theorem op_eqS (hu : X.A.units + 64 < cLine) : OpR X (compareOp .Eq) (fun x y H Q => TwoSame X.K x y H ∧ Q (.bl true) H) := by
  intro pins s σ H x y v u Q I rx ry h
  obtain ⟨⟨a, b, xs, rfl, rfl, h, pl⟩, q⟩ := h
  cases rx
  cases ry
  rcases h with ⟨h1, h2⟩ | ⟨h1, h2⟩
  · obtain ⟨its, r1, p1, _⟩ := I.list h1
    obtain ⟨its2, r2, p2, _⟩ := I.list h2
    have e := r1.length.symm.trans r2.length
    refine SeqAt.eq_listAt p1.isList p2.isList (by simp; omega) (by omega) (vals_same r1 r2 pl) ?_
    rw [all_true]
    exact ⟨.bl true, H, I, rfl, q⟩
  · obtain ⟨its, r1, p1, _⟩ := I.tuple h1
    obtain ⟨its2, r2, p2, _⟩ := I.tuple h2
    have e := r1.length.symm.trans r2.length
    refine SeqAt.eq_tupleAt (show s.heap.IsTuple a its.toArray from p1) (show s.heap.IsTuple b its2.toArray from p2) (by omega) (vals_same r1 r2 pl) ?_
    rw [all_true]
    have e2 : (its.toArray.size == its2.toArray.size) = true := by simp [e]
    rw [e2]
    exact ⟨.bl true, H, I, rfl, q⟩
theorem op_neS (hu : X.A.units + 64 < cLine) : OpR X (compareOp .NotEq) (fun x y H Q => TwoSame X.K x y H ∧ Q (.bl false) H) := by
  intro pins s σ H x y v u Q I rx ry h
  obtain ⟨⟨a, b, xs, rfl, rfl, h, pl⟩, q⟩ := h
  cases rx
  cases ry
  rcases h with ⟨h1, h2⟩ | ⟨h1, h2⟩
  · obtain ⟨its, r1, p1, _⟩ := I.list h1
    obtain ⟨its2, r2, p2, _⟩ := I.list h2
    have e := r1.length.symm.trans r2.length
    have k := SeqAt.RcNeAt.lists (A := X.A) p1.isList p2.isList (by simp; omega) (by omega) (vals_same r1 r2 pl)
    rw [all_true] at k
    exact k X.prog X.w X.xe _ ⟨.bl false, H, I, rfl, q⟩
  · obtain ⟨its, r1, p1, _⟩ := I.tuple h1
    obtain ⟨its2, r2, p2, _⟩ := I.tuple h2
    have e := r1.length.symm.trans r2.length
    have k := SeqAt.RcNeAt.tuples (A := X.A) (show s.heap.IsTuple a its.toArray from p1) (show s.heap.IsTuple b its2.toArray from p2) (by omega) (vals_same r1 r2 pl)
    have e2 : (its.toArray.size == its2.toArray.size) = true := by simp [e]
    rw [all_true, e2] at k
    exact k X.prog X.w X.xe _ ⟨.bl false, H, I, rfl, q⟩
/-- == and != of anything -/
def rEqA (K : PySem.W.Frag) : R2 := fun x y H Q => rEq x y H Q ∨ rEqD K x y H Q ∨ (TwoSame K x y H ∧ Q (.bl true) H)
def rNeA (K : PySem.W.Frag) : R2 := fun x y H Q => rNe x y H Q ∨ rNeD K x y H Q ∨ (TwoSame K x y H ∧ Q (.bl false) H)
theorem op_eqA (hu : X.A.units + 64 < cLine) : OpR X (compareOp .Eq) (rEqA X.K) := op_eq.or ((op_eqD hu).or (op_eqS hu))
theorem op_neA (hu : X.A.units + 64 < cLine) : OpR X (compareOp .NotEq) (rNeA X.K) := op_ne.or ((op_neD hu).or (op_neS hu))
/-- + of ints, lists, tuples, texts -/
def rAddA (K : PySem.W.Frag) : R2 := fun x y H Q => rI0 (fun i j => .int (i + j)) x y H Q ∨ rCatS K x y H Q ∨ rCatT K x y H Q ∨ ∃ i j, x = .str i ∧ y = .str j ∧ i.length + j.length ≤ sizeLine ∧ Q (.str (i ++ j)) H
theorem op_addA : OpR X (binaryOp .Add) (rAddA X.K) := op_add.or (op_catS.or (op_catT.or op_add_str))
variable {σ : St} {H : Hp} {Q : VK} {K : PySem.W.Frag}
theorem s_eqAI {i j : Int} (q : Q (.bl (decide (i = j))) H) : rEqA K (.int i) (.int j) H Q := .inl (s_eqI q)
theorem s_neAI {i j : Int} (q : Q (.bl (!decide (i = j))) H) : rNeA K (.int i) (.int j) H Q := .inl (s_neI q)
theorem s_eqAB {i j : Bool} (q : Q (.bl (decide (i = j))) H) : rEqA K (.bl i) (.bl j) H Q := .inl (s_eqB q)
theorem s_addI {i j : Int} (q : Q (.int (i + j)) H) : rAddA K (.int i) (.int j) H Q := .inl ⟨i, j, rfl, rfl, q⟩
theorem s_catL {a b : Addr} {xs ys : List V} (h1 : SqL K H a xs) (h2 : SqL K H b ys) (hl : xs.length + ys.length ≤ sizeLine) (q : ∀ p H', H p = none → Same H H' → H' p = some (.lst (xs ++ ys)) → Q (.ref p) H') : rAddA K (.ref a) (.ref b) H Q :=
  .inr (.inl ⟨a, b, xs, ys, rfl, rfl, h1, h2, hl, fun p hp => q p _ hp (Same.new hp) upd_same⟩)
theorem s_ixSL {p : Addr} {xs : List V} {i : Int} {v : V} (h : SqL K H p xs) (e : atI xs i = some v) (q : Q v H) : rIx K (.ref p) (.int i) H Q := .inl (s_ixL h e q)
theorem s_ixST {p : Addr} {xs : List V} {i : Int} {v : V} (h : SqT K H p xs) (e : atI xs i = some v) (q : Q v H) : rIx K (.ref p) (.int i) H Q := .inr (.inl (s_ixT h e q))
def rLen (K : PySem.W.Frag) : List V → Hp → VK → Prop := fun xs H Q => ∃ x n, xs = [x] ∧ LenV K x H n ∧ Q (.int n) H
def rAbs : List V → Hp → VK → Prop := fun xs H Q => ∃ i, xs = [.int i] ∧ Q (.int (if i < 0 then -i else i)) H
def rMax2 : List V → Hp → VK → Prop := fun xs H Q => ∃ i j, xs = [.int i, .int j] ∧ Q (.int (if j > i then j else i)) H
def rListOf (K : PySem.W.Frag) : List V → Hp → VK → Prop := fun xs H Q => ∃ p ys, xs = [.ref p] ∧ (SqL K H p ys ∨ SqT K H p ys) ∧ ∀ l, H l = none → Q (.ref l) (upd H l (.lst ys))
def rNotN : R2 := fun x y H Q => y = .non ∧ Q (.bl (!decide (x = .non))) H
theorem s_lenL {p : Addr} {xs : List V} (h : SqL K H p xs) (q : Q (.int xs.length) H) : rLen K [.ref p] H Q := ⟨_, _, rfl, .inl ⟨xs, h, rfl⟩, q⟩
theorem s_lenT {p : Addr} {xs : List V} (h : SqT K H p xs) (q : Q (.int xs.length) H) : rLen K [.ref p] H Q := ⟨_, _, rfl, .inr ⟨xs, h, rfl⟩, q⟩
theorem s_abs1 {i : Int} (q : Q (.int (if i < 0 then -i else i)) H) : rAbs [.int i] H Q := ⟨i, rfl, q⟩
theorem s_max2 {i j : Int} (q : Q (.int (if j > i then j else i)) H) : rMax2 [.int i, .int j] H Q := ⟨i, j, rfl, q⟩
theorem s_notN {x : V} (q : Q (.bl (!decide (x = .non))) H) : rNotN x .non H Q := ⟨rfl, q⟩
/-- list(xs): a new list -/
theorem s_listL {p : Addr} {xs : List V} (h : SqL K H p xs) (q : ∀ l H', H l = none → Same H H' → H' l = some (.lst xs) → Q (.ref l) H') : rListOf K [.ref p] H Q := ⟨p, xs, rfl, .inl h, fun l hl => q l _ hl (Same.new hl) upd_same⟩
/-- a global number -/
theorem pe_gi {x : Str} {i : Int} {pos : Pos} (hm : ∃ t, X.mg x = some (.int i t)) (hg : Gl X x := by rfl) (hd : (x == ("__debug__" : Str)) = false := by decide) : PE X (.Name x pos) (tC (.int i)) := by
  obtain ⟨t, hm⟩ := hm
  exact pe_glob hg hm ⟨t, rfl⟩ hd
/-! ### f".." -/
end
end L2

end

section
set_option maxHeartbeats 1000000
/-! LOOPS AND BLOCKS by what holds between two turns. -/
namespace L2
open PySem PySem.Spec PyProof.Rows
theorem Same.updN {H H1 : Hp} {l : Addr} {o : HO} (s : Same H H1) (n : H l = none) : Same H (upd H1 l o) := fun b u e => by
  rw [upd_ne (ne_of_none e n)]
  exact s b u e
/-- the loop's own part -/
def ForW (J : It) (g : TG) (tb : TS) (D : Ends) (σ : St) (H : Hp) : Prop := ∃ W : Nat → Nat → St → Hp → Prop, (∃ m, W 0 m σ H) ∧ ∀ i m σ H, W i m σ H →
  (J.stop i H ∧ D.nx σ H) ∨ (J.go i H ∧ ∃ N : St → Hp → Prop, (∀ σ' H', N σ' H' → ∃ m', m' < m ∧ W (i + 1) m' σ' H') ∧ ∀ x H', J.yld i H x H' → g x σ H' fun σ2 H2 => tb { D with nx := N, ct := N, bk := D.nx } σ2 H2)
/-- a block's own part -/
def CompW (J : It) (acc : Addr) (g : TG) (tc : TT) (te : TE) (σ : St) (H : Hp) (Q : VK) : Prop := ∃ W : Nat → Nat → St → Hp → Prop, (∃ m, W 0 m σ (upd H acc (.lst []))) ∧
  ∀ i m σ' H', W i m σ' H' → (J.stop i H' ∧ Q (.ref acc) H') ∨ (J.go i H' ∧ ∃ N : St → Hp → Prop, (∀ σ2 H2, N σ2 H2 → ∃ m', m' < m ∧ W (i + 1) m' σ2 H2) ∧
    ∀ x H2, J.yld i H' x H2 → g x σ' H2 fun σ3 H3 => tc σ3 H3 fun ok H4 => if ok = true then te σ3 H4 fun v H5 => ∃ ys, H5 acc = some (.lst ys) ∧ ys.length < sizeLine ∧ N σ3 (upd H5 acc (.lst (ys ++ [v]))) else N σ3 H4)
def jList (K : PySem.W.Frag) (x : V) (H : Hp) (R : It → Hp → Prop) : Prop := ∃ a, x = .ref a ∧ (∃ xs, SqL K H a xs) ∧ R (Itl K a) H
def jR1 (vs : List V) (H : Hp) (R : It → Hp → Prop) : Prop := ∃ j : Int, vs = [.int j] ∧ -(2 ^ 62) ≤ j ∧ j < 2 ^ 62 ∧ R (Itr 0 j.toNat) H
section
variable {K : PySem.W.Frag} {σ : St} {H : Hp} {R : It → Hp → Prop} {tl te : TE} {ta : TA} {a b : Addr} {xs ys : List V} {wi : TI} {g : TG} {tb : TS} {D : Ends} {tc : TT} {n : Nat} {ix : List Nat} {Q : VK}
theorem s_for (h : wi σ H fun J H1 => ForW J g tb D σ H1) : tFor wi g tb D σ H := h
theorem s_comp {σ' : St} (e : capV n ix σ = σ') (h : wi σ H fun J H1 => ∀ acc, H1 acc = none → CompW J acc g tc te σ' H1 Q) : tComp n ix wi g tc te σ H Q := by
  subst e
  exact h
theorem s_iList (h : tl σ H fun x H1 => jList K x H1 R) : iList K tl σ H R := h
theorem s_iR1 (h : ta σ H fun vs H1 => jR1 vs H1 R) : iRng1 ta σ H R := h
theorem s_jList (h : SqL K H a xs) (q : R (Itl K a) H) : jList K (.ref a) H R := ⟨a, rfl, ⟨xs, h⟩, q⟩
theorem s_jR1 {j : Int} (h : -(2 ^ 62) ≤ j ∧ j < 2 ^ 62) (q : R (Itr 0 j.toNat) H) : jR1 [.int j] H R := ⟨j, rfl, h.1, h.2, q⟩
/-- slices -/
theorem s_sl {r : V → Option Int → Option Int → Hp → VK → Prop} {lo hi : TO} (h : te σ H fun x H1 => lo σ H1 fun l H2 => hi σ H2 fun u H3 => r x l u H3 Q) : tSl r te lo hi σ H Q := h
theorem s_noPart {P : Option Int → Hp → Prop} (h : P none H) : tNoPart σ H P := h
theorem s_part {P : Option Int → Hp → Prop} (h : te σ H fun x H1 => ∃ i, x = .int i ∧ P (some i) H1) : tPart te σ H P := h
theorem s_exI {P : Int → Prop} {i : Int} (h : P i) : ∃ j, V.int i = .int j ∧ P j := ⟨i, rfl, h⟩
theorem s_slL {lo hi : Option Int} (h : SqL K H a xs) (q : ∀ p H', H p = none → Same H H' → H' p = some (.lst (cutV xs lo hi)) → Q (.ref p) H') : rSlL K (.ref a) lo hi H Q := ⟨a, xs, rfl, h, fun p hp => q p _ hp (Same.new hp) upd_same⟩
theorem cut_to {k : Nat} : cutV xs none (some (k : Int)) = xs.take k := by
  unfold cutV
  rw [HT.sIx_none, HT.sIx_nat, List.drop_zero, Nat.sub_zero, Nat.min_comm]
  rw [← List.take_take]
  exact List.take_of_length_le (by rw [List.length_take]; omega)
theorem cut_from {k : Nat} : cutV xs (some (k : Int)) none = xs.drop k := by
  unfold cutV
  rw [HT.sIx_none, HT.sIx_nat]
  by_cases h : k ≤ xs.length
  · rw [Nat.min_eq_left h]
    exact List.take_of_length_le (by rw [List.length_drop]; omega)
  · rw [Nat.min_eq_right (by omega), List.drop_length, List.take_nil]
    exact (List.drop_eq_nil_of_le (by omega)).symm
theorem s_gt5 {t : Addr} {v1 v2 v3 v4 v5 : V} {i1 i2 i3 i4 i5 : Nat} {σ' : St} {P : St → Hp → Prop} (h : SqT K H t [v1, v2, v3, v4, v5]) (e : ((((σ.set i1 (some v1)).set i2 (some v2)).set i3 (some v3)).set i4 (some v4)).set i5 (some v5) = σ') (q : P σ' H) :
    gTup K 5 (gCons (gName i1) (gCons (gName i2) (gCons (gName i3) (gCons (gName i4) (gCons (gName i5) gNil))))) (.ref t) σ H P := by
  subst e
  exact ⟨t, [v1, v2, v3, v4, v5], rfl, h, rfl, v1, _, rfl, v2, _, rfl, v3, _, rfl, v4, _, rfl, v5, _, rfl, rfl, q⟩
theorem s_asgG (h : te σ H fun x H1 => g x σ H1 D.nx) : tAsg te g D σ H := h
/-- xs[k] = v -/
theorem s_gsub {to ti : TE} {v : V} {P : St → Hp → Prop} (h : to σ H fun o H1 => ti σ H1 fun i H2 => rSetL o i v H2 fun H3 => P σ H3) : gSub to ti rSetL v σ H P := h
theorem s_setL {p : Addr} {k : Nat} {v : V} {P : Hp → Prop} (h : H p = some (.lst xs)) (hk : k < xs.length) (q : P (upd H p (.lst (xs.set k v)))) : rSetL (.ref p) (.int (k : Int)) v H P := by
  refine ⟨p, xs, _, k, rfl, rfl, h, ?_, q⟩
  unfold ixN
  rw [if_pos (by omega), if_pos (by omega)]
  rfl
end
section
variable {K : PySem.W.Frag} {a b acc : Addr} {xs ys : List V} {g : TG} {tb : TS} {tc : TT} {te : TE} {D : Ends} {σ : St} {H : Hp} {Q : VK} {lo : Int} {n : Nat}
/-- what a turn of a block comes to -/
abbrev blk (acc : Addr) (tc : TT) (te : TE) (N : St → Hp → Prop) : St → Hp → Prop := fun σ3 H3 => tc σ3 H3 fun ok H4 => if ok = true then te σ3 H4 fun v H5 => ∃ ys, H5 acc = some (.lst ys) ∧ ys.length < sizeLine ∧ N σ3 (upd H5 acc (.lst (ys ++ [v]))) else N σ3 H4
theorem comp_range (Pv : Nat → St → Hp → Prop) (h0 : Pv 0 σ (upd H acc (.lst []))) (hs : ∀ i σ H, i < n → Pv i σ H → g (.int (lo + i)) σ H (blk acc tc te (Pv (i + 1)))) (hd : ∀ σ H, Pv n σ H → Q (.ref acc) H) :
    ∃ W : Nat → Nat → St → Hp → Prop, (∃ m, W 0 m σ (upd H acc (.lst []))) ∧ ∀ i m σ' H', W i m σ' H' → ((Itr lo n).stop i H' ∧ Q (.ref acc) H') ∨ ((Itr lo n).go i H' ∧ ∃ N : St → Hp → Prop, (∀ σ2 H2, N σ2 H2 → ∃ m', m' < m ∧ W (i + 1) m' σ2 H2) ∧
      ∀ x H2, (Itr lo n).yld i H' x H2 → g x σ' H2 (blk acc tc te N)) := by
  refine ⟨fun i m σ H => m = n - i ∧ i ≤ n ∧ Pv i σ H, ⟨n, by simp, Nat.zero_le _, h0⟩, ?_⟩
  rintro i m σ' H' ⟨rfl, hi, p⟩
  by_cases hlt : i < n
  · refine .inr ⟨hlt, Pv (i + 1), fun σ2 H2 p' => ⟨n - (i + 1), by omega, rfl, hlt, p'⟩, fun x H2 y => ?_⟩
    obtain ⟨e, y⟩ := y
    subst e y
    exact hs i σ' _ hlt p
  · have e : i = n := by omega
    subst e
    exact .inl ⟨Nat.le_refl _, hd σ' H' p⟩
end
end L2

end

section
set_option maxHeartbeats 1000000
/-! MORE BUILTINS: sum, any, all, sorted. -/
namespace L2
open PySem PySem.Spec PyProof.Rows
section
variable {X : Cx}
/-- int(i), int(b) -/
def rInt1 : List V → Hp → VK → Prop := fun xs H Q => (∃ i, xs = [.int i] ∧ Q (.int i) H) ∨ ∃ k, xs = [.bl k] ∧ Q (.int (if k then 1 else 0)) H
end
end L2

end

/-! LEAST SUMS OF TIMES: rounds over all roads; what holds behind them. -/
namespace Bf
section
variable {n st : Nat} {rs : List Ed}
end
end Bf

section
set_option maxHeartbeats 1000000
/-! MORE STEPS: blocks over enumerate and zip, +=, isinstance of a tuple wherever it lies; lists of things item by item; deep data. -/
namespace L2
open PySem PySem.Spec PyProof.Rows
/-! ### item by item -/
inductive All2 {α β : Type} (R : α → β → Prop) : List α → List β → Prop where
  | nil : All2 R [] []
  | cons {a : α} {b : β} {as : List α} {bs : List β} : R a b → All2 R as bs → All2 R (a :: as) (b :: bs)
namespace All2
variable {α β : Type} {R S : α → β → Prop} {as as' : List α} {bs bs' : List β}
theorem len (h : All2 R as bs) : as.length = bs.length := by
  induction h with
  | nil => rfl
  | cons _ _ ih => simp [ih]
theorem imp (f : ∀ a b, R a b → S a b) (h : All2 R as bs) : All2 S as bs := by
  induction h with
  | nil => exact .nil
  | cons r _ ih => exact .cons (f _ _ r) ih
theorem get (h : All2 R as bs) : ∀ {i : Nat} {a : α}, as[i]? = some a → ∃ b, bs[i]? = some b ∧ R a b := by
  induction h with
  | nil => intro i a e; simp at e
  | cons r _ ih =>
    intro i a e
    cases i with
    | zero => simp at e; subst e; exact ⟨_, rfl, r⟩
    | succ i => exact ih (by simpa using e)
theorem append (h : All2 R as bs) (h' : All2 R as' bs') : All2 R (as ++ as') (bs ++ bs') := by
  induction h with
  | nil => exact h'
  | cons r _ ih => exact .cons r ih
theorem one {a : α} {b : β} (r : R a b) : All2 R [a] [b] := .cons r .nil
theorem push {a : α} {b : β} (h : All2 R as bs) (r : R a b) : All2 R (as ++ [a]) (bs ++ [b]) := h.append (one r)
theorem set {a : α} {b : β} (h : All2 R as bs) (r : R a b) : ∀ i, All2 R (as.set i a) (bs.set i b) := by
  induction h with
  | nil => intro i; exact .nil
  | cons r' t ih =>
    intro i
    cases i with
    | zero => exact .cons r t
    | succ i => exact .cons r' (ih i)
theorem take (h : All2 R as bs) : ∀ n, All2 R (as.take n) (bs.take n) := by
  induction h with
  | nil => intro n; simp; exact .nil
  | cons r _ ih =>
    intro n
    cases n with
    | zero => exact .nil
    | succ n => exact .cons r (ih n)
theorem drop (h : All2 R as bs) : ∀ n, All2 R (as.drop n) (bs.drop n) := by
  induction h with
  | nil => intro n; simp; exact .nil
  | cons r t ih =>
    intro n
    cases n with
    | zero => exact .cons r t
    | succ n => exact ih n
end All2
/-! ### deep data -/
def PD (n : Nat) (d : PyData) : Prop := d.canLay0 = true ∧ d.depth ≤ n
theorem PD.int {n : Nat} (i : Int) : PD n (.int i) := ⟨rfl, Nat.zero_le _⟩
theorem PD.bool {n : Nat} (i : Bool) : PD n (.bool i) := ⟨rfl, Nat.zero_le _⟩
theorem pdAll {n : Nat} : ∀ {ds : List PyData}, (∀ d ∈ ds, PD n d) → PyData.canLayAll0 ds = true ∧ PyData.depthAll ds ≤ n
  | [], _ => ⟨rfl, Nat.zero_le _⟩
  | d :: ds, h => by
    obtain ⟨a, b⟩ := h d (by simp)
    obtain ⟨c, e⟩ := pdAll (ds := ds) fun x hx => h x (List.mem_cons_of_mem _ hx)
    constructor
    · show (d.canLay0 && PyData.canLayAll0 ds) = true
      rw [a, c]
      rfl
    · show max d.depth (PyData.depthAll ds) ≤ n
      omega
theorem PD.list {n : Nat} {ds : List PyData} (h : ∀ d ∈ ds, PD n d) : PD (n + 1) (.list ds) := ⟨(pdAll h).1, Nat.succ_le_succ (pdAll h).2⟩
theorem PD.tuple {n : Nat} {ds : List PyData} (h : ∀ d ∈ ds, PD n d) : PD (n + 1) (.tuple ds) := ⟨(pdAll h).1, Nat.succ_le_succ (pdAll h).2⟩
theorem PD.shaped {n : Nat} {d : PyData} (h : PD n d) (hn : n ≤ 64 := by decide) : SeqAt.shaped d = true := by
  show (d.canLay0 && decide (d.depth ≤ 64)) = true
  rw [h.1, decide_eq_true (Nat.le_trans h.2 hn)]
  rfl
mutual
theorem eqv_self : ∀ (d : PyData), d.canLay0 = true → PyData.eqv d d = true
  | .none, _ => rfl
  | .bool b, _ => by show (b == b) = true; simp
  | .int b, _ => by show (b == b) = true; simp
  | .str b, _ => by show (b == b) = true; exact beq_self_eq_true b
  | .list ds, h => eqvAll_self ds h
  | .tuple ds, h => eqvAll_self ds h
  | .dict _, h => by cases h
theorem eqvAll_self : ∀ (ds : List PyData), PyData.canLayAll0 ds = true → PyData.eqvAll ds ds = true
  | [], _ => rfl
  | d :: ds, h => by
    have h' : (d.canLay0 && PyData.canLayAll0 ds) = true := h
    rw [Bool.and_eq_true] at h'
    show (PyData.eqv d d && PyData.eqvAll ds ds) = true
    rw [eqv_self d h'.1, eqvAll_self ds h'.2]
    rfl
end
theorem s_neSame {K : PySem.W.Frag} {H : Hp} {Q : VK} {x y : V} {d : PyData} {n : Nat} (h1 : Rp K H x d) (h2 : Rp K H y d) (p : PD n d) (q : Q (.bl false) H) (hn : n ≤ 64 := by decide) : rNeA K x y H Q :=
  .inr (.inl ⟨d, d, h1, h2, p.shaped hn, p.shaped hn, by rw [eqv_self d p.1]; exact q⟩)
/-! ### isinstance of a tuple wherever it lies -/
section
variable {X : Cx}
end
/-! ### steps -/
section
variable {K : PySem.W.Frag} {a b acc : Addr} {xs ys : List V} {g : TG} {tb : TS} {tc : TT} {te to ti : TE} {D : Ends} {σ : St} {H : Hp} {Q : VK}
theorem s_int1 {k : Bool} (q : Q (.int (if k then 1 else 0)) H) : rInt1 [.bl k] H Q := .inr ⟨k, rfl, q⟩
theorem s_bm {T : String} {r : V → List V → Hp → VK → Prop} {t : TA} (h : to σ H fun x H1 => tyV K T x H1 ∧ t σ H1 fun xs H2 => r x xs H2 Q) : tBM K T r to t σ H Q := h
/-- the list as a receiver -/
theorem s_tyL {l : Addr} {P : Prop} (h : SqL K H l xs) (q : P) : tyV K "list" (.ref l) H ∧ P := ⟨.inl ⟨rfl, _, h⟩, q⟩
theorem s_app {l : Addr} {y : V} (h : H l = some (.lst xs)) (hl : xs.length < sizeLine) (q : Q .non (upd H l (.lst (xs ++ [y])))) : rAppend (.ref l) [y] H Q := ⟨l, xs, y, rfl, rfl, h, hl, q⟩
/-- a block's condition and its item -/
theorem blkC {N : St → Hp → Prop} (h : tc σ H fun ok H4 => if ok = true then te σ H4 fun v H5 => ∃ ys, H5 acc = some (.lst ys) ∧ ys.length < sizeLine ∧ N σ (upd H5 acc (.lst (ys ++ [v]))) else N σ H4) : blk acc tc te N σ H := h
theorem blkN {N : St → Hp → Prop} (h : te σ H fun v H5 => ∃ ys, H5 acc = some (.lst ys) ∧ ys.length < sizeLine ∧ N σ (upd H5 acc (.lst (ys ++ [v])))) : blk acc tNoIf te N σ H := show (if true = true then _ else N σ H) from iteT h
theorem compR {lo : Int} {n : Nat} (Pv : Nat → St → Hp → Prop) (h0 : Pv 0 σ (upd H acc (.lst []))) (hs : ∀ i σ H, i < n → Pv i σ H → g (.int (lo + i)) σ H (blk acc tc te (Pv (i + 1)))) (hd : ∀ σ H, Pv n σ H → Q (.ref acc) H) : CompW (Itr lo n) acc g tc te σ H Q := comp_range Pv h0 hs hd
end
end L2

end

section
set_option maxHeartbeats 1000000
/-! SORTED, of lists of lists of whole numbers: the order of two such lists; the short sort by any order at one state. -/
namespace L2
open PySem PySem.Spec PyProof.Rows PySem.W

/-! ### the tree of the short sort, by any order at one state -/
section
variable {lt : Nat → Nat → Bool} {n : Nat}
end
end L2

end

section
set_option maxHeartbeats 1000000
namespace L2
open PySem PySem.Spec PyProof.Rows PySem.W

section
variable {X : Cx}
end
end L2

end

section
set_option maxHeartbeats 1000000
/-! SORTED, of lists of whole numbers none of which stands twice: what comes out is in order. -/
namespace L2
open PySem PySem.Spec PyProof.Rows PySem.W
section
variable {lt : Nat → Nat → Bool} {n : Nat} {p : Array Nat}
end
end L2

end

section
set_option maxHeartbeats 1000000
namespace L2
open PySem PySem.Spec PyProof.Rows PySem.W

section
variable {X : Cx}
end
end L2

end

section
set_option maxHeartbeats 1000000
/-! xs[::-1]: a list of its own items; steps for repeated lists. -/
namespace L2
open PySem PySem.Spec PyProof.Rows
section
variable {X : Cx}
theorem vals_pick {xs : List V} {us : List Value} (r : Vals xs us) : ∀ (ix : List Nat), Vals (ix.filterMap fun i => xs[i]?) (ix.filterMap fun i => us[i]?)
  | [] => .nil
  | i :: ix => by
    have ih := vals_pick r ix
    cases e : xs[i]? with
    | none =>
      have e2 : us[i]? = none := by
        have := r.length
        simp at e ⊢
        omega
      rw [List.filterMap_cons_none e, List.filterMap_cons_none e2]
      exact ih
    | some x =>
      obtain ⟨u, e2, ru⟩ := r.get e
      rw [List.filterMap_cons_some e, List.filterMap_cons_some e2]
      exact .cons ru ih
end
section
variable {K : PySem.W.Frag} {σ : St} {H : Hp} {Q : VK} {te : TE} {ts : TO} {a : Addr} {xs : List V}
end
end L2

end

section
set_option maxHeartbeats 1000000
/-! Defs that call themselves; xs[a:b:7]. -/
namespace L2
open PySem PySem.Spec PyProof.Rows
section
variable {X : Cx}
end
section
variable {K : PySem.W.Frag} {σ : St} {H : Hp} {Q : VK} {te : TE} {tl th ts : TO} {a : Addr} {xs : List V}
end
/-- a def that calls itself: what is promised of it with d more steps rests on what is promised with d -/
theorem rec_cal {P : Program} {w : World} {K : PySem.W.Frag} {mg : Str → Option Value} {base : Heap} {x : Str} {f : Addr} {fd : FuncData} {ps : List Str} {sp : Nat → Sp} (z : ∀ vs H Q E, sp 0 vs H Q E → False)
    (F : ∀ d, Cal P w K mg base CX0 d x (sp d) → FnOk P w K mg base CX0 (d + 1) f fd ps (sp (d + 1))) (hm : mg x = some (.ref f)) (hk : PySem.W.keepIn K (.ref f) = true) (hb : Binds K fd ps []) : ∀ d, Cal P w K mg base CX0 d x (sp d)
  | 0 => ⟨f, fd, ps, ⟨fun vs H Q E h => (z vs H Q E h).elim, fun _ _ _ _ _ _ vs Q E _ _ _ _ h => (z vs _ Q E h).elim⟩, hm, hk, hb⟩
  | d + 1 => ⟨f, fd, ps, F d (rec_cal z F hm hk hb d), hm, hk, hb⟩
end L2

end

section
set_option maxHeartbeats 1000000
/-! a, b = a list; xs[a:b:13]; isinstance(x, (tuple, list)). -/
namespace L2
open PySem PySem.Spec PyProof.Rows
theorem isList_but {h h' : Heap} {a b : Addr} {items : Array Value} (hn : a ≠ b) (s : Heap.SameBut b h h') (l : h.IsList a items) : h'.IsList a items := by
  obtain ⟨o, e, r⟩ := l
  exact ⟨o, s.extBut a o hn e, r⟩
theorem draw_list {prog : Program} {w : World} {A : Around} {E : Value → Shared → Prop} {it t : Addr} {items : Array Value} (hn : t ≠ it) : ∀ (n i : Nat) (s : Shared) (Q : List Value → Shared → Prop), s.heap.IsListIter it t i → s.heap.IsList t items → i + n ≤ items.size →
    (∀ h' : Heap, h'.IsListIter it t (i + n) → Heap.SameBut it s.heap h' → Q (List.take n (List.drop i items.toList)) { s with heap := h' }) → wpAny (model prog w) A (draw (.ref it) n) Q E s
  | 0, i, s, Q, hi, hl, hz, q => by
    unfold draw
    refine wpAny_pure ?_
    have := q s.heap hi (Heap.SameBut.refl _ _)
    simpa using this
  | n + 1, i, s, Q, hi, hl, hz, q => by
    unfold draw
    have hx : items[i]? = some (items[i]'(by omega)) := by simp
    refine wpAny_bind (wpAny_pyNext_list_item hi hl hx fun h1 i1 s1 => ?_)
    dsimp only
    refine wpAny_bind (wpAny_holding (draw_list hn n (i + 1) _ _ i1 (isList_but hn s1 hl) (by omega) fun h2 i2 s2 => wpAny_pure ?_))
    have := q h2 (by rw [show i + (n + 1) = i + 1 + n by omega]; exact i2) (s1.trans s2)
    have e : List.drop i items.toList = items[i]'(by omega) :: List.drop (i + 1) items.toList := by
      rw [List.drop_eq_getElem_cons (by simpa using (show i < items.size by omega))]
      simp
    rw [e, List.take_succ_cons] at this
    exact this
theorem unpackItems_list {prog : Program} {w : World} {A : Around} {E : Value → Shared → Prop} {s : Shared} {t : Addr} {items : Array Value} {Q : List Value → Shared → Prop} (hh : A.handled = none) (hl : s.heap.IsList t items)
    (hQ : ∀ h' : Heap, Heap.ExtBut s.heap.objs.size s.heap h' → Q items.toList { s with heap := h' }) : wpAny (model prog w) A (unpackItems (.ref t) items.size none) Q E s := by
  have hlt : t ≠ s.heap.objs.size := by
    obtain ⟨o, e, r⟩ := hl
    exact Nat.ne_of_lt (Heap.lt_size e)
  unfold unpackItems notIterableAtAll
  refine wpAny_bind (wpAny_bind (wpAny_specialOf hl.typeIs slot_list_iter.lookup ?_))
  simp only [Option.isSome_some, if_true]
  refine wpAny_pure ?_
  simp only [Bool.false_eq_true, if_false]
  refine wpAny_bind (wpAny_holding (wpAny_pyIter_list hl ?_))
  have hl1 : ((s.heap.push { cls := .type "list_iterator", data := .fields #[.ref t, .int 0 0] }).IsList t items) := by
    obtain ⟨o, e, r⟩ := hl
    exact ⟨o, Heap.get?_push_of_some _ e, r⟩
  have hi1 : ((s.heap.push { cls := .type "list_iterator", data := .fields #[.ref t, .int 0 0] }).IsListIter s.heap.objs.size t 0) := ⟨_, Heap.get?_push_size _ rfl, rfl, rfl⟩
  refine wpAny_bind (wpAny_holding (draw_list hlt items.size 0 _ _ hi1 hl1 (by omega) fun h' hi hs => ?_))
  have el : List.take items.size (List.drop 0 items.toList) = items.toList := by
    rw [List.drop_zero]
    exact List.take_of_length_le (by simp)
  rw [el, if_neg (by simp)]
  refine wpAny_bind (wpAny_holding (wpAny_pyNext_list_end hh hi (isList_but hlt hs hl1) (by simp) fun h2 h2e => ?_))
  simp only [Option.isSome_none, Bool.false_eq_true, if_false]
  refine wpAny_pure (hQ h2 ?_)
  exact Heap.ExtBut.trans (Heap.ExtBut.trans ((Heap.ExtBut.refl _ _).push _) hs.extBut) h2e
theorem assign_Tuple_list {prog : Program} {w : World} {A : Around} {E : Value → Shared → Prop} {s : Shared} {env : Env} {elts : List Expr} {k : Nat} {pos : Pos} {t : Addr} {items : Array Value} {Q : Unit → Shared → Prop} (hh : A.handled = none) (hl : s.heap.IsList t items)
    (hn : (assignEach elts env).length = items.size) (hst : (assignEach elts env).findIdx? (·.1) = none)
    (hQ : ∀ h' : Heap, Heap.ExtBut s.heap.objs.size s.heap h' → wpAny (model prog w) A (assignInOrder ((assignEach elts env).map (·.2)) items.toList) Q E { s with heap := h' }) : wpAny (model prog w) A (assign (.Tuple elts k pos) env (.ref t)) Q E s := by
  rw [assign_Tuple]
  refine wpAny_bind (wpAny_standAt ?_)
  unfold unpack
  rw [hst, hn]
  exact wpAny_bind (wpAny_holding (unpackItems_list hh hl hQ))

section
variable {X : Cx}
def gLst (K : PySem.W.Frag) (n : Nat) (t : TGs) : TG := fun v σ H Q => ∃ a xs, v = .ref a ∧ SqL K H a xs ∧ xs.length = n ∧ t xs σ H Q
theorem pg_lst {es : List Expr} {k : Nat} {t : TGs} {n : Nat} {pos : Pos} (hc : X.calm = true) (h : PGs X es t)
    (hn : (assignEach es X.env).length = n := by rfl) (hst : (assignEach es X.env).findIdx? (·.1) = none := by rfl) : PG X (.Tuple es k pos) (gLst X.K n t) := by
  intro pins s σ H v u Q I r hw
  obtain ⟨a, xs, e1, hq, hl, hw⟩ := hw
  subst e1
  cases r
  obtain ⟨its, rv, ht, hz⟩ := I.list hq
  refine assign_Tuple_list (I.ok.hd hc) ht.isList (by simp [hn, ← hl, rv.length]) hst fun h' hx => ?_
  have I1 : Inv X pins σ H { s with heap := h' } := I.kept (t' := s.toks) fun b o e => hx b o (Nat.ne_of_lt (Heap.lt_size e)) e
  exact h pins _ σ H xs _ Q I1 (by simpa using rv) hw
/-- xs[a:b:13]: some of its items -/
def rSlS (K : PySem.W.Frag) (x : V) (k : Option Int) (H : Hp) (Q : VK) : Prop := ∃ a xs, x = .ref a ∧ SqL K H a xs ∧ k = some 13 ∧ ∀ p ys, H p = none → ys.length ≤ xs.length → (∀ y ∈ ys, y ∈ xs) → Q (.ref p) (upd H p (.lst ys))
def tSlS (K : PySem.W.Frag) (te : TE) (tl th ts : TO) : TE := fun σ H Q => te σ H fun x H1 => tl σ H1 fun _ H2 => th σ H2 fun _ H3 => ts σ H3 fun k H4 => rSlS K x k H4 Q
theorem range13 (lo hi : Option Int) (n : Nat) : (sliceRange (sliceBounds lo hi (some 13) n).1 (sliceBounds lo hi (some 13) n).2.1 (sliceBounds lo hi (some 13) n).2.2).length ≤ n := by
  have h1 : 0 ≤ (sliceBounds lo hi (some 13) n).1 := by
    unfold sliceBounds
    cases lo <;> simp <;> omega
  have h2 : (sliceBounds lo hi (some 13) n).2.1 ≤ n := by
    unfold sliceBounds
    cases hi <;> simp <;> omega
  have h3 : (sliceBounds lo hi (some 13) n).2.2 = 13 := rfl
  rw [h3]
  generalize (sliceBounds lo hi (some 13) n).1 = a at h1
  generalize (sliceBounds lo hi (some 13) n).2.1 = b at h2
  unfold sliceRange
  dsimp only
  rw [List.length_map, List.length_range, if_pos (by decide)]
  split <;> omega
theorem pe_slS {e l h st : Expr} {te : TE} {tl th ts : TO} {p2 pos : Pos} (he : PE X e te) (hl : PO X (some l) tl) (hh : PO X (some h) th) (hs : PO X (some st) ts) (hlt : ∀ (o r : Value), letTemporaryGo e o r = pure () := by intros; rfl) : PE X (.Subscript e (.Slice (some l) (some h) (some st) p2) pos) (tSlS X.K te tl th ts) := by
  intro pins s σ H Q I hq
  refine wpAny_Subscript_Slice_step (T := "list") slot_list_getitem.lookup (thn (he pins s σ H _ I hq) fun v s1 ⟨x, H1, I1, r1, q1⟩ => ?_) hlt
  refine wpAny_Slice (thn (hl pins s1 σ H1 _ I1 q1) fun vl s2 ⟨l', H2, I2, pl, q2⟩ => thn (hh pins s2 σ H2 _ I2 q2) fun vu s3 ⟨u', H3, I3, pu, q3⟩ => ?_)
  refine thn (hs pins s3 σ H3 _ I3 q3) fun vs s4 ⟨k, H4, I4, ps, q4⟩ => ?_
  obtain ⟨a, xs, rfl, hx, rfl, q⟩ := q4
  cases r1
  have I5 : Inv X pins σ H4 { s4 with heap := s4.heap.push { cls := .type "slice", data := .fields #[vl, vu, vs] } } := I4.kept (t' := s4.toks) fun b ob q => Heap.get?_push_of_some _ q
  obtain ⟨its, r, ht, hz⟩ := I5.list hx
  have hlen := r.length
  refine ⟨ht.isList.typeIs, ?_⟩
  refine wpAny_getItem_list_slice ht.isList (Heap.IsSliceOf.new ..) pl pu ps (by decide) ?_ (by rw [List.size_toArray]; omega)
  obtain ⟨ix, eix⟩ : ∃ ix, ix = sliceRange (sliceBounds l' u' (some 13) its.toArray.size).1 (sliceBounds l' u' (some 13) its.toArray.size).2.1 (sliceBounds l' u' (some 13) its.toArray.size).2.2 := ⟨_, rfl⟩
  have ep : slicePick its.toArray l' u' (some 13) = (ix.filterMap fun i => its[i]?).toArray := by
    unfold slicePick
    rw [← eix]
    simp
  rw [ep]
  have lz : (ix.filterMap fun i => xs[i]?).length ≤ xs.length := by
    refine Nat.le_trans (List.length_filterMap_le _ _) ?_
    rw [eix]
    refine Nat.le_trans (range13 _ _ _) ?_
    simp
    omega
  refine ⟨.ref _, _, I5.laid (t' := s4.toks) (o := .lst (ix.filterMap fun i => xs[i]?)) (fun b ob q => Heap.get?_push_of_some _ q) (Nat.le_refl _) ?_, rfl, q _ _ (I5.hok.fresh (Nat.le_refl _)) lz fun y hy => ?_⟩
  · exact ⟨Nat.le_trans lz hz, _, 0, vals_pick r ix, Heap.get?_push_size _ rfl⟩
  · obtain ⟨i, _, e⟩ := List.mem_filterMap.mp hy
    exact List.mem_of_getElem? e
/-- isinstance(x, (tuple, list)) -/
def rIsiU (K : PySem.W.Frag) : List V → Hp → VK → Prop := fun xs H Q => ∃ (x : V) (t : Value) (p : Addr) (S T : String) (b : Bool), xs = [x, .ref p] ∧ TyOf K H x t ∧ H p = some (.tup [.ty S, .ty T]) ∧ PySem.W.kitAny K t [.type S, .type T] = some b ∧ Q (.bl b) H
theorem call_isiU : CallR X (.builtin "isinstance") (rIsiU X.K) := by
  intro pins s σ H xs us Q I r h
  obtain ⟨x, t, p, S, T, b, rfl, ty, ep, e, q⟩ := h
  obtain ⟨u, v, rfl, rx, rv⟩ := vals2 r
  cases (show v = Value.ref p from rv)
  obtain ⟨_, its, rits, o, h3, h4, n, h5⟩ := I.hok p _ ep
  obtain ⟨u1, u2, rfl, r1, r2⟩ := vals2 rits
  cases (show u1 = Value.type S from r1)
  cases (show u2 = Value.type T from r2)
  obtain ⟨oc, od, odt, osl⟩ := o
  dsimp only at h4 h5
  subst h4 h5
  have h : ∀ tk, EP X pins σ Q (.bool b) { s with toks := tk } := fun tk => ⟨.bl b, H, I.tok tk, rfl, q⟩
  cases ty with
  | non => cases (show u = Value.none from rx); exact PySem.W.kia_tup PySem.W.kitx_none I.kIn True.intro h3 e (fun z => nomatch z) h
  | bl y => cases (show u = Value.bool y from rx); exact PySem.W.kia_tup PySem.W.kitx_bool I.kIn True.intro h3 e (fun z => nomatch z) h
  | int i => obtain ⟨t, q⟩ := (show ∃ t, u = Value.int i t from rx); cases q; exact PySem.W.kia_tup PySem.W.kitx_int I.kIn True.intro h3 e (fun z => nomatch z) h
  | str y => obtain ⟨t, q⟩ := (show ∃ t, u = Value.str y t from rx); cases q; exact PySem.W.kia_tup PySem.W.kitx_str I.kIn True.intro h3 e (fun z => nomatch z) h
  | flt y => obtain ⟨t, q⟩ := (show ∃ t, u = Value.float y t from rx); cases q; exact PySem.W.kia_tup PySem.W.kitx_float I.kIn True.intro h3 e (fun z => nomatch z) h
  | @lst a xs ea =>
    cases (show u = Value.ref a from rx)
    obtain ⟨_, _, n, _, h1⟩ := (show ObjOk X.prog X.w H s.heap a (.lst xs) from I.hok a _ ea)
    exact PySem.W.kia_tup PySem.W.kitx_list I.kIn ⟨_, h1, rfl⟩ h3 e (fun z => nomatch z) h
  | @frz a ob xs ea =>
    cases (show u = Value.ref a from rx)
    obtain ⟨_, _, _, n, _, h1⟩ := (show ObjOk X.prog X.w H s.heap a (.frz ob (.lst xs)) from I.hok a _ ea)
    exact PySem.W.kia_tup PySem.W.kitx_list I.kIn ⟨_, h1, rfl⟩ h3 e (fun z => nomatch z) h
  | @tup a xs ea =>
    cases (show u = Value.ref a from rx)
    obtain ⟨_, _, _, p⟩ := (show ObjOk X.prog X.w H s.heap a (.tup xs) from I.hok a _ ea)
    obtain ⟨o, h1, h2, _⟩ := p
    exact PySem.W.kia_tup PySem.W.kitx_tuple I.kIn ⟨o, h1, h2⟩ h3 e (fun z => nomatch z) h
  | @dK a kvs ea =>
    cases (show u = Value.ref a from rx)
    obtain ⟨_, _, vs, _, p⟩ := (show ObjOk X.prog X.w H s.heap a (.dK kvs) from I.hok a _ ea)
    obtain ⟨o, es, ep, h1, h2, _⟩ := p
    exact PySem.W.kia_tup PySem.W.kitx_dict I.kIn ⟨o, h1, h2.1⟩ h3 e (fun z => nomatch z) h
  | @dT a kvs ea =>
    cases (show u = Value.ref a from rx)
    obtain ⟨_, _, xs, _, o, es, ep, h1, h2, _⟩ := (show ObjOk X.prog X.w H s.heap a (.dT kvs) from I.hok a _ ea)
    exact PySem.W.kia_tup PySem.W.kitx_dict I.kIn ⟨o, h1, h2.1⟩ h3 e (fun z => nomatch z) h
  | @ins a C dx fs ea cl ha hn htk hm =>
    cases (show u = Value.ref a from rx)
    obtain ⟨mA, O, _⟩ := ins_get I.hok ea
    obtain ⟨od, J, _⟩ := O.look
    exact PySem.W.kia_tup (PySem.W.kitx_own (cl.get _) cl.hd ha hn htk hm) I.kIn J h3 e (fun z => nomatch z) h
theorem call_isiUK {K : PySem.W.Frag} (h : X.K = K) : CallR X (.builtin "isinstance") (rIsiU K) := h ▸ call_isiU
end
section
variable {K : PySem.W.Frag} {σ : St} {H : Hp} {Q : VK} {te : TE} {tl th ts : TO} {a : Addr} {xs : List V}
theorem s_slS (h : te σ H fun x H1 => tl σ H1 fun _ H2 => th σ H2 fun _ H3 => ts σ H3 fun k H4 => rSlS K x k H4 Q) : tSlS K te tl th ts σ H Q := h
theorem s_slSL (h : SqL K H a xs) (q : ∀ p ys H', H p = none → Same H H' → H' p = some (.lst ys) → ys.length ≤ xs.length → (∀ y ∈ ys, y ∈ xs) → Q (.ref p) H') : rSlS K (.ref a) (some 13) H Q := ⟨a, xs, rfl, h, rfl, fun p ys hp hl hm => q p ys _ hp (Same.new hp) upd_same hl hm⟩
theorem s_gl2 {t : Addr} {v w : V} {i j : Nat} {σ' : St} {P : St → Hp → Prop} (h : SqL K H t [v, w]) (e : (σ.set i (some v)).set j (some w) = σ') (q : P σ' H) : gLst K 2 (gCons (gName i) (gCons (gName j) gNil)) (.ref t) σ H P := by
  subst e
  exact ⟨t, _, rfl, h, rfl, v, _, rfl, w, _, rfl, rfl, q⟩
end
end L2

end

section
set_option maxHeartbeats 1000000
namespace W5
open PySem L2 Fr
structure Rd where
  s : Int
  e : Int
  x1 : Int
  y1 : Int
  x2 : Int
  y2 : Int
  la : Bool
/-- a road -/
def RdV (H : Hp) (v : V) (r : Rd) : Prop := ∃ p v1 v2, v = .ref p ∧ H p = some (.tup [.int r.s, .int r.e, v1, v2, .bl r.la]) ∧ FrV H v1 r.x1 r.y1 ∧ FrV H v2 r.x2 r.y2
def Gd (x y : Int) : Prop := 0 ≤ x ∧ 0 < y ∧ Int.gcd x y = 1
/-- a road between so many places -/
structure RdOk (m : Int) (r : Rd) : Prop where
  s0 : 0 ≤ r.s
  s1 : r.s < m
  e0 : 0 ≤ r.e
  e1 : r.e < m
  ne : r.s ≠ r.e
  f1 : Gd r.x1 r.y1
  f2 : Gd r.x2 r.y2
  z1 : Sz 100 r.x2
  z2 : Sz 100 r.y2
/-- its slope parted by a / b -/
def wide (r : Rd) (a b : Int) : Rd := { r with x2 := (r.x2 * b).fdiv (Int.gcd (r.x2 * b) (r.y2 * a)), y2 := (r.y2 * a).fdiv (Int.gcd (r.x2 * b) (r.y2 * a)) }
def wideAt (Rs : List Rd) (k : Nat) (a b : Int) : List Rd := match Rs[k]? with
  | some r => Rs.set k (wide r a b)
  | none => Rs
def exs (Rs : List Rd) (r : Rd) (k : Nat) (a b : Int) : List (List Rd) :=
  (if Rs.length < 12 then [Rs ++ [r]] else []) ++ (if 0 < Rs.length then [Rs.take k ++ Rs.drop (k + 1), wideAt Rs k a b] else [])
/-- a net, with the address of its list -/
def TN (H : Hp) (m : Int) (v : V) (l : Addr) (Rs : List Rd) : Prop := ∃ p rs, v = .ref p ∧ H p = some (.tup [.int m, .ref l]) ∧ H l = some (.lst rs) ∧ All2 (RdV H) rs Rs ∧ rs.length ≤ 12
inductive Nets (H : Hp) (m : Int) : List V → List Addr → List (List Rd) → Prop where
  | nil : Nets H m [] [] []
  | cons {v : V} {l : Addr} {Rs : List Rd} {vs : List V} {ls : List Addr} {Rss : List (List Rd)} (h : TN H m v l Rs) (t : Nets H m vs ls Rss) : Nets H m (v :: vs) (l :: ls) (Rs :: Rss)
/-- alike, to a depth -/
inductive Eqv (H : Hp) : Nat → V → V → Prop where
  | int (n : Nat) (i : Int) : Eqv H n (.int i) (.int i)
  | bl (n : Nat) (b : Bool) : Eqv H n (.bl b) (.bl b)
  | tup {n : Nat} {p q : Addr} {xs ys : List V} (hp : H p = some (.tup xs)) (hq : H q = some (.tup ys)) (hl : xs.length = ys.length) (hz : xs.length ≤ 64) (h : ∀ (i : Nat) x y, xs[i]? = some x → ys[i]? = some y → Eqv H n x y) : Eqv H (n + 1) (.ref p) (.ref q)
  | lst {n : Nat} {p q : Addr} {xs ys : List V} (hp : H p = some (.lst xs)) (hq : H q = some (.lst ys)) (hl : xs.length = ys.length) (hz : xs.length ≤ 64) (h : ∀ (i : Nat) x y, xs[i]? = some x → ys[i]? = some y → Eqv H n x y) : Eqv H (n + 1) (.ref p) (.ref q)
def spWhole (K : PySem.W.Frag) : Sp := fun vs H Q _ => ∃ x T, vs = [x] ∧ TyOf K H x (.type T) ∧ Q (.bl (isInt x)) H
def spGcd : Sp := fun vs H Q _ => ∃ a b : Int, vs = [.int a, .int b] ∧ 0 ≤ a ∧ 0 ≤ b ∧ Q (.int (Int.gcd a b)) H
def spLow (K : PySem.W.Frag) : Sp := fun vs H Q _ => ∃ t b : Int, vs = [.int t, .int b] ∧ b ≠ 0 ∧ Sm b ∧ ∀ x y v H', Same H H' → FrV H' v x y → Low t b x y → Q v H'
def spIsF (K : PySem.W.Frag) : Sp := fun vs H Q _ => ∃ v x y, vs = [v] ∧ FrV H v x y ∧ Gd x y ∧ Q (.bl true) H
def spAbove (K : PySem.W.Frag) : Sp := fun vs H Q _ => ∃ v x y, vs = [v] ∧ FrV H v x y ∧ Gd x y ∧ 0 < x ∧ Q (.bl true) H
def spPart (K : PySem.W.Frag) : Sp := fun vs H Q _ => ∃ v1 v2 x1 y1 x2 y2, vs = [v1, v2] ∧ FrV H v1 x1 y1 ∧ FrV H v2 x2 y2 ∧ 0 < y1 ∧ 0 < x2 ∧ (Sz 300 x1 ∧ Sz 300 y1 ∧ Sz 300 x2 ∧ Sz 300 y2) ∧ ∀ v x y H', Same H H' → FrV H' v x y → Low (x1 * y2) (y1 * x2) x y → Q v H'
def spPlace (K : PySem.W.Frag) : Sp := fun vs H Q _ => ∃ n s : Int, vs = [.int n, .int s] ∧ 0 ≤ s ∧ s < n ∧ Q (.bl true) H
def spUnlike (K : PySem.W.Frag) : Sp := fun vs H Q _ => ∃ n s e : Int, vs = [.int n, .int s, .int e] ∧ 0 ≤ s ∧ s < n ∧ 0 ≤ e ∧ e < n ∧ s ≠ e ∧ Q (.bl true) H
def spFault (K : PySem.W.Frag) : Sp := fun vs H Q _ => ∃ (m : Int) (v : V) (r : Rd), vs = [.int m, v] ∧ RdV H v r ∧ RdOk m r ∧ Q .non H
def spOpened (K : PySem.W.Frag) : Sp := fun vs H Q _ => ∃ (p l : Addr) (m : Int) (rs : List V) (v : V) (r : Rd), vs = [.ref p, v] ∧ H p = some (.tup [.int m, .ref l]) ∧ H l = some (.lst rs) ∧ rs.length < 12 ∧ RdV H v r ∧ RdOk m r ∧
  ∀ q l' H', Same H H' → H' q = some (.tup [.int m, .ref l']) → H' l' = some (.lst (rs ++ [v])) → H l' = none → Q (.ref q) H'
def spCheck (K : PySem.W.Frag) : Sp := fun vs H Q _ => ∃ (p l : Addr) (m k : Int) (rs : List V), vs = [.ref p, .int k] ∧ H p = some (.tup [.int m, .ref l]) ∧ H l = some (.lst rs) ∧ 0 ≤ k ∧ k < rs.length ∧ Q .non H
def spClosed (K : PySem.W.Frag) : Sp := fun vs H Q _ => ∃ (p l : Addr) (m : Int) (k : Nat) (rs : List V), vs = [.ref p, .int k] ∧ H p = some (.tup [.int m, .ref l]) ∧ H l = some (.lst rs) ∧ k < rs.length ∧ rs.length ≤ 12 ∧
  ∀ q l' H', Same H H' → H' q = some (.tup [.int m, .ref l']) → H' l' = some (.lst (rs.take k ++ rs.drop (k + 1))) → H l' = none → Q (.ref q) H'
def WideIn (H : Hp) (v w : V) (x y a b : Int) : Prop := FrV H w a b ∧ 0 < y ∧ 0 < a ∧ 0 < b ∧ Sz 300 x ∧ Sz 300 y ∧ Sz 300 a ∧ Sz 300 b
def spWRoad (K : PySem.W.Frag) : Sp := fun vs H Q _ => ∃ (v w : V) (r : Rd) (a b : Int), vs = [v, w] ∧ RdV H v r ∧ WideIn H v w r.x2 r.y2 a b ∧ ∀ v' H', Same H H' → RdV H' v' (wide r a b) → Q v' H'
def spWidened (K : PySem.W.Frag) : Sp := fun vs H Q _ => ∃ (p l : Addr) (m : Int) (k : Nat) (rs : List V) (v w : V) (r : Rd) (a b : Int), vs = [.ref p, .int k, w] ∧ H p = some (.tup [.int m, .ref l]) ∧ H l = some (.lst rs) ∧ rs[k]? = some v ∧ rs.length ≤ 12 ∧ RdV H v r ∧ WideIn H v w r.x2 r.y2 a b ∧ Int.gcd a b = 1 ∧
  ∀ q l' v' H', Same H H' → H' q = some (.tup [.int m, .ref l']) → H' l' = some (.lst (rs.set k v')) → RdV H' v' (wide r a b) → H l' = none → Q (.ref q) H'
def spCell (K : PySem.W.Frag) : Sp := fun vs H Q _ => ∃ (a : Addr) (ns : List Int) (k : Int), vs = [.ref a, .int k] ∧ SqL K H a (ns.map V.int) ∧ 0 ≤ k ∧ k ≤ 1000 ∧ ∀ z : Int, Q (.int z) H
def spMixed (K : PySem.W.Frag) : Sp := fun vs H Q _ => ∃ (a : Addr) (ns : List Int) (k : Int), vs = [.ref a, .int k] ∧ SqL K H a (ns.map V.int) ∧ 0 ≤ k ∧ k ≤ 1000 ∧ ∀ z : Int, 0 ≤ z → z < 2147483629 → Q (.int z) H
def spLLow (K : PySem.W.Frag) : Sp := fun vs H Q _ => ∃ t b : Int, vs = [.int t, .int b] ∧ 0 ≤ t ∧ 0 < b ∧ Sm b ∧ ∀ x y v H', Same H H' → FrV H' v x y → Low t b x y → Q v H'
def spFrac (K : PySem.W.Frag) : Sp := fun vs H Q _ => ∃ (a : Addr) (ns : List Int) (k : Int), vs = [.ref a, .int k] ∧ SqL K H a (ns.map V.int) ∧ ns.length ≤ 63 ∧ 0 ≤ k ∧ k ≤ 900 ∧ ∀ x y v H', Same H H' → FrV H' v x y → Gd x y → Sz 100 x → Sz 100 y → Q v H'
def spRoad (K : PySem.W.Frag) : Sp := fun vs H Q _ => ∃ (a : Addr) (ns : List Int) (k m : Int), vs = [.ref a, .int k, .int m] ∧ SqL K H a (ns.map V.int) ∧ ns.length ≤ 63 ∧ 0 ≤ k ∧ k ≤ 500 ∧ 2 ≤ m ∧ ∀ v r H', Same H H' → RdV H' v r → RdOk m r → Q v H'
def spAlike (K : PySem.W.Frag) (d : Nat) : Sp := fun vs H Q _ => ∃ (n : Nat) (x y : V), vs = [x, y] ∧ n + 2 ≤ d ∧ Eqv H n x y ∧ ∀ H', Same H H' → Q (.bl true) H'
def spChanged (K : PySem.W.Frag) : Sp := fun vs H Q _ => ∃ (l : Addr) (k : Nat) (rs : List V) (v w : V) (r : Rd) (a b : Int), vs = [.ref l, .int k, w] ∧ H l = some (.lst rs) ∧ rs[k]? = some v ∧ rs.length ≤ 12 ∧ RdV H v r ∧ WideIn H v w r.x2 r.y2 a b ∧ 0 ≤ r.x2 ∧
  ∀ l' v' H', Same H H' → H' l' = some (.lst (rs.set k v')) → RdV H' v' (wide r a b) → H l' = none → Q (.ref l') H'
def spWorked (K : PySem.W.Frag) : Sp := fun vs H Q _ => ∃ (p l : Addr) (m : Int) (k : Nat) (rs : List V) (Rs : List Rd) (v w : V) (r : Rd) (a b : Int), vs = [.ref p, v, .int k, w] ∧ H p = some (.tup [.int m, .ref l]) ∧ H l = some (.lst rs) ∧ rs.length ≤ 12 ∧ (0 < rs.length → k < rs.length) ∧
  All2 (RdV H) rs Rs ∧ (∀ r ∈ Rs, RdOk m r) ∧ RdV H v r ∧ RdOk m r ∧ FrV H w a b ∧ 0 < a ∧ 0 < b ∧ Sz 100 a ∧ Sz 100 b ∧ Int.gcd a b = 1 ∧
  ∀ o lt ld ts tls ds dls H', Same H H' → H' o = some (.lst [.ref lt, .ref ld]) → H' lt = some (.lst ts) → H' ld = some (.lst ds) → Nets H' m ts tls (exs Rs r k a b) → Nets H' m ds dls (exs Rs r k a b) → (∀ l ∈ tls, H l = none ∧ l ≠ lt ∧ l ≠ ld ∧ l ∉ dls) → ld ∉ dls → Q (.ref o) H'
def spLaw (K : PySem.W.Frag) : Sp := fun vs H Q _ => ∃ (a : Addr) (ns : List Int), vs = [.ref a] ∧ SqL K H a (ns.map V.int) ∧ ns.length ≤ 63 ∧ ∀ H', Q (.bl true) H'
abbrev t_is_whole (K : PySem.W.Frag) : TS :=
  (tRet (tAndV (tCB (rIsi K) (tCons (tVar 0) (tCons (tC (.ty "int")) tNil))) (tNotV (tCB (rIsi K) (tCons (tVar 0) (tCons (tC (.ty "bool")) tNil))))))
abbrev t_common_divisor (K : PySem.W.Frag) : TS :=
  (tSeq (tWhile (tTest (tOp (rNeA K) (tVar 1) (tC (.int 0)))) (tSeq (tAsg (tOp (rI (fun _ j => 0 < j) fun i j => .int (i % j)) (tVar 0) (tVar 1)) (gName 2))
    (tSeq (tAsg (tVar 1) (gName 0))
    (tAsg (tVar 2) (gName 1)))))
    (tRet (tVar 0)))
abbrev t_lowest (K : PySem.W.Frag) : TS :=
  (tSeq (tAsg (tCall spGcd [] E0 (tCons (tCB rAbs (tCons (tVar 0) tNil)) (tCons (tCB rAbs (tCons (tVar 1) tNil)) tNil))) (gName 2))
    (tSeq (tIfS (tTest (tOp (rI0 fun i j => .bl (decide (i < j))) (tVar 1) (tC (.int 0)))) (tAsg (tUn (rU fun i => .int (-i)) (tVar 2)) (gName 2)) tNext)
    (tRet (tTup (tCons (tOp (rI CDivB fun i j => .int (i.fdiv j)) (tVar 0) (tVar 2)) (tCons (tOp (rI CDivB fun i j => .int (i.fdiv j)) (tVar 1) (tVar 2)) tNil))))))
abbrev t_is_fraction (K : PySem.W.Frag) : TS :=
  (tSeq (tIfS (tOr (tNot (tB (tCB (rIsi K) (tCons (tVar 0) (tCons (tC (.ty "tuple")) tNil))))) (tTest (tOp (rNeA K) (tCB (rLen K) (tCons (tVar 0) tNil)) (tC (.int 2))))) (tRet (tC (.bl false))) tNext)
    (tSeq (tAsg (tOp (rIx K) (tVar 0) (tC (.int 0))) (gName 1))
    (tSeq (tAsg (tOp (rIx K) (tVar 0) (tC (.int 1))) (gName 2))
    (tSeq (tIfS (tOr (tNot (tB (tCall (spWhole K) [] E0 (tCons (tVar 1) tNil)))) (tNot (tB (tCall (spWhole K) [] E0 (tCons (tVar 2) tNil))))) (tRet (tC (.bl false))) tNext)
    (tRet (tAndV (tOp (rI0 fun i j => .bl (decide (j < i))) (tVar 2) (tC (.int 0))) (tOp (rEqA K) (tCall spGcd [] E0 (tCons (tCB rAbs (tCons (tVar 1) tNil)) (tCons (tVar 2) tNil))) (tC (.int 1)))))))))
abbrev t_is_from_nought (K : PySem.W.Frag) : TS :=
  (tRet (tAndV (tCall (spIsF K) [] E0 (tCons (tVar 0) tNil)) (tOp (rI0 fun i j => .bl (decide (j ≤ i))) (tOp (rIx K) (tVar 0) (tC (.int 0))) (tC (.int 0)))))
abbrev t_is_above_nought (K : PySem.W.Frag) : TS :=
  (tRet (tAndV (tCall (spIsF K) [] E0 (tCons (tVar 0) tNil)) (tOp (rI0 fun i j => .bl (decide (j < i))) (tOp (rIx K) (tVar 0) (tC (.int 0))) (tC (.int 0)))))
abbrev t_part_of (K : PySem.W.Frag) (aN : Addr) : TS :=
  (tSeq (tIfS (tTest (tOp (rEqA K) (tVar 1) (tC (.ref aN)))) tNever tNext)
    (tRet (tCall (spLow K) [] E0 (tCons (tOp (rI CMulX fun i j => .int (i * j)) (tOp (rIx K) (tVar 0) (tC (.int 0))) (tOp (rIx K) (tVar 1) (tC (.int 1)))) (tCons (tOp (rI CMulX fun i j => .int (i * j)) (tOp (rIx K) (tVar 0) (tC (.int 1))) (tOp (rIx K) (tVar 1) (tC (.int 0)))) tNil)))))
abbrev t_is_number_of (K : PySem.W.Frag) : TS :=
  (tRet (tAndV (tCall (spWhole K) [] E0 (tCons (tVar 1) tNil)) (tChain (rI0 fun i j => .bl (decide (i ≤ j))) (rI0 fun i j => .bl (decide (i < j))) (tC (.int 0)) (tVar 1) (tVar 0))))
abbrev t_are_unlike_places (K : PySem.W.Frag) : TS :=
  (tRet (tAndV (tCall (spPlace K) [] E0 (tCons (tVar 0) (tCons (tVar 1) tNil))) (tAndV (tCall (spPlace K) [] E0 (tCons (tVar 0) (tCons (tVar 2) tNil))) (tOp (rNeA K) (tVar 1) (tVar 2)))))
abbrev t_road_fault (K : PySem.W.Frag) : TS :=
  (tSeq (tIfS (tTest (tOp (rNeA K) (tCB (rLen K) (tCons (tVar 1) tNil)) (tC (.int 5)))) (tRet (tC (.str "it has not five things"))) tNext)
    (tSeq (tIfS (tNot (tB (tCall (spUnlike K) [] E0 (tCons (tVar 0) (tCons (tOp (rIx K) (tVar 1) (tC (.int 0))) (tCons (tOp (rIx K) (tVar 1) (tC (.int 1))) tNil)))))) (tRet (tC (.str "its start and its end are not two unlike places"))) tNext)
    (tSeq (tIfS (tNot (tB (tCall (spIsF K) [] E0 (tCons (tOp (rIx K) (tVar 1) (tC (.int 2))) tNil)))) (tRet (tC (.str "its base is no fraction from nought on"))) tNext)
    (tSeq (tIfS (tNot (tB (tCall (spIsF K) [] E0 (tCons (tOp (rIx K) (tVar 1) (tC (.int 3))) tNil)))) (tRet (tC (.str "its slope is no fraction from nought on"))) tNext)
    (tSeq (tIfS (tNot (tB (tCB (rIsi K) (tCons (tOp (rIx K) (tVar 1) (tC (.int 4))) (tCons (tC (.ty "bool")) tNil))))) (tRet (tC (.str "whether it is a lane is told by no truth"))) tNext)
    (tRet (tC .non)))))))
abbrev t_opened_net (K : PySem.W.Frag) : TS :=
  (tSeq (tIfS (tTest (tOp (rI0 fun i j => .bl (decide (j ≤ i))) (tCB (rLen K) (tCons (tOp (rIx K) (tVar 0) (tC (.int 1))) tNil)) (tC (.int 12)))) tNever tNext)
    (tSeq (tAsg (tCall (spFault K) [] E0 (tCons (tOp (rIx K) (tVar 0) (tC (.int 0))) (tCons (tVar 1) tNil))) (gName 2))
    (tSeq (tIfS (tTest (tOp rNotN (tVar 2) (tC .non))) tNever tNext)
    (tRet (tTup (tCons (tOp (rIx K) (tVar 0) (tC (.int 0))) (tCons (tOp (rAddA K) (tOp (rIx K) (tVar 0) (tC (.int 1))) (tLst (tCons (tVar 1) tNil))) tNil)))))))
abbrev t_check_road (K : PySem.W.Frag) : TS :=
  (tIfS (tNot (tB (tCall (spPlace K) [] E0 (tCons (tCB (rLen K) (tCons (tOp (rIx K) (tVar 0) (tC (.int 1))) tNil)) (tCons (tVar 1) tNil))))) tNever tNext)
abbrev t_closed_net (K : PySem.W.Frag) : TS :=
  (tSeq (tDrop (tCall (spCheck K) [] E0 (tCons (tVar 0) (tCons (tVar 1) tNil))))
    (tRet (tTup (tCons (tOp (rIx K) (tVar 0) (tC (.int 0))) (tCons (tOp (rAddA K) (tSl (rSlL K) (tOp (rIx K) (tVar 0) (tC (.int 1))) tNoPart (tPart (tVar 1))) (tSl (rSlL K) (tOp (rIx K) (tVar 0) (tC (.int 1))) (tPart (tOp (rAddA K) (tVar 1) (tC (.int 1)))) tNoPart)) tNil)))))
abbrev t_widened_road (K : PySem.W.Frag) : TS :=
  (tRet (tTup (tCons (tOp (rIx K) (tVar 0) (tC (.int 0))) (tCons (tOp (rIx K) (tVar 0) (tC (.int 1))) (tCons (tOp (rIx K) (tVar 0) (tC (.int 2))) (tCons (tCall (spPart K) [] E0 (tCons (tOp (rIx K) (tVar 0) (tC (.int 3))) (tCons (tVar 1) tNil))) (tCons (tOp (rIx K) (tVar 0) (tC (.int 4))) tNil)))))))
abbrev t_widened_net (K : PySem.W.Frag) : TS :=
  (tSeq (tDrop (tCall (spCheck K) [] E0 (tCons (tVar 0) (tCons (tVar 1) tNil))))
    (tSeq (tIfS (tNot (tB (tCall (spAbove K) [] E0 (tCons (tVar 2) tNil)))) tNever tNext)
    (tSeq (tAsg (tCB (rListOf K) (tCons (tOp (rIx K) (tVar 0) (tC (.int 1))) tNil)) (gName 3))
    (tSeq (tAsg (tCall (spWRoad K) [] E0 (tCons (tOp (rIx K) (tVar 3) (tVar 1)) (tCons (tVar 2) tNil))) (gSub (tVar 3) (tVar 1) rSetL))
    (tRet (tTup (tCons (tOp (rIx K) (tVar 0) (tC (.int 0))) (tCons (tVar 3) tNil))))))))
abbrev t__law_whole (K : PySem.W.Frag) : TS :=
  (tRet (tAndV (tCB (rIsi K) (tCons (tVar 0) (tCons (tC (.ty "int")) tNil))) (tNotV (tCB (rIsi K) (tCons (tVar 0) (tCons (tC (.ty "bool")) tNil))))))
abbrev t__law_cell (K : PySem.W.Frag) : TS :=
  (tSeq (tIfS (tTest (tOp (rI0 fun i j => .bl (decide (i < j))) (tVar 1) (tCB (rLen K) (tCons (tVar 0) tNil)))) (tRet (tOp (rIx K) (tVar 0) (tVar 1))) tNext)
    (tSeq (tAsg (tOp (rAddA K) (tOp (rI CMulX fun i j => .int (i * j)) (tOp (rI CMulX fun i j => .int (i * j)) (tVar 1) (tVar 1)) (tC (.int 104729))) (tC (.int 69621))) (gName 2))
    (tSeq (tIfS (tTest (tOp (rI0 fun i j => .bl (decide (j < i))) (tCB (rLen K) (tCons (tVar 0) tNil)) (tC (.int 0)))) (tAsg (tOp (rAddA K) (tVar 2) (tOp (rI CMulX fun i j => .int (i * j)) (tOp (rI (fun _ j => 0 < j) fun i j => .int (i % j)) (tOp (rIx K) (tVar 0) (tOp (rI (fun _ j => 0 < j) fun i j => .int (i % j)) (tOp (rI CMulX fun i j => .int (i * j)) (tVar 1) (tC (.int 5))) (tCB (rLen K) (tCons (tVar 0) tNil)))) (tC (.int 2147483629))) (tC (.int 48271)))) (gName 2)) tNext)
    (tRet (tOp (rI (fun _ j => 0 < j) fun i j => .int (i % j)) (tOp (rI CMulX fun i j => .int (i * j)) (tVar 2) (tC (.int 16807))) (tC (.int 2147483647)))))))
abbrev t__law_mixed (K : PySem.W.Frag) : TS :=
  (tRet (tOp (rI (fun _ j => 0 < j) fun i j => .int (i % j)) (tOp (rI CMulX fun i j => .int (i * j)) (tOp (rI (fun _ j => 0 < j) fun i j => .int (i % j)) (tCall (spCell K) [] E0 (tCons (tVar 0) (tCons (tVar 1) tNil))) (tC (.int 1000003))) (tC (.int 48271))) (tC (.int 2147483629))))
abbrev t__law_lowest (K : PySem.W.Frag) : TS :=
  (tSeq (tAsg (tCB rAbs (tCons (tVar 0) tNil)) (gName 2))
    (tSeq (tAsg (tVar 1) (gName 3))
    (tSeq (tWhile (tTest (tOp (rNeA K) (tVar 3) (tC (.int 0)))) (tPar 2 3 (tCons (tVar 3) (tCons (tOp (rI (fun _ j => 0 < j) fun i j => .int (i % j)) (tVar 2) (tVar 3)) tNil))))
    (tRet (tTup (tCons (tOp (rI CDivB fun i j => .int (i.fdiv j)) (tVar 0) (tVar 2)) (tCons (tOp (rI CDivB fun i j => .int (i.fdiv j)) (tVar 1) (tVar 2)) tNil)))))))
abbrev t__law_fraction (K : PySem.W.Frag) : TS :=
  (tSeq (tAsg (tOp (rIx K) (tLst (tCons (tC (.int 10)) (tCons (tOp (rI CPow fun i j => .int (i ^ j.toNat)) (tC (.int 10)) (tC (.int 6))) (tCons (tOp (rI CPow fun i j => .int (i ^ j.toNat)) (tC (.int 10)) (tC (.int 18))) tNil)))) (tOp (rI (fun _ j => 0 < j) fun i j => .int (i % j)) (tCall (spMixed K) [] E0 (tCons (tVar 0) (tCons (tC (.int 1)) tNil))) (tC (.int 3)))) (gName 2))
    (tSeq (tAsg (tCall (spMixed K) [] E0 (tCons (tVar 0) (tCons (tOp (rAddA K) (tC (.int 20)) (tVar 1)) tNil))) (gName 3))
    (tSeq (tAsg (tC (.int 0)) (gName 4))
    (tSeq (tFor (iList K (tSlS K (tVar 0) (tPart (tVar 1)) (tPart (tC (.int 120))) (tPart (tC (.int 13))))) (gName 5) (tAsg (tOp (rI (fun _ j => 0 < j) fun i j => .int (i % j)) (tOp (rAddA K) (tOp (rAddA K) (tOp (rI CMulX fun i j => .int (i * j)) (tVar 4) (tC (.int 1000003))) (tOp (rI (fun _ j => 0 < j) fun i j => .int (i % j)) (tVar 5) (tC (.int 1000000007)))) (tVar 3)) (tVar 2)) (gName 4)))
    (tRet (tCall (spLLow K) [] E0 (tCons (tOp (rI CMulX fun i j => .int (i * j)) (tOp (rI (fun _ j => 0 < j) fun i j => .int (i % j)) (tOp (rAddA K) (tVar 4) (tOp (rI CDivB fun i j => .int (i.fdiv j)) (tVar 3) (tC (.int 21)))) (tVar 2)) (tCB rInt1 (tCons (tOp (rI0 fun i j => .bl (decide (j < i))) (tOp (rI (fun _ j => 0 < j) fun i j => .int (i % j)) (tVar 3) (tC (.int 3))) (tC (.int 0))) tNil))) (tCons (tOp (rAddA K) (tC (.int 1)) (tOp (rI (fun _ j => 0 < j) fun i j => .int (i % j)) (tOp (rI CDivB fun i j => .int (i.fdiv j)) (tVar 3) (tC (.int 3))) (tC (.int 7)))) tNil))))))))
abbrev t__law_road (K : PySem.W.Frag) : TS :=
  (tSeq (tAsg (tCall (spMixed K) [] E0 (tCons (tVar 0) (tCons (tOp (rAddA K) (tC (.int 3)) (tVar 1)) tNil))) (gName 3))
    (tSeq (tAsg (tOp (rI (fun _ j => 0 < j) fun i j => .int (i % j)) (tVar 3) (tVar 2)) (gName 4))
    (tSeq (tAsg (tOp (rI (fun _ j => 0 < j) fun i j => .int (i % j)) (tOp (rAddA K) (tOp (rAddA K) (tVar 4) (tC (.int 1))) (tOp (rI (fun _ j => 0 < j) fun i j => .int (i % j)) (tOp (rI CDivB fun i j => .int (i.fdiv j)) (tVar 3) (tC (.int 6))) (tOp (rI0 fun i j => .int (i - j)) (tVar 2) (tC (.int 1))))) (tVar 2)) (gName 5))
    (tRet (tTup (tCons (tVar 4) (tCons (tVar 5) (tCons (tCall (spFrac K) [] E0 (tCons (tVar 0) (tCons (tVar 1) tNil))) (tCons (tCall (spFrac K) [] E0 (tCons (tVar 0) (tCons (tOp (rAddA K) (tC (.int 20)) (tVar 1)) tNil))) (tCons (tOp (rEqA K) (tOp (rI (fun _ j => 0 < j) fun i j => .int (i % j)) (tOp (rI CDivB fun i j => .int (i.fdiv j)) (tVar 3) (tC (.int 36))) (tC (.int 3))) (tC (.int 1))) tNil))))))))))
abbrev t__law_alike (K : PySem.W.Frag) (d : Nat) : TS :=
  (tSeq (tIfS (tB (tCB (rIsiU K) (tCons (tVar 1) (tCons (tTup (tCons (tC (.ty "tuple")) (tCons (tC (.ty "list")) tNil))) tNil)))) (tSeq (tIfS (tOr (tTest (tOp (rNeA K) (tCB (rIsi K) (tCons (tVar 1) (tCons (tC (.ty "list")) tNil))) (tCB (rIsi K) (tCons (tVar 0) (tCons (tC (.ty "list")) tNil))))) (tNot (tB (tCB (rIsiU K) (tCons (tVar 0) (tCons (tTup (tCons (tC (.ty "tuple")) (tCons (tC (.ty "list")) tNil))) tNil)))))) (tRet (tC (.bl false))) tNext)
    (tSeq (tIfS (tTest (tOp (rNeA K) (tCB (rLen K) (tCons (tVar 0) tNil)) (tCB (rLen K) (tCons (tVar 1) tNil)))) (tRet (tC (.bl false))) tNext)
    (tRet (tOp (rEqA K) (tCB (rLen K) (tCons (tComp 1 [0, 1] (iRng1 (tCons (tCB (rLen K) (tCons (tVar 1) tNil)) tNil)) (gName 0) (tNot (tB (tCall (spAlike K d) [] E0 (tCons (tOp (rIx K) (tVar 1) (tVar 0)) (tCons (tOp (rIx K) (tVar 2) (tVar 0)) tNil))))) (tVar 0)) tNil)) (tC (.int 0)))))) tNext)
    (tSeq (tIfS (tB (tCB (rIsi K) (tCons (tVar 1) (tCons (tC (.ty "bool")) tNil)))) (tRet (tAndV (tCB (rIsi K) (tCons (tVar 0) (tCons (tC (.ty "bool")) tNil))) (tOp (rEqA K) (tVar 0) (tVar 1)))) tNext)
    (tRet (tAndV (tCall (spWhole K) [] E0 (tCons (tVar 0) tNil)) (tOp (rEqA K) (tVar 0) (tVar 1))))))
abbrev t__law_changed (K : PySem.W.Frag) : TS :=
  (tSeq (tAsg (tOp (rIx K) (tVar 0) (tVar 1)) (gTup K 5 (gCons (gName 4) (gCons (gName 5) (gCons (gName 6) (gCons (gName 3) (gCons (gName 7) gNil)))))))
    (tSeq (tAsg (tCall (spLLow K) [] E0 (tCons (tOp (rI CMulX fun i j => .int (i * j)) (tOp (rIx K) (tVar 3) (tC (.int 0))) (tOp (rIx K) (tVar 2) (tC (.int 1)))) (tCons (tOp (rI CMulX fun i j => .int (i * j)) (tOp (rIx K) (tVar 3) (tC (.int 1))) (tOp (rIx K) (tVar 2) (tC (.int 0)))) tNil))) (gName 3))
    (tRet (tOp (rAddA K) (tOp (rAddA K) (tSl (rSlL K) (tVar 0) tNoPart (tPart (tVar 1))) (tLst (tCons (tTup (tCons (tVar 4) (tCons (tVar 5) (tCons (tVar 6) (tCons (tVar 3) (tCons (tVar 7) tNil)))))) tNil))) (tSl (rSlL K) (tVar 0) (tPart (tOp (rAddA K) (tVar 1) (tC (.int 1)))) tNoPart)))))
abbrev t__law_worked (K : PySem.W.Frag) : TS :=
  (tSeq (tAsg (tCB (rListOf K) (tCons (tOp (rIx K) (tVar 0) (tC (.int 1))) tNil)) (gName 4))
    (tSeq (tAsg (tLst tNil) (gName 5))
    (tSeq (tAsg (tLst tNil) (gName 6))
    (tSeq (tIfS (tTest (tOp (rI0 fun i j => .bl (decide (i < j))) (tCB (rLen K) (tCons (tVar 4) tNil)) (tC (.int 12)))) (tSeq (tDrop (tBM K "list" rAppend (tVar 6) (tCons (tCall (spOpened K) [] E0 (tCons (tVar 0) (tCons (tVar 1) tNil))) tNil)))
    (tDrop (tBM K "list" rAppend (tVar 5) (tCons (tTup (tCons (tOp (rIx K) (tVar 0) (tC (.int 0))) (tCons (tOp (rAddA K) (tVar 4) (tLst (tCons (tVar 1) tNil))) tNil))) tNil)))) tNext)
    (tSeq (tIfS (tTest (tOp (rI0 fun i j => .bl (decide (j < i))) (tCB (rLen K) (tCons (tVar 4) tNil)) (tC (.int 0)))) (tSeq (tDrop (tBM K "list" rAppend (tVar 6) (tCons (tCall (spClosed K) [] E0 (tCons (tVar 0) (tCons (tVar 2) tNil))) tNil)))
    (tSeq (tDrop (tBM K "list" rAppend (tVar 5) (tCons (tTup (tCons (tOp (rIx K) (tVar 0) (tC (.int 0))) (tCons (tOp (rAddA K) (tSl (rSlL K) (tVar 4) tNoPart (tPart (tVar 2))) (tSl (rSlL K) (tVar 4) (tPart (tOp (rAddA K) (tVar 2) (tC (.int 1)))) tNoPart)) tNil))) tNil)))
    (tSeq (tDrop (tBM K "list" rAppend (tVar 6) (tCons (tCall (spWidened K) [] E0 (tCons (tVar 0) (tCons (tVar 2) (tCons (tVar 3) tNil)))) tNil)))
    (tDrop (tBM K "list" rAppend (tVar 5) (tCons (tTup (tCons (tOp (rIx K) (tVar 0) (tC (.int 0))) (tCons (tCall (spChanged K) [] E0 (tCons (tVar 4) (tCons (tVar 2) (tCons (tVar 3) tNil)))) tNil))) tNil)))))) tNext)
    (tRet (tLst (tCons (tVar 6) (tCons (tVar 5) tNil)))))))))
abbrev t_law (K : PySem.W.Frag) : TS :=
  (tSeq (tAsg (tOp (rAddA K) (tC (.int 2)) (tOp (rI (fun _ j => 0 < j) fun i j => .int (i % j)) (tCall (spCell K) [] E0 (tCons (tVar 0) (tCons (tC (.int 0)) tNil))) (tC (.int 5)))) (gName 1))
    (tSeq (tAsg (tComp 1 [0, 1] (iRng1 (tCons (tOp (rI (fun _ j => 0 < j) fun i j => .int (i % j)) (tCall (spMixed K) [] E0 (tCons (tVar 0) (tCons (tC (.int 2)) tNil))) (tC (.int 13))) tNil)) (gName 0) tNoIf (tCall (spRoad K) [] E0 (tCons (tVar 1) (tCons (tVar 0) (tCons (tVar 2) tNil))))) (gName 2))
    (tSeq (tAsg (tCall (spRoad K) [] E0 (tCons (tVar 0) (tCons (tC (.int 12)) (tCons (tVar 1) tNil)))) (gName 3))
    (tSeq (tAsg (tOp (rI (fun _ j => 0 < j) fun i j => .int (i % j)) (tOp (rI CDivB fun i j => .int (i.fdiv j)) (tCall (spMixed K) [] E0 (tCons (tVar 0) (tCons (tC (.int 2)) tNil))) (tC (.int 13))) (tCB rMax2 (tCons (tC (.int 1)) (tCons (tCB (rLen K) (tCons (tVar 2) tNil)) tNil)))) (gName 4))
    (tSeq (tAsg (tCall (spMixed K) [] E0 (tCons (tVar 0) (tCons (tC (.int 17)) tNil))) (gName 5))
    (tSeq (tAsg (tOp (rAddA K) (tC (.int 1)) (tOp (rI (fun _ j => 0 < j) fun i j => .int (i % j)) (tOp (rI CMulX fun i j => .int (i * j)) (tVar 5) (tC (.int 982451653))) (tOp (rIx K) (tLst (tCons (tC (.int 9)) (tCons (tOp (rI CPow fun i j => .int (i ^ j.toNat)) (tC (.int 10)) (tC (.int 18))) tNil))) (tOp (rI (fun _ j => 0 < j) fun i j => .int (i % j)) (tVar 5) (tC (.int 2)))))) (gName 6))
    (tSeq (tAsg (tCall (spLLow K) [] E0 (tCons (tVar 6) (tCons (tOp (rAddA K) (tC (.int 1)) (tOp (rI (fun _ j => 0 < j) fun i j => .int (i % j)) (tOp (rI CDivB fun i j => .int (i.fdiv j)) (tVar 5) (tC (.int 2))) (tOp (rIx K) (tLst (tCons (tC (.int 4)) (tCons (tOp (rI CPow fun i j => .int (i ^ j.toNat)) (tC (.int 10)) (tC (.int 6))) tNil))) (tOp (rI (fun _ j => 0 < j) fun i j => .int (i % j)) (tOp (rI CDivB fun i j => .int (i.fdiv j)) (tVar 5) (tC (.int 8))) (tC (.int 2)))))) tNil))) (gName 7))
    (tSeq (tAsg (tTup (tCons (tVar 1) (tCons (tCB (rListOf K) (tCons (tVar 2) tNil)) tNil))) (gName 8))
    (tSeq (tAsg (tCall (spWorked K) [] E0 (tCons (tVar 8) (tCons (tVar 3) (tCons (tVar 4) (tCons (tVar 7) tNil))))) (gLst K 2 (gCons (gName 11) (gCons (gName 12) gNil))))
    (tSeq (tIfS (tOr (tNot (tB (tCall (spAlike K 8) [] E0 (tCons (tVar 11) (tCons (tVar 12) tNil))))) (tTest (tOp (rNeA K) (tVar 8) (tTup (tCons (tVar 1) (tCons (tVar 2) tNil)))))) (tRet (tC (.bl false))) tNext)
    (tSeq (tFor (iList K (tVar 11)) (gName 9) (tDrop (tBM K "list" rAppend (tOp (rIx K) (tVar 9) (tC (.int 1))) (tCons (tVar 3) tNil))))
    (tSeq (tIfS (tOr (tNot (tB (tCall (spAlike K 8) [] E0 (tCons (tOp (rIx K) (tCall (spWorked K) [] E0 (tCons (tVar 8) (tCons (tVar 3) (tCons (tVar 4) (tCons (tVar 7) tNil))))) (tC (.int 0))) (tCons (tVar 12) tNil))))) (tTest (tOp (rNeA K) (tVar 8) (tTup (tCons (tVar 1) (tCons (tVar 2) tNil)))))) (tRet (tC (.bl false))) tNext)
    (tSeq (tIfS (tAnd (tTest (tOp (rI0 fun i j => .bl (decide (i < j))) (tCB (rLen K) (tCons (tVar 2) tNil)) (tC (.int 12)))) (tNot (tB (tCall (spAlike K 8) [] E0 (tCons (tCall (spClosed K) [] E0 (tCons (tCall (spOpened K) [] E0 (tCons (tVar 8) (tCons (tVar 3) tNil))) (tCons (tCB (rLen K) (tCons (tVar 2) tNil)) tNil))) (tCons (tVar 8) tNil)))))) (tRet (tC (.bl false))) tNext)
    (tSeq (tIfS (tTest (tOp (rEqA K) (tVar 2) (tLst tNil))) (tRet (tC (.bl true))) tNext)
    (tSeq (tAsg (tCall (spWidened K) [] E0 (tCons (tVar 8) (tCons (tVar 4) (tCons (tVar 7) tNil)))) (gName 10))
    (tRet (tCall (spAlike K 8) [] E0 (tCons (tCall (spWidened K) [] E0 (tCons (tVar 10) (tCons (tVar 4) (tCons (tTup (tCons (tOp (rIx K) (tVar 7) (tC (.int 1))) (tCons (tOp (rIx K) (tVar 7) (tC (.int 0))) tNil))) tNil)))) (tCons (tVar 8) tNil)))))))))))))))))))
end W5

end

section
set_option maxHeartbeats 4000000
namespace W5
open PySem L2 Fr
local macro_rules | `(tactic| walk_at "rd1") => `(tactic| first | ((with_reducible refine' s_set2 ?hs ?_); (case hs => ((simp only [List.set_cons_succ, List.set_cons_zero]) <;> exact rfl))) | ((with_reducible refine' s_set ?hs ?_); (case hs => ((simp only [List.set_cons_succ, List.set_cons_zero]) <;> exact rfl))) | (with_reducible refine s_seq ?_) | (with_reducible refine s_asg ?_) | (with_reducible refine s_if ?_) | (with_reducible refine s_asgG ?_) | (with_reducible refine s_gsub ?_) | (with_reducible refine s_sl ?_) | (with_reducible refine s_noPart ?_) | (with_reducible refine s_part ?_) | (with_reducible refine s_exI ?_) | (with_reducible refine s_ret ?_) | (with_reducible refine s_op ?_) | (with_reducible refine s_c ?_) | (with_reducible refine s_cons ?_) | (with_reducible refine s_nil ?_) | (with_reducible refine s_call ?_) | (with_reducible refine s_cb ?_) | (with_reducible refine s_test ?_) | (with_reducible refine s_b ?_) | (with_reducible refine s_and ?_) | (with_reducible refine s_or ?_) | (with_reducible refine s_not ?_) | (with_reducible refine s_andV ?_) | (with_reducible refine s_orV ?_) | (with_reducible refine s_notV ?_) | (with_reducible refine s_ifx ?_) | (with_reducible refine s_chain ?_) | (with_reducible refine s_un ?_) | (with_reducible refine s_tup ?_) | (with_reducible refine s_lst ?_) | (with_reducible refine s_drop ?_) | (with_reducible refine s_retN ?_) | (with_reducible refine s_next ?_) | (with_reducible refine s_break ?_) | (with_reducible refine s_cont ?_) | (with_reducible refine s_par ?_) | ((with_reducible refine' s_var ?hv ?_); (case hv => exact rfl)) | (with_reducible refine s_bl ?_) | (with_reducible refine s_rI0 ?_) | (with_reducible refine s_eqI ?_) | (with_reducible refine s_neI ?_) | (with_reducible refine s_eqB ?_) | (with_reducible refine s_rU ?_) | (with_reducible refine s_eqAI ?_) | (with_reducible refine s_neAI ?_) | (with_reducible refine s_eqAB ?_) | (with_reducible refine s_addI ?_) | ((with_reducible refine' s_ixST ?hq ?he ?_); (case hq => assumption); (case he => exact rfl)) | ((with_reducible refine' s_ixSL ?hq ?he ?_); (case hq => assumption); (case he => exact rfl)) | ((with_reducible refine' s_abs1 ?_)) | ((with_reducible refine' s_lenL ?hq ?_); (case hq => assumption)) | ((with_reducible refine' s_lenT ?hq ?_); (case hq => assumption)) | (with_reducible refine s_isN ?_) | (with_reducible refine s_for ?_) | (with_reducible refine s_iList ?_) | (with_reducible refine s_iTup ?_) | (with_reducible refine s_iR1 ?_) | (with_reducible refine s_iR2 ?_) | (with_reducible refine s_iEnum ?_) | (with_reducible refine s_iZip ?_) | ((with_reducible refine' s_jList ?hq ?_); (case hq => assumption)) | ((with_reducible refine' s_jTup ?hq ?_); (case hq => assumption)) | ((with_reducible refine' s_jEnum ?hq ?_); (case hq => assumption)) | ((with_reducible refine' s_jZip ?hq ?hr ?_); (case hq => assumption); (case hr => assumption)) | ((with_reducible refine' s_aug ?hv ?_); (case hv => exact rfl)) | (with_reducible refine s_augS ?_) | (with_reducible refine s_ipI ?_) | (with_reducible refine s_int1 ?_) | (with_reducible refine s_bm ?_) | (with_reducible refine s_bm0 ?_) | ((with_reducible refine' s_tyL ?hq ?_); (case hq => assumption)) | (with_reducible refine s_notN ?_) | (with_reducible refine s_min2 ?_) | (with_reducible refine s_max2 ?_) | (with_reducible refine s_nx ?_) | (with_reducible refine s_rt ?_) | (with_reducible refine s_bk ?_) | (with_reducible refine s_ct ?_) | (with_reducible refine iteT ?_) | (with_reducible refine iteNt ?_) | (with_reducible refine iteNf ?_) | ((with_reducible refine iteN ?hz ?_); (case hz => exact rfl)) | ((with_reducible refine iteY ?hz ?_); (case hz => exact rfl)) | (with_reducible refine iteF ?_) | ((with_reducible refine' s_ixT ?hq ?he ?_); (case hq => assumption); (case he => exact rfl)) | ((with_reducible refine' s_ixL ?hq ?he ?_); (case hq => assumption); (case he => exact rfl)) | ((with_reducible refine s_rI ?hc ?_); (case hc => first | assumption | exact mulOk (by assumption) (by assumption) | exact (show (0 : Int) < _ by decide) | omega)))
local macro_rules | `(tactic| walk_at "rd") => `(tactic| repeat walk_at "rd1")
variable {K : PySem.W.Frag} {c : Cs} {H : Hp} {vs : List V} {Q : VK} {E : XK}
abbrev EN (Q : VK) : Ends := { nx := fun _ H' => Q .non H', rt := Q }
theorem gcd_emod (a : Int) {b : Int} (hb : 0 < b) (ha : 0 ≤ a) : Int.gcd b (a % b) = Int.gcd a b := by
  have := gcd_step ha (Int.le_of_lt hb)
  rwa [Int.fmod_eq_emod_of_nonneg a (Int.le_of_lt hb)] at this
theorem ne_mono {j : Nat} {σ : St} {H : Hp} {Q Q' : Bool → Hp → Prop} (hQ : ∀ b H1, Q b H1 → Q' b H1) (h : tTest (tOp (rNeA K) (tVar j) (tC (.int 0))) σ H Q) : tTest (tOp (rNeA K) (tVar j) (tC (.int 0))) σ H Q' := by
  obtain ⟨v, e, h⟩ := h
  refine ⟨v, e, ?_⟩
  rcases h with ⟨h1, k, e2, q⟩ | ⟨d, e', h1, h2, h3, h4, k, e2, q⟩ | ⟨h1, k, e2, q⟩
  · exact .inl ⟨h1, k, e2, hQ _ _ q⟩
  · exact .inr (.inl ⟨d, e', h1, h2, h3, h4, k, e2, hQ _ _ q⟩)
  · exact .inr (.inr ⟨h1, k, e2, hQ _ _ q⟩)
theorem rd_common_divisor (h : spGcd vs H Q E) : t_common_divisor K (EN Q) (start ["one", "other", "left"] vs) H := by
  obtain ⟨a, b, rfl, ha, hb, q⟩ := h
  show t_common_divisor K (EN Q) [some (.int a), some (.int b), none] H
  refine s_seq ?_
  refine while_by (fun σ H' => H' = H ∧ ∃ a' b' l, σ = [some (.int a'), some (.int b'), l] ∧ 0 ≤ a' ∧ 0 ≤ b' ∧ Int.gcd a' b' = Int.gcd a b)
    (fun σ _ => match σ with | [_, some (.int b'), _] => b'.toNat | _ => 0) ⟨rfl, a, b, none, rfl, ha, hb, rfl⟩ ?_ (fun σ H Q Q' hQ h => ne_mono hQ h)
  rintro σ H' ⟨rfl, a', b', l, rfl, ha', hb', e⟩
  walk_at "rd"
  by_cases z : b' = 0
  · subst z
    refine iteN (by simp) ?_
    walk_at "rd"
    rw [← e, gcd_end ha'] at q
    exact q
  · refine iteY (by simp [z]) ?_
    have b0 : 0 < b' := by omega
    walk_at "rd"
    refine ⟨⟨rfl, b', a' % b', _, rfl, hb', Int.emod_nonneg _ z, by rw [gcd_emod a' b0 ha', e]⟩, ?_⟩
    have h1 := Int.emod_lt_of_pos a' b0
    have h2 := Int.emod_nonneg a' z
    show (a' % b').toNat < b'.toNat
    omega
theorem rd_is_whole (h : spWhole K vs H Q E) : t_is_whole K (EN Q) (start ["thing"] vs) H := by
  obtain ⟨x, t, rfl, ty, q⟩ := h
  show t_is_whole K (EN Q) [some x] H
  obtain ⟨b1, b2, e1, e2, eb⟩ := ty_whole ty
  walk_at "rd"
  refine ⟨_, _, _, _, b1, rfl, .of ty, .ty _, e1, ?_⟩
  walk_at "rd"
  rw [eb] at q
  cases b1 with
  | false => exact iteF q
  | true =>
    refine iteT ?_
    walk_at "rd"
    refine ⟨_, _, _, _, b2, rfl, .of ty, .ty _, e2, ?_⟩
    walk_at "rd"
    exact q
theorem rd__law_whole (h : spWhole K vs H Q E) : t__law_whole K (EN Q) (start ["_law_found"] vs) H := rd_is_whole h
theorem cm {i j : Int} (h : -(2 ^ 64) < j ∧ j < 2 ^ 64) : CMulX i j := .inl (.inr h)
theorem cml {i j : Int} (h : -(2 ^ 64) < i ∧ i < 2 ^ 64) : CMulX i j := .inl (.inl h)
theorem cd {i j : Int} (h : j ≠ 0) (l : j.natAbs < 2 ^ 64) : CDivB i j := ⟨h, Nat.lt_trans l (Nat.pow_lt_pow_right (by decide) (by decide))⟩
theorem fd {m k : Int} (m0 : 0 ≤ m) (k0 : 0 < k) : 0 ≤ m.fdiv k ∧ m.fdiv k ≤ m := by
  rw [Int.fdiv_eq_ediv_of_nonneg m (by omega)]
  exact ⟨Int.ediv_nonneg m0 (by omega), Int.ediv_le_self _ m0⟩
theorem kit_tt2 : PySem.W.kitOne K (.type "tuple") (.type "tuple") = some true := kit_t (by decide +kernel)
theorem kit_bb2 : PySem.W.kitOne K (.type "bool") (.type "bool") = some true := kit_t (by decide +kernel)
theorem rd_lowest (h : spLow K vs H Q E) : t_lowest K (EN Q) (start ["top", "bottom", "divisor"] vs) H := by
  obtain ⟨t, b, rfl, b0, sb, q⟩ := h
  show t_lowest K (EN Q) [some (.int t), some (.int b), none] H
  walk_at "rd"
  refine ⟨_, _, rfl, by split <;> omega, by split <;> omega, ?_⟩
  rw [gcd_abs]
  walk_at "rd"
  by_cases z : b < 0
  · refine iteY (decide_eq_true z) ?_
    obtain ⟨d0, dl, L, x1, y1⟩ := low2 (d := -(Int.gcd t b : Int)) b0 (by rw [if_pos z])
    have cd : ∀ i, CDivB i (-(Int.gcd t b : Int)) := fun i => ⟨d0, Nat.lt_of_le_of_lt dl sb⟩
    have cd1 := cd t
    have cd2 := cd b
    walk_at "rd"
    exact s_al ln2 fun p H' s e => q _ _ _ _ s (.of e) L
  · refine iteN (decide_eq_false z) ?_
    obtain ⟨d0, dl, L, x1, y1⟩ := low2 (d := (Int.gcd t b : Int)) b0 (by rw [if_neg z])
    have cd : ∀ i, CDivB i (Int.gcd t b : Int) := fun i => ⟨d0, Nat.lt_of_le_of_lt dl sb⟩
    have cd1 := cd t
    have cd2 := cd b
    walk_at "rd"
    exact s_al ln2 fun p H' s e => q _ _ _ _ s (.of e) L
theorem low_one {x B t b t' b' : Int} (b0 : 0 < B) (L : Low x B t b) (L' : Low x B t' b') : t = t' ∧ b = b' := by
  have h1 : b ∣ b' := (L.cross (t' := t') (b' := b') (by omega) L'.eq.symm).bottom L'.pos
  have h2 : b' ∣ b := (L'.cross (t' := t) (b' := b) (by omega) L.eq.symm).bottom L.pos
  have p := L.pos
  have p' := L'.pos
  have e : b = b' := Int.le_antisymm (Int.le_of_dvd p' h1) (Int.le_of_dvd p h2)
  subst e
  exact ⟨Int.eq_of_mul_eq_mul_right (by omega) (L.eq.trans L'.eq.symm), rfl⟩
theorem rd__law_cell (h : spCell K vs H Q E) : t__law_cell K (EN Q) (start ["_law_script", "_law_k", "_law_number"] vs) H := by
  obtain ⟨a, ns, k, rfl, S, k0, k1, q⟩ := h
  show t__law_cell K (EN Q) [some (.ref a), some (.int k), none] H
  walk_at "rd"
  by_cases hk : k < ((ns.map V.int).length : Int)
  · refine iteY (decide_eq_true hk) ?_
    walk_at "rd"
    rw [List.length_map] at hk
    obtain ⟨j, rfl⟩ := Int.eq_ofNat_of_zero_le k0
    have hj : j < ns.length := by omega
    exact s_ixSL S (atI_nat (v := .int ns[j]) (by simp [hj])) (q _)
  · refine iteN (decide_eq_false hk) ?_
    have c1 : CMulX k k := cml ⟨by omega, by omega⟩
    have c2 : CMulX (k * k) 104729 := cm (by decide)
    walk_at "rd"
    by_cases hl : (0 : Int) < ((ns.map V.int).length : Int)
    · refine iteY (decide_eq_true hl) ?_
      have c3 : CMulX k 5 := cm (by decide)
      walk_at "rd"
      obtain ⟨j, ej, jl⟩ : ∃ j : Nat, k * 5 % ((ns.map V.int).length : Int) = (j : Int) ∧ j < ns.length := by
        have a0 := Int.emod_nonneg (k * 5) (show ((ns.map V.int).length : Int) ≠ 0 by omega)
        have a1 := Int.emod_lt_of_pos (k * 5) hl
        obtain ⟨j, ej⟩ := Int.eq_ofNat_of_zero_le a0
        rw [List.length_map] at a1 ej
        exact ⟨j, by rw [List.length_map]; exact ej, by omega⟩
      rw [ej]
      refine s_ixSL S (atI_nat (v := .int ns[j]) (by simp [jl])) ?_
      have c4 : CMulX (ns[j] % 2147483629) 48271 := cm (by decide)
      walk_at "rd"
      have c5 : CMulX (k * k * 104729 + 69621 + ns[j] % 2147483629 * 48271) 16807 := cm (by decide)
      walk_at "rd"
      exact q _
    · refine iteN (decide_eq_false hl) ?_
      have c5 : CMulX (k * k * 104729 + 69621) 16807 := cm (by decide)
      walk_at "rd"
      exact q _
theorem rd__law_mixed (h : spMixed K vs H Q E) : t__law_mixed K (EN Q) (start ["_law_script", "_law_k"] vs) H := by
  obtain ⟨a, ns, k, rfl, S, k0, k1, q⟩ := h
  show t__law_mixed K (EN Q) [some (.ref a), some (.int k)] H
  walk_at "rd"
  refine ⟨_, _, _, rfl, S, k0, k1, fun z => ?_⟩
  have c1 : CMulX (z % 1000003) 48271 := cm (by decide)
  walk_at "rd"
  exact q _ (Int.emod_nonneg _ (by decide)) (Int.emod_lt_of_pos _ (by decide))
theorem rd_is_fraction (h : spIsF K vs H Q E) : t_is_fraction K (EN Q) (start ["thing", "top", "bottom"] vs) H := by
  obtain ⟨v, x, y, rfl, ⟨a, rfl, e⟩, ⟨x0, y0, g⟩, q⟩ := h
  show t_is_fraction K (EN Q) [some (.ref a), none, none] H
  have S := SqT.of (K := K) e
  walk_at "rd"
  refine ⟨_, _, _, _, true, rfl, .of (.tup e), .ty _, kit_tt2, ?_⟩
  walk_at "rd"
  refine ⟨_, _, rfl, .int x, ?_⟩
  walk_at "rd"
  refine ⟨_, _, rfl, .int y, ?_⟩
  walk_at "rd"
  refine iteY (decide_eq_true y0) ?_
  walk_at "rd"
  rw [if_neg (by omega)]
  refine ⟨_, _, rfl, x0, by omega, ?_⟩
  walk_at "rd"
  have e1 : decide (((Int.gcd x y : Nat) : Int) = 1) = true := by simp [g]
  rw [e1]
  exact q
theorem rd_is_from_nought (h : spIsF K vs H Q E) : t_is_from_nought K (EN Q) (start ["thing"] vs) H := by
  obtain ⟨v, x, y, rfl, ⟨a, rfl, e⟩, g, q⟩ := h
  show t_is_from_nought K (EN Q) [some (.ref a)] H
  have S := SqT.of (K := K) e
  walk_at "rd"
  refine ⟨_, _, _, rfl, ⟨a, rfl, e⟩, g, ?_⟩
  walk_at "rd"
  rw [decide_eq_true g.1]
  exact q
theorem rd_is_above_nought (h : spAbove K vs H Q E) : t_is_above_nought K (EN Q) (start ["thing"] vs) H := by
  obtain ⟨v, x, y, rfl, ⟨a, rfl, e⟩, g, x0, q⟩ := h
  show t_is_above_nought K (EN Q) [some (.ref a)] H
  have S := SqT.of (K := K) e
  walk_at "rd"
  refine ⟨_, _, _, rfl, ⟨a, rfl, e⟩, g, ?_⟩
  walk_at "rd"
  rw [decide_eq_true x0]
  exact q
theorem rd_part_of {aN : Addr} (hN : ∀ H, Rp K H (.ref aN) (.tuple [.int 0, .int 1])) (h : spPart K vs H Q E) : t_part_of K aN (EN Q) (start ["one", "other"] vs) H := by
  obtain ⟨_, _, x1, y1, x2, y2, rfl, ⟨p1, rfl, f1⟩, ⟨p2, rfl, f2⟩, y0, x0, ⟨a, b, c', d⟩, q⟩ := h
  show t_part_of K aN (EN Q) [some (.ref p1), some (.ref p2)] H
  have S1 := SqT.of (K := K) f1
  have S2 := SqT.of (K := K) f2
  walk_at "rd"
  refine .inr (.inl ⟨_, _, (FrV.of f2).rp, hN H, fr_shaped, fr_shaped, ?_⟩)
  rw [fr_eqv]
  walk_at "rd"
  have ne : ¬ x2 = 0 := by omega
  refine iteN (by simp [ne]) ?_
  have m1 : CMulX x1 y2 := .inr ⟨a.sm, d.sm⟩
  have m2 : CMulX y1 x2 := .inr ⟨b.sm, c'.sm⟩
  walk_at "rd"
  have yy : 0 < y1 * x2 := Int.mul_pos y0 x0
  exact ⟨_, _, rfl, by omega, (b.mul c').sm, fun x y v H' s f L => q _ _ _ _ s f L⟩
theorem rd_is_number_of (h : spPlace K vs H Q E) : t_is_number_of K (EN Q) (start ["many", "thing"] vs) H := by
  obtain ⟨n, s, rfl, s0, sn, q⟩ := h
  show t_is_number_of K (EN Q) [some (.int n), some (.int s)] H
  walk_at "rd"
  refine ⟨_, _, rfl, .int _, ?_⟩
  walk_at "rd"
  refine iteY (decide_eq_true s0) ?_
  walk_at "rd"
  rw [decide_eq_true sn]
  exact q
theorem rd_are_unlike_places (h : spUnlike K vs H Q E) : t_are_unlike_places K (EN Q) (start ["many", "start", "end"] vs) H := by
  obtain ⟨n, s, e, rfl, s0, sn, e0, en, ne, q⟩ := h
  show t_are_unlike_places K (EN Q) [some (.int n), some (.int s), some (.int e)] H
  walk_at "rd"
  refine ⟨n, s, rfl, s0, sn, ?_⟩
  walk_at "rd"
  refine ⟨n, e, rfl, e0, en, ?_⟩
  walk_at "rd"
  rw [decide_eq_false ne]
  exact q
theorem rd_road_fault (h : spFault K vs H Q E) : t_road_fault K (EN Q) (start ["many", "road"] vs) H := by
  obtain ⟨m, _, r, rfl, ⟨p, v1, v2, rfl, hp, f1, f2⟩, ok, q⟩ := h
  show t_road_fault K (EN Q) [some (.int m), some (.ref p)] H
  have S := SqT.of (K := K) hp
  walk_at "rd"
  refine ⟨_, _, _, rfl, ok.s0, ok.s1, ok.e0, ok.e1, ok.ne, ?_⟩
  walk_at "rd"
  refine ⟨_, _, _, rfl, f1, ok.f1, ?_⟩
  walk_at "rd"
  refine ⟨_, _, _, rfl, f2, ok.f2, ?_⟩
  walk_at "rd"
  refine ⟨_, _, _, _, true, rfl, .of (.bl r.la), .ty _, kit_bb2, ?_⟩
  walk_at "rd"
  exact q
theorem RdV.mono {H H' : Hp} {v : V} {r : Rd} (t : Tups H H') (h : RdV H v r) : RdV H' v r := by
  obtain ⟨p, v1, v2, rfl, e, f1, f2⟩ := h
  exact ⟨p, v1, v2, rfl, t.1 _ _ e, f1.mono t, f2.mono t⟩
theorem rd_opened_net (h : spOpened K vs H Q E) : t_opened_net K (EN Q) (start ["net", "road", "fault"] vs) H := by
  obtain ⟨p, l, m, rs, v, r, rfl, hp, hl, n12, rv, ok, q⟩ := h
  show t_opened_net K (EN Q) [some (.ref p), some v, none] H
  have S := SqT.of (K := K) hp
  have L := SqL.of (K := K) hl
  walk_at "rd"
  refine iteN (decide_eq_false (by omega)) ?_
  walk_at "rd"
  refine ⟨_, _, _, rfl, rv, ok, ?_⟩
  walk_at "rd"
  refine s_al ln1 fun l1 H1 s1 e1 => ?_
  refine s_catL (s1.seq L) (SqL.of e1) (Nat.le_trans (show rs.length + 1 ≤ 12 by omega) (by decide)) fun l2 H2 n2 s2 e2 => ?_
  walk_at "rd"
  refine s_al ln2 fun q2 H3 s3 e3 => ?_
  exact q q2 l2 H3 (Same.trans s1 (Same.trans s2 s3)) e3 (s3 _ _ e2) (s1.free n2)
theorem rd_check_road (h : spCheck K vs H Q E) : t_check_road K (EN Q) (start ["net", "number"] vs) H := by
  obtain ⟨p, l, m, k, rs, rfl, hp, hl, k0, k1, q⟩ := h
  show t_check_road K (EN Q) [some (.ref p), some (.int k)] H
  have S := SqT.of (K := K) hp
  have L := SqL.of (K := K) hl
  walk_at "rd"
  refine ⟨_, _, rfl, k0, k1, ?_⟩
  walk_at "rd"
  exact q
theorem rd_closed_net (h : spClosed K vs H Q E) : t_closed_net K (EN Q) (start ["net", "number"] vs) H := by
  obtain ⟨p, l, m, k, rs, rfl, hp, hl, k1, n12, q⟩ := h
  show t_closed_net K (EN Q) [some (.ref p), some (.int k)] H
  have S := SqT.of (K := K) hp
  have L := SqL.of (K := K) hl
  walk_at "rd"
  refine ⟨_, _, _, _, _, rfl, hp, hl, by omega, by omega, ?_⟩
  walk_at "rd"
  refine s_slL L fun l1 H1 n1 s1 e1 => ?_
  have L1 := s1.seq L
  have S1 := s1.tup S
  walk_at "rd"
  rw [show (k : Int) + 1 = ((k + 1 : Nat) : Int) by omega]
  refine s_slL L1 fun l2 H2 n2 s2 e2 => ?_
  rw [cut_to] at e1
  rw [cut_from] at e2
  refine s_catL (SqL.of (s2 _ _ e1)) (SqL.of e2) (Nat.le_trans (show (rs.take k).length + (rs.drop (k + 1)).length ≤ 12 by rw [List.length_take, List.length_drop]; omega) (by decide)) fun l3 H3 n3 s3 e3 => ?_
  walk_at "rd"
  refine s_al ln2 fun q2 H4 s4 e4 => ?_
  have s02 := Same.trans s1 s2
  exact q q2 l3 H4 (Same.trans s02 (Same.trans s3 s4)) e4 (s4 _ _ e3) (s02.free n3)
theorem low_fn {t b x y : Int} (b0 : 0 < b) (L : Low t b x y) : x = t.fdiv (Int.gcd t b) ∧ y = b.fdiv (Int.gcd t b) := by
  obtain ⟨d0, dl, L', _, _⟩ := low2 (t := t) (b := b) (d := (Int.gcd t b : Int)) (by omega) (by rw [if_neg (by omega)])
  exact low_one b0 L L'
theorem rd_widened_road (h : spWRoad K vs H Q E) : t_widened_road K (EN Q) (start ["road", "by"] vs) H := by
  obtain ⟨_, w, r, a, b, rfl, ⟨p, v1, v2, rfl, hp, f1, f2⟩, ⟨fw, y0, a0, b0, z1, z2, z3, z4⟩, q⟩ := h
  show t_widened_road K (EN Q) [some (.ref p), some w] H
  have S := SqT.of (K := K) hp
  walk_at "rd"
  refine ⟨_, _, _, _, _, _, rfl, f2, fw, y0, a0, ⟨z1, z2, z3, z4⟩, fun v x y H1 s1 fv L => ?_⟩
  have S1 := s1.tup S
  walk_at "rd"
  refine s_al ln5 fun p2 H2 s2 e2 => ?_
  have u := (Same.trans s1 s2).tups
  obtain ⟨rfl, rfl⟩ := low_fn (Int.mul_pos y0 a0) L
  exact q _ _ (Same.trans s1 s2) ⟨p2, v1, v, rfl, e2, f1.mono u, fv.mono s2.tups⟩
theorem WideIn.mono {H H' : Hp} {v w : V} {x y a b : Int} (t : Tups H H') (h : WideIn H v w x y a b) : WideIn H' v w x y a b := ⟨h.1.mono t, h.2⟩
theorem rd_widened_net (h : spWidened K vs H Q E) : t_widened_net K (EN Q) (start ["net", "number", "by", "roads"] vs) H := by
  obtain ⟨p, l, m, k, rs, v, w, r, a, b, rfl, hp, hl, hk, n12, rv, W, g, q⟩ := h
  show t_widened_net K (EN Q) [some (.ref p), some (.int k), some w, none] H
  have S := SqT.of (K := K) hp
  have L := SqL.of (K := K) hl
  have k1 : k < rs.length := (List.getElem?_eq_some_iff.mp hk).1
  walk_at "rd"
  refine ⟨_, _, _, _, _, rfl, hp, hl, by omega, by omega, ?_⟩
  walk_at "rd"
  refine ⟨_, _, _, rfl, W.1, ⟨by have := W.2.2.1; omega, W.2.2.2.1, g⟩, W.2.2.1, ?_⟩
  walk_at "rd"
  refine s_listL L fun l1 H1 n1 s1 e1 => ?_
  have L1 := SqL.of (K := K) e1
  have S1 := s1.tup S
  walk_at "rd"
  refine s_ixSL L1 (atI_nat hk) ?_
  walk_at "rd"
  refine ⟨_, _, _, _, _, rfl, rv.mono s1.tups, W.mono s1.tups, fun v' H2 s2 rv' => ?_⟩
  have e12 := s2 _ _ e1
  walk_at "rd"
  refine s_setL e12 k1 ?_
  have S3 : SqT K (upd H2 l1 (.lst (rs.set k v'))) p [.int m, .ref l] := SqT.of ((Tups.lst e12).1 _ _ (s2 _ _ (s1 _ _ hp)))
  walk_at "rd"
  refine s_al ln2 fun q2 H4 s4 e4 => ?_
  have s02 : Same H (upd H2 l1 (.lst (rs.set k v'))) := (Same.trans s1 s2).updN n1
  exact q q2 l1 v' H4 (Same.trans s02 s4) e4 (s4 _ _ upd_same) (rv'.mono ((Tups.lst e12).trans s4.tups)) n1
theorem rd__law_lowest (h : spLLow K vs H Q E) : t__law_lowest K (EN Q) (start ["_law_top", "_law_bottom", "_law_one", "_law_other"] vs) H := by
  obtain ⟨t, b, rfl, t0, b0, sb, q⟩ := h
  show t__law_lowest K (EN Q) [some (.int t), some (.int b), none, none] H
  walk_at "rd"
  rw [if_neg (by omega)]
  refine while_by (fun σ H' => H' = H ∧ ∃ a' b', σ = [some (.int t), some (.int b), some (.int a'), some (.int b')] ∧ 0 ≤ a' ∧ 0 ≤ b' ∧ Int.gcd a' b' = Int.gcd t b)
    (fun σ _ => match σ with | [_, _, _, some (.int b')] => b'.toNat | _ => 0) ⟨rfl, _, _, rfl, t0, by omega, rfl⟩ ?_ (fun σ H Q Q' hQ h => ne_mono hQ h)
  rintro σ H' ⟨rfl, a', b', rfl, ha', hb', e⟩
  walk_at "rd"
  by_cases z : b' = 0
  · subst z
    refine iteN (by simp) ?_
    have ea : a' = (Int.gcd t b : Int) := by rw [← e, gcd_end ha']
    rw [ea]
    obtain ⟨d0, dl, L, x1, y1⟩ := low2 (t := t) (b := b) (d := (Int.gcd t b : Int)) (by omega) (by rw [if_neg (by omega)])
    have cd : ∀ i, CDivB i (Int.gcd t b : Int) := fun i => ⟨d0, Nat.lt_of_le_of_lt dl sb⟩
    have cd1 := cd t
    have cd2 := cd b
    walk_at "rd"
    exact s_al ln2 fun p H' s e => q _ _ _ _ s (.of e) L
  · refine iteY (by simp [z]) ?_
    have b0 : 0 < b' := by omega
    walk_at "rd"
    refine ⟨_, _, rfl, ?_⟩
    walk_at "rd"
    refine ⟨⟨rfl, b', a' % b', rfl, hb', Int.emod_nonneg _ z, by rw [gcd_emod a' b0 ha', e]⟩, ?_⟩
    have h1 := Int.emod_lt_of_pos a' b0
    have h2 := Int.emod_nonneg a' z
    show (a' % b').toNat < b'.toNat
    omega
end W5

end

section
set_option maxHeartbeats 4000000
namespace W5
open PySem L2 Fr
local macro_rules | `(tactic| walk_at "rd1") => `(tactic| first | ((with_reducible refine' s_set2 ?hs ?_); (case hs => ((simp only [List.set_cons_succ, List.set_cons_zero]) <;> exact rfl))) | ((with_reducible refine' s_set ?hs ?_); (case hs => ((simp only [List.set_cons_succ, List.set_cons_zero]) <;> exact rfl))) | (with_reducible refine s_seq ?_) | (with_reducible refine s_asg ?_) | (with_reducible refine s_if ?_) | (with_reducible refine s_asgG ?_) | (with_reducible refine s_gsub ?_) | (with_reducible refine s_sl ?_) | (with_reducible refine s_noPart ?_) | (with_reducible refine s_part ?_) | (with_reducible refine s_exI ?_) | (with_reducible refine s_ret ?_) | (with_reducible refine s_op ?_) | (with_reducible refine s_c ?_) | (with_reducible refine s_cons ?_) | (with_reducible refine s_nil ?_) | (with_reducible refine s_call ?_) | (with_reducible refine s_cb ?_) | (with_reducible refine s_test ?_) | (with_reducible refine s_b ?_) | (with_reducible refine s_and ?_) | (with_reducible refine s_or ?_) | (with_reducible refine s_not ?_) | (with_reducible refine s_andV ?_) | (with_reducible refine s_orV ?_) | (with_reducible refine s_notV ?_) | (with_reducible refine s_ifx ?_) | (with_reducible refine s_chain ?_) | (with_reducible refine s_un ?_) | (with_reducible refine s_tup ?_) | (with_reducible refine s_lst ?_) | (with_reducible refine s_drop ?_) | (with_reducible refine s_retN ?_) | (with_reducible refine s_next ?_) | (with_reducible refine s_break ?_) | (with_reducible refine s_cont ?_) | (with_reducible refine s_par ?_) | ((with_reducible refine' s_var ?hv ?_); (case hv => exact rfl)) | (with_reducible refine s_bl ?_) | (with_reducible refine s_rI0 ?_) | (with_reducible refine s_eqI ?_) | (with_reducible refine s_neI ?_) | (with_reducible refine s_eqB ?_) | (with_reducible refine s_rU ?_) | (with_reducible refine s_eqAI ?_) | (with_reducible refine s_neAI ?_) | (with_reducible refine s_eqAB ?_) | (with_reducible refine s_addI ?_) | ((with_reducible refine' s_ixST ?hq ?he ?_); (case hq => assumption); (case he => exact rfl)) | ((with_reducible refine' s_ixSL ?hq ?he ?_); (case hq => assumption); (case he => exact rfl)) | ((with_reducible refine' s_abs1 ?_)) | ((with_reducible refine' s_lenL ?hq ?_); (case hq => assumption)) | ((with_reducible refine' s_lenT ?hq ?_); (case hq => assumption)) | (with_reducible refine s_isN ?_) | (with_reducible refine s_for ?_) | (with_reducible refine s_iList ?_) | (with_reducible refine s_iTup ?_) | (with_reducible refine s_iR1 ?_) | (with_reducible refine s_iR2 ?_) | (with_reducible refine s_iEnum ?_) | (with_reducible refine s_iZip ?_) | ((with_reducible refine' s_jList ?hq ?_); (case hq => assumption)) | ((with_reducible refine' s_jTup ?hq ?_); (case hq => assumption)) | ((with_reducible refine' s_jEnum ?hq ?_); (case hq => assumption)) | ((with_reducible refine' s_jZip ?hq ?hr ?_); (case hq => assumption); (case hr => assumption)) | ((with_reducible refine' s_aug ?hv ?_); (case hv => exact rfl)) | (with_reducible refine s_augS ?_) | (with_reducible refine s_ipI ?_) | (with_reducible refine s_int1 ?_) | (with_reducible refine s_bm ?_) | (with_reducible refine s_bm0 ?_) | ((with_reducible refine' s_tyL ?hq ?_); (case hq => assumption)) | (with_reducible refine s_notN ?_) | (with_reducible refine s_min2 ?_) | (with_reducible refine s_max2 ?_) | (with_reducible refine s_nx ?_) | (with_reducible refine s_rt ?_) | (with_reducible refine s_bk ?_) | (with_reducible refine s_ct ?_) | (with_reducible refine iteT ?_) | (with_reducible refine iteNt ?_) | (with_reducible refine iteNf ?_) | ((with_reducible refine iteN ?hz ?_); (case hz => exact rfl)) | ((with_reducible refine iteY ?hz ?_); (case hz => exact rfl)) | (with_reducible refine iteF ?_) | ((with_reducible refine' s_ixT ?hq ?he ?_); (case hq => assumption); (case he => exact rfl)) | ((with_reducible refine' s_ixL ?hq ?he ?_); (case hq => assumption); (case he => exact rfl)) | ((with_reducible refine s_rI ?hc ?_); (case hc => first | assumption | exact mulOk (by assumption) (by assumption) | exact (show (0 : Int) < _ by decide) | omega)))
local macro_rules | `(tactic| walk_at "rd") => `(tactic| repeat walk_at "rd1")
variable {K : PySem.W.Frag} {c : Cs} {H : Hp} {vs : List V} {Q : VK} {E : XK}
theorem low_sign {B x t b : Int} (b0 : 0 < B) (L : Low x B t b) : 0 ≤ t ↔ 0 ≤ x := by
  have e := L.eq
  have p := L.pos
  constructor
  · intro h
    refine Int.not_lt.mp fun z => ?_
    have h1 : x * b < 0 := Int.mul_neg_of_neg_of_pos z p
    have h2 : 0 ≤ t * B := Int.mul_nonneg h (Int.le_of_lt b0)
    omega
  · intro h
    refine Int.not_lt.mp fun z => ?_
    have h1 : t * B < 0 := Int.mul_neg_of_neg_of_pos z b0
    have h2 : 0 ≤ x * b := Int.mul_nonneg h (Int.le_of_lt p)
    omega
theorem sz_of {x M : Int} (h0 : 0 ≤ x) (h1 : x ≤ M) (hM : M < ((2 ^ 100 : Nat) : Int)) : Sz 100 x := Sz.of (Int.lt_of_lt_of_le (by decide +kernel) h0) (Int.lt_of_le_of_lt h1 hM)
theorem low_gd {t b x y : Int} (t0 : 0 ≤ t) (b0 : 0 < b) (t1 : t ≤ 10 ^ 18) (b1 : b ≤ 10 ^ 18) (L : Low t b x y) : Gd x y ∧ Sz 100 x ∧ Sz 100 y := by
  obtain ⟨l1, l2, l3⟩ := L.small b0
  have x0 := (low_sign b0 L).mpr t0
  exact ⟨⟨x0, l1, L.cop⟩, sz_of x0 (show x ≤ 10 ^ 18 by omega) (by decide +kernel), sz_of (by omega) (show y ≤ 10 ^ 18 by omega) (by decide +kernel)⟩
theorem rd__law_fraction (h : spFrac K vs H Q E) : t__law_fraction K (EN Q) (start ["_law_script", "_law_k", "_law_far", "_law_number", "_law_top", "_law_cell_here"] vs) H := by
  obtain ⟨a, ns, k, rfl, S, n63, k0, k1, q⟩ := h
  show t__law_fraction K (EN Q) [some (.ref a), some (.int k), none, none, none, none] H
  have c6 : CPow 10 6 := ⟨by decide, by decide, by decide⟩
  have c18 : CPow 10 18 := ⟨by decide, by decide, by decide⟩
  walk_at "rd"
  refine s_al ln3 fun lp H1 s1 e1 => ?_
  have S1 := s1.seq S
  walk_at "rd"
  refine ⟨_, _, _, rfl, S1, by decide, by decide, fun z z0 z1 => ?_⟩
  walk_at "rd"
  have pick : ∃ far : Int, atI ([.int 10, .int (10 ^ (6 : Int).toNat), .int (10 ^ (18 : Int).toNat)] : List V) (z % 3) = some (.int far) ∧ 0 < far ∧ far ≤ 10 ^ 18 := by
    have a0 := Int.emod_nonneg z (show (3 : Int) ≠ 0 by decide)
    have a1 := Int.emod_lt_of_pos z (show (0 : Int) < 3 by decide)
    generalize z % 3 = j at a0 a1
    rcases (by omega : j = 0 ∨ j = 1 ∨ j = 2) with rfl | rfl | rfl
    · exact ⟨_, rfl, by decide, by decide⟩
    · exact ⟨_, rfl, by decide, by decide⟩
    · exact ⟨_, rfl, by decide, by decide⟩
  obtain ⟨far, hf, far0, far1⟩ := pick
  refine s_ixSL (SqL.of e1) hf ?_
  walk_at "rd"
  refine ⟨_, _, _, rfl, S1, by omega, by omega, fun n n0 n1 => ?_⟩
  walk_at "rd"
  refine s_slS ?_
  walk_at "rd"
  refine s_slSL S1 fun p ys H2 np s2 e2 ll mm => ?_
  have S2 := SqL.of (K := K) e2
  walk_at "rd"
  refine for_list (xs := ys) (fun i σ H' => (∃ (z : Int) (v5 : Option V), σ = [some (.ref a), some (.int k), some (.int far), some (.int n), some (.int z), v5] ∧ 0 ≤ z) ∧ Same H2 H') ⟨⟨0, _, rfl, by decide⟩, Same.refl _⟩ ?_ ?_ ?_
  · rintro i σ H3 _ ⟨_, s3⟩
    exact s3.seq S2
  · rintro i x σ H3 hx ⟨⟨z, v5, rfl, _⟩, s3⟩
    obtain ⟨y, _, rfl⟩ := List.mem_map.mp (mm x (List.mem_of_getElem? hx))
    refine s_gn (σ' := [some (.ref a), some (.int k), some (.int far), some (.int n), some (.int z), some (.int y)]) rfl ?_
    dsimp only
    have c1 : CMulX z 1000003 := cm (by decide)
    walk_at "rd"
    exact ⟨⟨_, _, rfl, Int.emod_nonneg _ (by omega)⟩, s3⟩
  · rintro σ H3 ⟨⟨z, v5, rfl, zz⟩, s3⟩
    have d21 : CDivB n 21 := cd (by decide) (by decide)
    have d3 : CDivB n 3 := cd (by decide) (by decide)
    have m1 : CMulX ((z + n.fdiv 21) % far) (if decide (0 < n % 3) = true then 1 else 0) := cm (by split <;> decide)
    have t0 := Int.emod_nonneg (z + n.fdiv 21) (show far ≠ 0 by omega)
    have t1 := Int.emod_lt_of_pos (z + n.fdiv 21) far0
    have b0 := Int.emod_nonneg (n.fdiv 3) (show (7 : Int) ≠ 0 by decide)
    have b1 := Int.emod_lt_of_pos (n.fdiv 3) (show (0 : Int) < 7 by decide)
    walk_at "rd"
    generalize (z + n.fdiv 21) % far = u at *
    generalize n.fdiv 3 % 7 = w at *
    have T : 0 ≤ u * (if decide (0 < n % 3) = true then 1 else 0) ∧ u * (if decide (0 < n % 3) = true then 1 else 0) ≤ 10 ^ 18 := by
      split
      · rw [Int.mul_one]; omega
      · rw [Int.mul_zero]; omega
    generalize u * (if decide (0 < n % 3) = true then 1 else 0) = t at *
    refine ⟨_, _, rfl, T.1, by omega, (sz_of (M := 10) (by omega) (by omega) (by decide +kernel)).sm, fun x y v H4 s4 f L => ?_⟩
    obtain ⟨g, sx, sy⟩ := low_gd T.1 (by omega) T.2 (by omega) L
    exact q x y v H4 (Same.trans s1 (Same.trans s2 (Same.trans s3 s4))) f g sx sy
theorem rd__law_road (h : spRoad K vs H Q E) : t__law_road K (EN Q) (start ["_law_script", "_law_k", "_law_many", "_law_cell_here", "_law_start", "_law_end"] vs) H := by
  obtain ⟨a, ns, k, many, rfl, S, n63, k0, k1, h2, q⟩ := h
  show t__law_road K (EN Q) [some (.ref a), some (.int k), some (.int many), none, none, none] H
  walk_at "rd"
  refine ⟨_, _, _, rfl, S, by omega, by omega, fun m m0 m1 => ?_⟩
  have p1 : (0 : Int) < many := by omega
  have p2 : (0 : Int) < many - 1 := by omega
  have d6 : CDivB m 6 := cd (by decide) (by decide)
  have d36 : CDivB m 36 := cd (by decide) (by decide)
  walk_at "rd"
  refine ⟨_, _, _, rfl, S, n63, k0, by omega, fun x1 y1 v1 H1 s1 f1 g1 _ _ => ?_⟩
  walk_at "rd"
  refine ⟨_, _, _, rfl, s1.seq S, n63, by omega, by omega, fun x2 y2 v2 H2 s2 f2 g2 sx sy => ?_⟩
  walk_at "rd"
  refine s_al ln5 fun p H3 s3 e3 => ?_
  have b1 := Int.emod_nonneg m (show many ≠ 0 by omega)
  have b2 := Int.emod_lt_of_pos m p1
  have b3 := Int.emod_nonneg (m.fdiv 6) (show many - 1 ≠ 0 by omega)
  have b4 := Int.emod_lt_of_pos (m.fdiv 6) p2
  have b5 := Int.emod_nonneg (m % many + 1 + m.fdiv 6 % (many - 1)) (show many ≠ 0 by omega)
  have b6 := Int.emod_lt_of_pos (m % many + 1 + m.fdiv 6 % (many - 1)) p1
  have s23 := Same.trans s2 s3
  refine q _ ⟨m % many, (m % many + 1 + m.fdiv 6 % (many - 1)) % many, x1, y1, x2, y2, decide (m.fdiv 36 % 3 = 1)⟩ H3 (Same.trans s1 s23) ⟨p, v1, v2, rfl, e3, f1.mono s23.tups, f2.mono s3.tups⟩ ⟨b1, b2, b5, b6, fun e => ?_, g1, g2, sx, sy⟩
  dsimp only at e
  generalize m % many = u at *
  generalize m.fdiv 6 % (many - 1) = w at *
  by_cases hw : u + 1 + w < many
  · rw [Int.emod_eq_of_lt (by omega) hw] at e
    omega
  · have e2 : (u + 1 + w) % many = u + 1 + w - many := by
      rw [← Int.sub_emod_right]
      exact Int.emod_eq_of_lt (by omega) (by omega)
    omega
theorem spAlike_zero : ∀ vs H Q E, spAlike K 0 vs H Q E → False := by
  rintro vs H Q E ⟨n, x, y, _, h, _⟩
  omega
theorem spAlike_deep {d : Nat} (h : spAlike K (d + 1) vs H Q E) : 1 ≤ d := by
  obtain ⟨n, x, y, _, h, _⟩ := h
  omega
theorem Eqv.same {H H' : Hp} {n : Nat} {x y : V} (s : Same H H') (h : Eqv H n x y) : Eqv H' n x y := by
  induction h with
  | int n i => exact .int n i
  | bl n b => exact .bl n b
  | tup hp hq hl hz _ ih => exact .tup (s _ _ hp) (s _ _ hq) hl hz ih
  | lst hp hq hl hz _ ih => exact .lst (s _ _ hp) (s _ _ hq) hl hz ih
theorem kit_ib : PySem.W.kitOne K (.type "int") (.type "bool") = some false := kit_t (by decide +kernel)
theorem kit_tl : PySem.W.kitOne K (.type "tuple") (.type "list") = some false := kit_t (by decide +kernel)
theorem kit_ll2 : PySem.W.kitOne K (.type "list") (.type "list") = some true := kit_t (by decide +kernel)
theorem kitU {T : String} {b1 b2 : Bool} (h1 : PySem.W.kitOne K (.type T) (.type "tuple") = some b1) (h2 : PySem.W.kitOne K (.type T) (.type "list") = some b2) : PySem.W.kitAny K (.type T) [.type "tuple", .type "list"] = some (b1 || b2) := by
  cases b1 <;> cases b2 <;> simp [PySem.W.kitAny, h1, h2]
theorem kitU_i : PySem.W.kitAny K (.type "int") [.type "tuple", .type "list"] = some false := kitU (b1 := false) (b2 := false) (kit_t (by decide +kernel)) (kit_t (by decide +kernel))
theorem kitU_b : PySem.W.kitAny K (.type "bool") [.type "tuple", .type "list"] = some false := kitU (b1 := false) (b2 := false) (kit_t (by decide +kernel)) (kit_t (by decide +kernel))
theorem kitU_t : PySem.W.kitAny K (.type "tuple") [.type "tuple", .type "list"] = some true := kitU (b1 := true) (b2 := false) (kit_t (by decide +kernel)) (kit_t (by decide +kernel))
theorem kitU_l : PySem.W.kitAny K (.type "list") [.type "tuple", .type "list"] = some true := kitU (b1 := false) (b2 := true) (kit_t (by decide +kernel)) (kit_t (by decide +kernel))
theorem rd__law_alike {d : Nat} (h : spAlike K (d + 1) vs H Q E) : t__law_alike K d (EN Q) (start ["_law_found", "_law_due"] vs) H := by
  obtain ⟨n, x, y, rfl, hn, ev, q⟩ := h
  show t__law_alike K d (EN Q) [some x, some y] H
  cases ev with
  | int n i =>
    walk_at "rd"
    refine s_al ln2 fun p H1 s1 e1 => ?_
    refine ⟨_, _, _, _, _, false, rfl, .int i, e1, kitU_i, ?_⟩
    walk_at "rd"
    refine ⟨_, _, _, _, false, rfl, .of (.int i), .ty _, kit_ib, ?_⟩
    walk_at "rd"
    refine ⟨_, _, rfl, .int i, ?_⟩
    walk_at "rd"
    rw [decide_eq_true rfl]
    exact q _ s1
  | bl n b =>
    walk_at "rd"
    refine s_al ln2 fun p H1 s1 e1 => ?_
    refine ⟨_, _, _, _, _, false, rfl, .bl b, e1, kitU_b, ?_⟩
    walk_at "rd"
    refine ⟨_, _, _, _, true, rfl, .of (.bl b), .ty _, kit_bb2, ?_⟩
    walk_at "rd"
    refine ⟨_, _, _, _, true, rfl, .of (.bl b), .ty _, kit_bb2, ?_⟩
    walk_at "rd"
    rw [decide_eq_true rfl]
    exact q _ s1
  | @tup n p q' xs ys hp hq hl hz ih =>
    walk_at "rd"
    refine s_al ln2 fun p1 H1 s1 e1 => ?_
    refine ⟨_, _, _, _, _, true, rfl, .tup (s1 _ _ hq), e1, kitU_t, ?_⟩
    walk_at "rd"
    refine ⟨_, _, _, _, false, rfl, .of (.tup (s1 _ _ hq)), .ty _, kit_tl, ?_⟩
    walk_at "rd"
    refine ⟨_, _, _, _, false, rfl, .of (.tup (s1 _ _ hp)), .ty _, kit_tl, ?_⟩
    refine s_neSame (n := 0) (.bl _) (.bl _) (PD.bool _) ?_
    walk_at "rd"
    refine s_al ln2 fun p2 H2 s2 e2 => ?_
    have s12 := Same.trans s1 s2
    refine ⟨_, _, _, _, _, true, rfl, .tup (s12 _ _ hp), e2, kitU_t, ?_⟩
    have A := SqT.of (K := K) (s12 _ _ hp)
    have B := SqT.of (K := K) (s12 _ _ hq)
    walk_at "rd"
    refine iteN (by simp [hl]) ?_
    walk_at "rd"
    refine s_comp (σ' := [none, some (.ref p), some (.ref q')]) rfl ?_
    walk_at "rd"
    refine s_jR1 (by omega) ?_
    intro acc na
    rw [show ((ys.length : Int)).toNat = ys.length by omega]
    refine compR (fun i σ H' => (∃ v, σ = [v, some (.ref p), some (.ref q')]) ∧ Same H2 H' ∧ H' acc = some (.lst [])) ⟨⟨_, rfl⟩, Same.new na, upd_same⟩ ?_ ?_
    · rintro i σ H3 hi ⟨⟨v, rfl⟩, s3, ea⟩
      rw [show (0 : Int) + (i : Int) = (i : Int) from Int.zero_add _]
      refine s_gn (σ' := [some (.int (i : Int)), some (.ref p), some (.ref q')]) rfl ?_
      refine blkC ?_
      have A3 := s3.tup A
      have B3 := s3.tup B
      have hx : xs[i]? = some (xs[i]'(by omega)) := by simp
      have hy : ys[i]? = some (ys[i]'hi) := by simp
      walk_at "rd"
      refine s_ixST A3 (atI_nat hx) ?_
      walk_at "rd"
      refine s_ixST B3 (atI_nat hy) ?_
      walk_at "rd"
      refine ⟨n, _, _, rfl, by omega, (ih i _ _ hx hy).same (Same.trans s12 s3), fun H4 s4 => ?_⟩
      walk_at "rd"
      exact ⟨⟨_, rfl⟩, Same.trans s3 s4, s4 _ _ ea⟩
    · rintro σ H3 ⟨_, s3, ea⟩
      have A4 := SqL.of (K := K) ea
      walk_at "rd"
      exact q _ (Same.trans s12 s3)
  | @lst n p q' xs ys hp hq hl hz ih =>
    walk_at "rd"
    refine s_al ln2 fun p1 H1 s1 e1 => ?_
    refine ⟨_, _, _, _, _, true, rfl, .lst (s1 _ _ hq), e1, kitU_l, ?_⟩
    walk_at "rd"
    refine ⟨_, _, _, _, true, rfl, .of (.lst (s1 _ _ hq)), .ty _, kit_ll2, ?_⟩
    walk_at "rd"
    refine ⟨_, _, _, _, true, rfl, .of (.lst (s1 _ _ hp)), .ty _, kit_ll2, ?_⟩
    refine s_neSame (n := 0) (.bl _) (.bl _) (PD.bool _) ?_
    walk_at "rd"
    refine s_al ln2 fun p2 H2 s2 e2 => ?_
    have s12 := Same.trans s1 s2
    refine ⟨_, _, _, _, _, true, rfl, .lst (s12 _ _ hp), e2, kitU_l, ?_⟩
    have A := SqL.of (K := K) (s12 _ _ hp)
    have B := SqL.of (K := K) (s12 _ _ hq)
    walk_at "rd"
    refine iteN (by simp [hl]) ?_
    walk_at "rd"
    refine s_comp (σ' := [none, some (.ref p), some (.ref q')]) rfl ?_
    walk_at "rd"
    refine s_jR1 (by omega) ?_
    intro acc na
    rw [show ((ys.length : Int)).toNat = ys.length by omega]
    refine compR (fun i σ H' => (∃ v, σ = [v, some (.ref p), some (.ref q')]) ∧ Same H2 H' ∧ H' acc = some (.lst [])) ⟨⟨_, rfl⟩, Same.new na, upd_same⟩ ?_ ?_
    · rintro i σ H3 hi ⟨⟨v, rfl⟩, s3, ea⟩
      rw [show (0 : Int) + (i : Int) = (i : Int) from Int.zero_add _]
      refine s_gn (σ' := [some (.int (i : Int)), some (.ref p), some (.ref q')]) rfl ?_
      refine blkC ?_
      have A3 := s3.seq A
      have B3 := s3.seq B
      have hx : xs[i]? = some (xs[i]'(by omega)) := by simp
      have hy : ys[i]? = some (ys[i]'hi) := by simp
      walk_at "rd"
      refine s_ixSL A3 (atI_nat hx) ?_
      walk_at "rd"
      refine s_ixSL B3 (atI_nat hy) ?_
      walk_at "rd"
      refine ⟨n, _, _, rfl, by omega, (ih i _ _ hx hy).same (Same.trans s12 s3), fun H4 s4 => ?_⟩
      walk_at "rd"
      exact ⟨⟨_, rfl⟩, Same.trans s3 s4, s4 _ _ ea⟩
    · rintro σ H3 ⟨_, s3, ea⟩
      have A4 := SqL.of (K := K) ea
      walk_at "rd"
      exact q _ (Same.trans s12 s3)
theorem set_cut {rs : List V} {k : Nat} {v : V} (h : k < rs.length) : rs.take k ++ [v] ++ rs.drop (k + 1) = rs.set k v := by
  rw [List.set_eq_take_append_cons_drop, if_pos h]
  simp
theorem cut_len {rs : List V} {k : Nat} (n12 : rs.length ≤ 12) : (rs.take k).length ≤ 12 ∧ (rs.drop (k + 1)).length ≤ 12 := by
  rw [List.length_take, List.length_drop]
  omega
theorem rd__law_changed (h : spChanged K vs H Q E) : t__law_changed K (EN Q) (start ["_law_roads", "_law_at", "_law_by", "_law_slope", "_law_start", "_law_end", "_law_base", "_law_lane"] vs) H := by
  obtain ⟨l, k, rs, v, w, r, a, b, rfl, hl, hk, n12, ⟨p, v1, v2, rfl, hp, f1, ⟨q2, rfl, h2⟩⟩, ⟨⟨qw, rfl, hw⟩, y0, a0, b0, z1, z2, z3, z4⟩, x0, q⟩ := h
  show t__law_changed K (EN Q) [some (.ref l), some (.int k), some (.ref qw), none, none, none, none, none] H
  have L := SqL.of (K := K) hl
  have S := SqT.of (K := K) hp
  have S2 := SqT.of (K := K) h2
  have Sw := SqT.of (K := K) hw
  have k1 : k < rs.length := (List.getElem?_eq_some_iff.mp hk).1
  walk_at "rd"
  refine s_ixSL L (atI_nat hk) ?_
  refine s_gt5 S rfl ?_
  dsimp only [List.set]
  have m1 : CMulX r.x2 b := .inr ⟨z1.sm, z4.sm⟩
  have m2 : CMulX r.y2 a := .inr ⟨z2.sm, z3.sm⟩
  walk_at "rd"
  refine ⟨_, _, rfl, Int.mul_nonneg x0 (by omega), Int.mul_pos y0 a0, (z2.mul z3).sm, fun x y vn H1 s1 fv Lw => ?_⟩
  walk_at "rd"
  refine s_slL (s1.seq L) fun l1 H2 n1 s2 e1 => ?_
  walk_at "rd"
  refine s_al ln5 fun pr H3 s3 e3 => ?_
  walk_at "rd"
  refine s_al ln1 fun l2 H4 s4 e4 => ?_
  rw [cut_to] at e1
  have cl := cut_len (k := k) n12
  refine s_catL (SqL.of (s4 _ _ (s3 _ _ e1))) (SqL.of e4) (Nat.le_trans (show (rs.take k).length + 1 ≤ 13 by omega) (by decide)) fun l3 H5 n3 s5 e5 => ?_
  walk_at "rd"
  rw [show (k : Int) + 1 = ((k + 1 : Nat) : Int) by omega]
  have s05 := Same.trans s1 (Same.trans s2 (Same.trans s3 (Same.trans s4 s5)))
  refine s_slL (s05.seq L) fun l4 H6 n4 s6 e6 => ?_
  rw [cut_from] at e6
  refine s_catL (SqL.of (s6 _ _ e5)) (SqL.of e6) (Nat.le_trans (show (rs.take k ++ [V.ref pr]).length + (rs.drop (k + 1)).length ≤ 25 by rw [List.length_append]; simp only [List.length_singleton]; omega) (by decide)) fun l5 H7 n5 s7 e7 => ?_
  walk_at "rd"
  obtain ⟨rfl, rfl⟩ := low_fn (Int.mul_pos y0 a0) Lw
  rw [set_cut k1] at e7
  have s06 := Same.trans s05 s6
  have s37 := Same.trans s4 (Same.trans s5 (Same.trans s6 s7))
  have s27 := Same.trans s3 s37
  exact q l5 _ H7 (Same.trans s06 s7) e7 ⟨pr, v1, vn, rfl, s37 _ _ e3, f1.mono (Same.trans s06 s7).tups, fv.mono (Same.trans s2 s27).tups⟩ (s06.free n5)
end W5

end

section
set_option maxHeartbeats 4000000
namespace W5
open PySem L2 Fr
local macro_rules | `(tactic| walk_at "rd1") => `(tactic| first | ((with_reducible refine' s_set2 ?hs ?_); (case hs => ((simp only [List.set_cons_succ, List.set_cons_zero]) <;> exact rfl))) | ((with_reducible refine' s_set ?hs ?_); (case hs => ((simp only [List.set_cons_succ, List.set_cons_zero]) <;> exact rfl))) | (with_reducible refine s_seq ?_) | (with_reducible refine s_asg ?_) | (with_reducible refine s_if ?_) | (with_reducible refine s_asgG ?_) | (with_reducible refine s_gsub ?_) | (with_reducible refine s_sl ?_) | (with_reducible refine s_noPart ?_) | (with_reducible refine s_part ?_) | (with_reducible refine s_exI ?_) | (with_reducible refine s_ret ?_) | (with_reducible refine s_op ?_) | (with_reducible refine s_c ?_) | (with_reducible refine s_cons ?_) | (with_reducible refine s_nil ?_) | (with_reducible refine s_call ?_) | (with_reducible refine s_cb ?_) | (with_reducible refine s_test ?_) | (with_reducible refine s_b ?_) | (with_reducible refine s_and ?_) | (with_reducible refine s_or ?_) | (with_reducible refine s_not ?_) | (with_reducible refine s_andV ?_) | (with_reducible refine s_orV ?_) | (with_reducible refine s_notV ?_) | (with_reducible refine s_ifx ?_) | (with_reducible refine s_chain ?_) | (with_reducible refine s_un ?_) | (with_reducible refine s_tup ?_) | (with_reducible refine s_lst ?_) | (with_reducible refine s_drop ?_) | (with_reducible refine s_retN ?_) | (with_reducible refine s_next ?_) | (with_reducible refine s_break ?_) | (with_reducible refine s_cont ?_) | (with_reducible refine s_par ?_) | ((with_reducible refine' s_var ?hv ?_); (case hv => exact rfl)) | (with_reducible refine s_bl ?_) | (with_reducible refine s_rI0 ?_) | (with_reducible refine s_eqI ?_) | (with_reducible refine s_neI ?_) | (with_reducible refine s_eqB ?_) | (with_reducible refine s_rU ?_) | (with_reducible refine s_eqAI ?_) | (with_reducible refine s_neAI ?_) | (with_reducible refine s_eqAB ?_) | (with_reducible refine s_addI ?_) | ((with_reducible refine' s_ixST ?hq ?he ?_); (case hq => assumption); (case he => exact rfl)) | ((with_reducible refine' s_ixSL ?hq ?he ?_); (case hq => assumption); (case he => exact rfl)) | ((with_reducible refine' s_abs1 ?_)) | ((with_reducible refine' s_lenL ?hq ?_); (case hq => assumption)) | ((with_reducible refine' s_lenT ?hq ?_); (case hq => assumption)) | (with_reducible refine s_isN ?_) | (with_reducible refine s_for ?_) | (with_reducible refine s_iList ?_) | (with_reducible refine s_iTup ?_) | (with_reducible refine s_iR1 ?_) | (with_reducible refine s_iR2 ?_) | (with_reducible refine s_iEnum ?_) | (with_reducible refine s_iZip ?_) | ((with_reducible refine' s_jList ?hq ?_); (case hq => assumption)) | ((with_reducible refine' s_jTup ?hq ?_); (case hq => assumption)) | ((with_reducible refine' s_jEnum ?hq ?_); (case hq => assumption)) | ((with_reducible refine' s_jZip ?hq ?hr ?_); (case hq => assumption); (case hr => assumption)) | ((with_reducible refine' s_aug ?hv ?_); (case hv => exact rfl)) | (with_reducible refine s_augS ?_) | (with_reducible refine s_ipI ?_) | (with_reducible refine s_int1 ?_) | (with_reducible refine s_bm ?_) | (with_reducible refine s_bm0 ?_) | ((with_reducible refine' s_tyL ?hq ?_); (case hq => assumption)) | (with_reducible refine s_notN ?_) | (with_reducible refine s_min2 ?_) | (with_reducible refine s_max2 ?_) | (with_reducible refine s_nx ?_) | (with_reducible refine s_rt ?_) | (with_reducible refine s_bk ?_) | (with_reducible refine s_ct ?_) | (with_reducible refine iteT ?_) | (with_reducible refine iteNt ?_) | (with_reducible refine iteNf ?_) | ((with_reducible refine iteN ?hz ?_); (case hz => exact rfl)) | ((with_reducible refine iteY ?hz ?_); (case hz => exact rfl)) | (with_reducible refine iteF ?_) | ((with_reducible refine' s_ixT ?hq ?he ?_); (case hq => assumption); (case he => exact rfl)) | ((with_reducible refine' s_ixL ?hq ?he ?_); (case hq => assumption); (case he => exact rfl)) | ((with_reducible refine s_rI ?hc ?_); (case hc => first | assumption | exact mulOk (by assumption) (by assumption) | exact (show (0 : Int) < _ by decide) | omega)))
local macro_rules | `(tactic| walk_at "rd") => `(tactic| repeat walk_at "rd1")
variable {K : PySem.W.Frag} {c : Cs} {H : Hp} {vs : List V} {Q : VK} {E : XK}
theorem Nets.keep {H H' : Hp} {m : Int} {vs : List V} {ls : List Addr} {E : List (List Rd)} (t : Tups H H') (h : Nets H m vs ls E) (k : ∀ l ∈ ls, ∀ xs, H l = some (.lst xs) → H' l = some (.lst xs)) : Nets H' m vs ls E := by
  induction h with
  | nil => exact .nil
  | cons hd tl ih =>
    refine .cons ?_ (ih fun l hl => k l (List.mem_cons_of_mem _ hl))
    obtain ⟨p, rs, rfl, e, el, a, n⟩ := hd
    exact ⟨p, rs, rfl, t.1 _ _ e, k _ (by simp) _ el, a.imp fun _ _ z => z.mono t, n⟩
theorem Nets.lists {H : Hp} {m : Int} {vs : List V} {ls : List Addr} {E : List (List Rd)} (h : Nets H m vs ls E) : ∀ l ∈ ls, ∃ xs, H l = some (.lst xs) ∧ xs.length ≤ 12 := by
  induction h with
  | nil => intro l hl; cases hl
  | cons hd tl ih =>
    intro l hl
    rcases List.mem_cons.mp hl with rfl | hl
    · obtain ⟨p, rs, rfl, e, el, a, n⟩ := hd
      exact ⟨rs, el, n⟩
    · exact ih l hl
theorem Nets.snoc {H : Hp} {m : Int} {vs : List V} {ls : List Addr} {E : List (List Rd)} {v : V} {l : Addr} {R : List Rd} (h : Nets H m vs ls E) (t : TN H m v l R) : Nets H m (vs ++ [v]) (ls ++ [l]) (E ++ [R]) := by
  induction h with
  | nil => exact .cons t .nil
  | cons hd tl ih => exact .cons hd ih
theorem Nets.len {H : Hp} {m : Int} {vs : List V} {ls : List Addr} {E : List (List Rd)} (h : Nets H m vs ls E) : vs.length = E.length := by
  induction h with
  | nil => rfl
  | cons hd tl ih => simp [ih]
/-- what stands between the works -/
structure Wst (H0 H : Hp) (m : Int) (lt ld : Addr) (ts : List V) (tls : List Addr) (ds : List V) (dls : List Addr) (E : List (List Rd)) : Prop where
  same : Same H0 H
  t : H lt = some (.lst ts)
  d : H ld = some (.lst ds)
  nt : Nets H m ts tls E
  nd : Nets H m ds dls E
  far : ∀ l ∈ tls, H0 l = none ∧ l ≠ lt ∧ l ≠ ld ∧ l ∉ dls
  dd : ld ∉ dls
  td : lt ∉ dls
  ft : H0 lt = none
  fd : H0 ld = none
  ne : lt ≠ ld
theorem Wst.more {H0 H H1 H3 : Hp} {m : Int} {lt ld q l' q2 l'' : Addr} {ts ds rs1 rs2 : List V} {tls dls : List Addr} {E : List (List Rd)} {R : List Rd} (w : Wst H0 H m lt ld ts tls ds dls E)
    (s1 : Same H H1) (hq : H1 q = some (.tup [.int m, .ref l'])) (hv1 : H1 l' = some (.lst rs1)) (a1 : All2 (RdV H1) rs1 R) (n1 : rs1.length ≤ 12) (f1 : H l' = none)
    (s3 : Same (upd H1 lt (.lst (ts ++ [.ref q]))) H3) (hq2 : H3 q2 = some (.tup [.int m, .ref l''])) (hl2 : H3 l'' = some (.lst rs2)) (a2 : All2 (RdV H3) rs2 R) (n2 : rs2.length ≤ 12) (f2 : upd H1 lt (.lst (ts ++ [.ref q])) l'' = none) :
    Wst H0 (upd H3 ld (.lst (ds ++ [.ref q2]))) m lt ld (ts ++ [.ref q]) (tls ++ [l']) (ds ++ [.ref q2]) (dls ++ [l'']) (E ++ [R]) := by
  have e1 := s1 _ _ w.t
  have d1 := s1 _ _ w.d
  have t12 : Tups H1 (upd H1 lt (.lst (ts ++ [.ref q]))) := Tups.lst e1
  have d2 : upd H1 lt (.lst (ts ++ [.ref q])) ld = some (.lst ds) := by rw [upd_ne (fun e => w.ne e.symm)]; exact d1
  have d3 := s3 _ _ d2
  have t3 := s3 _ _ (upd_same (H := H1) (a := lt) (o := .lst (ts ++ [.ref q])))
  have t34 : Tups H3 (upd H3 ld (.lst (ds ++ [.ref q2]))) := Tups.lst d3
  have t14 := (t12.trans s3.tups).trans t34
  have t04 := s1.tups.trans t14
  have nlt : l' ≠ lt := fun e => by rw [e, w.t] at f1; cases f1
  have nld : l' ≠ ld := fun e => by rw [e, w.d] at f1; cases f1
  have mlt : l'' ≠ lt := fun e => by rw [e, upd_same] at f2; cases f2
  have mld : l'' ≠ ld := fun e => by rw [e, d2] at f2; cases f2
  have up : ∀ l, l ≠ lt → l ≠ ld → ∀ xs, H1 l = some (.lst xs) → upd H3 ld (.lst (ds ++ [.ref q2])) l = some (.lst xs) := fun l h1 h2 xs e => by
    rw [upd_ne h2]
    exact s3 _ _ (by rw [upd_ne h1]; exact e)
  refine ⟨?_, ?_, upd_same, ?_, ?_, ?_, ?_, ?_, w.ft, w.fd, w.ne⟩
  · have s2 : Same H0 (upd H1 lt (.lst (ts ++ [.ref q]))) := (Same.trans w.same s1).updN w.ft
    exact (Same.trans s2 s3).updN w.fd
  · rw [upd_ne w.ne]
    exact t3
  · refine Nets.snoc (w.nt.keep t04 fun l hl xs e => up l (w.far l hl).2.1 (w.far l hl).2.2.1 xs (s1 _ _ e)) ⟨q, rs1, rfl, t14.1 _ _ hq, up _ nlt nld _ hv1, a1.imp fun _ _ z => z.mono t14, n1⟩
  · refine Nets.snoc (w.nd.keep t04 fun l hl xs e => up l (fun z => w.td (z ▸ hl)) (fun z => w.dd (z ▸ hl)) xs (s1 _ _ e)) ⟨q2, rs2, rfl, t34.1 _ _ hq2, ?_, a2.imp fun _ _ z => z.mono t34, n2⟩
    rw [upd_ne mld]
    exact hl2
  · intro l hl
    rcases List.mem_append.mp hl with hl | hl
    · obtain ⟨a, b, c, d⟩ := w.far l hl
      refine ⟨a, b, c, fun z => ?_⟩
      rcases List.mem_append.mp z with z | z
      · exact d z
      · simp only [List.mem_singleton] at z
        obtain ⟨xs, ex, _⟩ := w.nt.lists l hl
        rw [← z, upd_ne b, s1 _ _ ex] at f2
        cases f2
    · simp only [List.mem_singleton] at hl
      subst hl
      refine ⟨w.same.free f1, nlt, nld, fun z => ?_⟩
      rcases List.mem_append.mp z with z | z
      · obtain ⟨xs, ex, _⟩ := w.nd.lists _ z
        rw [ex] at f1
        cases f1
      · simp only [List.mem_singleton] at z
        rw [← z, upd_ne nlt, hv1] at f2
        cases f2
  · intro z
    rcases List.mem_append.mp z with z | z
    · exact w.dd z
    · simp only [List.mem_singleton] at z
      exact mld z.symm
  · intro z
    rcases List.mem_append.mp z with z | z
    · exact w.td z
    · simp only [List.mem_singleton] at z
      exact mlt z.symm
theorem wideAt_some {Rs : List Rd} {k : Nat} {a b : Int} {r : Rd} (h : Rs[k]? = some r) : wideAt Rs k a b = Rs.set k (wide r a b) := by
  unfold wideAt
  rw [h]
theorem wst_app {n : Nat} (h : n ≤ 3) : n < sizeLine := Nat.lt_of_le_of_lt h (by decide)
theorem rd_worked2 {H0 : Hp} {p l lr lt ld : Addr} {m : Int} {k : Nat} {rs : List V} {Rs : List Rd} {v w : V} {r : Rd} {a b : Int} {ts ds : List V} {tls dls : List Addr} {E1 : List (List Rd)}
    (hp : H0 p = some (.tup [.int m, .ref l])) (hl : H0 l = some (.lst rs)) (n12 : rs.length ≤ 12) (hk : 0 < rs.length → k < rs.length) (hR : All2 (RdV H0) rs Rs) (okR : ∀ r ∈ Rs, RdOk m r) (fw : FrV H0 w a b) (a0 : 0 < a) (b0 : 0 < b) (sa : Sz 100 a) (sb : Sz 100 b) (g : Int.gcd a b = 1)
    (hlr : H0 lr = some (.lst rs)) (W : Wst H0 H m lt ld ts tls ds dls E1) (hE : E1.length ≤ 1) (EE : E1 ++ (if 0 < Rs.length then [Rs.take k ++ Rs.drop (k + 1), wideAt Rs k a b] else []) = exs Rs r k a b)
    (q : ∀ o lt ld ts tls ds dls H', Same H0 H' → H' o = some (.lst [.ref lt, .ref ld]) → H' lt = some (.lst ts) → H' ld = some (.lst ds) → Nets H' m ts tls (exs Rs r k a b) → Nets H' m ds dls (exs Rs r k a b) → (∀ l ∈ tls, H0 l = none ∧ l ≠ lt ∧ l ≠ ld ∧ l ∉ dls) → ld ∉ dls → Q (.ref o) H') :
    (tSeq (tIfS (tTest (tOp (rI0 fun i j => .bl (decide (j < i))) (tCB (rLen K) (tCons (tVar 4) tNil)) (tC (.int 0)))) (tSeq (tDrop (tBM K "list" rAppend (tVar 6) (tCons (tCall (spClosed K) [] E0 (tCons (tVar 0) (tCons (tVar 2) tNil))) tNil)))
    (tSeq (tDrop (tBM K "list" rAppend (tVar 5) (tCons (tTup (tCons (tOp (rIx K) (tVar 0) (tC (.int 0))) (tCons (tOp (rAddA K) (tSl (rSlL K) (tVar 4) tNoPart (tPart (tVar 2))) (tSl (rSlL K) (tVar 4) (tPart (tOp (rAddA K) (tVar 2) (tC (.int 1)))) tNoPart)) tNil))) tNil)))
    (tSeq (tDrop (tBM K "list" rAppend (tVar 6) (tCons (tCall (spWidened K) [] E0 (tCons (tVar 0) (tCons (tVar 2) (tCons (tVar 3) tNil)))) tNil)))
    (tDrop (tBM K "list" rAppend (tVar 5) (tCons (tTup (tCons (tOp (rIx K) (tVar 0) (tC (.int 0))) (tCons (tCall (spChanged K) [] E0 (tCons (tVar 4) (tCons (tVar 2) (tCons (tVar 3) tNil)))) tNil))) tNil)))))) tNext)
    (tRet (tLst (tCons (tVar 6) (tCons (tVar 5) tNil))))) (EN Q) [some (.ref p), some v, some (.int k), some w, some (.ref lr), some (.ref ld), some (.ref lt)] H := by
  have Lr := SqL.of (K := K) (W.same _ _ hlr)
  have lR := hR.len
  have fin : ∀ {ts ds : List V} {tls dls : List Addr} {H' H'' : Hp} {o : Addr}, Wst H0 H' m lt ld ts tls ds dls (exs Rs r k a b) → Same H' H'' → H'' o = some (.lst [.ref lt, .ref ld]) → Q (.ref o) H'' := fun {ts ds tls dls H' H'' o} W s e =>
    q o lt ld ts tls ds dls H'' (Same.trans W.same s) e (s _ _ W.t) (s _ _ W.d) (W.nt.keep s.tups fun _ _ _ e => s _ _ e) (W.nd.keep s.tups fun _ _ _ e => s _ _ e) W.far W.dd
  walk_at "rd"
  by_cases hz : 0 < rs.length
  · refine iteY (decide_eq_true (by omega)) ?_
    rw [if_pos (by omega)] at EE
    have k1 := hk hz
    have nt := W.nt.len
    have ndl := W.nd.len
    walk_at "rd"
    refine s_tyL (SqL.of W.t) ?_
    walk_at "rd"
    refine ⟨_, _, _, _, _, rfl, W.same _ _ hp, W.same _ _ hl, k1, n12, fun q1 l1 H1 s1 e1 el1 nl1 => ?_⟩
    walk_at "rd"
    refine s_app (s1 _ _ W.t) (wst_app (by omega)) ?_
    have s01 := Same.trans W.same s1
    have sA : Same H0 (upd H1 lt (.lst (ts ++ [.ref q1]))) := s01.updN W.ft
    have dA : upd H1 lt (.lst (ts ++ [.ref q1])) ld = some (.lst ds) := by
      rw [upd_ne (fun e => W.ne e.symm)]
      exact s1 _ _ W.d
    have DA := SqL.of (K := K) dA
    walk_at "rd"
    have SpA := SqT.of (K := K) (sA _ _ hp)
    have SrA := SqL.of (K := K) (sA _ _ hlr)
    walk_at "rd"
    refine s_slL SrA fun l2 H2 n2 s2 e2 => ?_
    walk_at "rd"
    rw [show (k : Int) + 1 = ((k + 1 : Nat) : Int) by omega]
    refine s_slL (s2.seq SrA) fun l3 H3 n3 s3 e3 => ?_
    rw [cut_to] at e2
    rw [cut_from] at e3
    have cl := cut_len (k := k) n12
    refine s_catL (SqL.of (s3 _ _ e2)) (SqL.of e3) (Nat.le_trans (show (rs.take k).length + (rs.drop (k + 1)).length ≤ 24 by omega) (by decide)) fun l4 H4 n4 s4 e4 => ?_
    walk_at "rd"
    refine s_al ln2 fun q2 H5 s5 e5 => ?_
    have sA4 := Same.trans s2 (Same.trans s3 s4)
    have sA5 := Same.trans sA4 s5
    walk_at "rd"
    refine s_app (sA5 _ _ dA) (wst_app (by omega)) ?_
    have lcut : (rs.take k ++ rs.drop (k + 1)).length ≤ 12 := by rw [List.length_append, List.length_take, List.length_drop]; omega
    have W1 := W.more (R := Rs.take k ++ Rs.drop (k + 1)) s1 e1 el1 (((hR.imp fun _ _ z => z.mono s01.tups).take k).append ((hR.imp fun _ _ z => z.mono s01.tups).drop (k + 1))) lcut nl1 sA5 e5 (s5 _ _ e4)
      (((hR.imp fun _ _ z => z.mono (Same.trans sA sA5).tups).take k).append ((hR.imp fun _ _ z => z.mono (Same.trans sA sA5).tups).drop (k + 1))) lcut ((Same.trans s2 s3).free n4)
    have Td := SqL.of (K := K) W1.t
    generalize upd H5 ld (.lst (ds ++ [.ref q2])) = G at W1 Td ⊢
    have hG := W1.same
    walk_at "rd"
    obtain ⟨rv, erv⟩ : ∃ rv, rs[k]? = some rv := ⟨rs[k], by simp [k1]⟩
    obtain ⟨R, eR, hrv⟩ := hR.get erv
    have okr := okR R (List.mem_of_getElem? eR)
    have wi : ∀ {H' : Hp}, Same H0 H' → WideIn H' rv w R.x2 R.y2 a b := fun s => ⟨fw.mono s.tups, okr.f2.2.1, a0, b0, okr.z1.mono (by decide), okr.z2.mono (by decide), sa.mono (by decide), sb.mono (by decide)⟩
    refine ⟨_, _, _, _, _, rv, _, R, _, _, rfl, hG _ _ hp, hG _ _ hl, erv, n12, hrv.mono hG.tups, wi hG, g, fun q3 l6 v6 H6 s6 e6 el6 r6 nl6 => ?_⟩
    have sG6 := Same.trans hG s6
    walk_at "rd"
    refine s_app (s6 _ _ W1.t) (wst_app (by rw [List.length_append]; simp only [List.length_singleton]; omega)) ?_
    have sB : Same H0 (upd H6 lt (.lst (ts ++ [.ref q1] ++ [.ref q3]))) := sG6.updN W1.ft
    have tB : Tups H6 (upd H6 lt (.lst (ts ++ [.ref q1] ++ [.ref q3]))) := Tups.lst (s6 _ _ W1.t)
    have dB : upd H6 lt (.lst (ts ++ [.ref q1] ++ [.ref q3])) ld = some (.lst (ds ++ [.ref q2])) := by
      rw [upd_ne (fun e => W.ne e.symm)]
      exact s6 _ _ W1.d
    have DB := SqL.of (K := K) dB
    have SpB := SqT.of (K := K) (sB _ _ hp)
    walk_at "rd"
    refine ⟨_, _, _, rv, _, R, _, _, rfl, sB _ _ hlr, erv, n12, hrv.mono sB.tups, wi sB, okr.f2.1, fun l7 v7 H7 s7 e7 r7 nl7 => ?_⟩
    walk_at "rd"
    refine s_al ln2 fun q4 H8 s8 e8 => ?_
    have sB8 := Same.trans s7 s8
    walk_at "rd"
    refine s_app (sB8 _ _ dB) (wst_app (by rw [List.length_append]; simp only [List.length_singleton]; omega)) ?_
    have W2 := W1.more (R := Rs.set k (wide R a b)) s6 e6 el6 ((hR.imp fun _ _ z => z.mono sG6.tups).set r6 k) (by rw [List.length_set]; exact n12) nl6 sB8 e8 (s8 _ _ e7) ((hR.imp fun _ _ z => z.mono (Same.trans sB sB8).tups).set (r7.mono s8.tups) k) (by rw [List.length_set]; exact n12) nl7
    have E2 : E1 ++ [Rs.take k ++ Rs.drop (k + 1)] ++ [wideAt Rs k a b] = exs Rs r k a b := by
      rw [List.append_assoc]
      exact EE
    rw [← wideAt_some eR, E2] at W2
    generalize upd H8 ld (.lst (ds ++ [.ref q2] ++ [.ref q4])) = G2 at W2 ⊢
    walk_at "rd"
    exact s_al ln2 fun o H9 s9 e9 => fin W2 s9 e9
  · refine iteN (decide_eq_false (by omega)) ?_
    rw [if_neg (by omega), List.append_nil] at EE
    rw [EE] at W
    walk_at "rd"
    exact s_al ln2 fun o H9 s9 e9 => fin W s9 e9
theorem rd__law_worked (h : spWorked K vs H Q E) : t__law_worked K (EN Q) (start ["_law_net", "_law_road_here", "_law_at", "_law_by", "_law_roads", "_law_due", "_law_told"] vs) H := by
  obtain ⟨p, l, m, k, rs, Rs, v, w, r, a, b, rfl, hp, hl, n12, hk, hR, okR, rv, ok, fw, a0, b0, sa, sb, g, q⟩ := h
  show t__law_worked K (EN Q) [some (.ref p), some v, some (.int k), some w, none, none, none] H
  have Sp := SqT.of (K := K) hp
  have L := SqL.of (K := K) hl
  walk_at "rd"
  refine s_listL L fun lr H1 n1 s1 e1 => ?_
  walk_at "rd"
  refine s_alN ln0 fun ld H2 n2 s2 e2 => ?_
  walk_at "rd"
  refine s_alN ln0 fun lt H3 n3 s3 e3 => ?_
  have s12 := Same.trans s1 s2
  have s13 := Same.trans s12 s3
  have Lr := SqL.of (K := K) (s3 _ _ (s2 _ _ e1))
  have nlt : H1 lt = none := s2.free n3
  have ne : lt ≠ ld := fun e => by
    rw [e] at n3
    rw [e2] at n3
    cases n3
  have W : Wst H1 H3 m lt ld [] [] [] [] [] := ⟨Same.trans s2 s3, e3, s3 _ _ e2, .nil, .nil, fun l hl => (by cases hl), (by simp), (by simp), nlt, n2, ne⟩
  have lR := hR.len
  have hR1 := hR.imp fun _ _ z => z.mono s1.tups
  have rv1 := rv.mono s1.tups
  have q1 : ∀ o lt ld ts tls ds dls H', Same H1 H' → H' o = some (.lst [.ref lt, .ref ld]) → H' lt = some (.lst ts) → H' ld = some (.lst ds) → Nets H' m ts tls (exs Rs r k a b) → Nets H' m ds dls (exs Rs r k a b) → (∀ l ∈ tls, H1 l = none ∧ l ≠ lt ∧ l ≠ ld ∧ l ∉ dls) → ld ∉ dls → Q (.ref o) H' :=
    fun o lt ld ts tls ds dls H' s e1 e2 e3 N1 N2 F d => q o lt ld ts tls ds dls H' (Same.trans s1 s) e1 e2 e3 N1 N2 (fun l hl => ⟨s1.free (F l hl).1, (F l hl).2⟩) d
  walk_at "rd"
  by_cases hz : rs.length < 12
  · refine iteY (decide_eq_true (by omega)) ?_
    have Td := SqL.of (K := K) e3
    walk_at "rd"
    refine ⟨_, _, _, _, _, r, rfl, s13 _ _ hp, s13 _ _ hl, hz, rv.mono s13.tups, ok, fun q1' l1 H4 s4 e4 el4 nl4 => ?_⟩
    walk_at "rd"
    refine s_app (s4 _ _ e3) (wst_app (by simp)) ?_
    have s14 := Same.trans W.same s4
    have sA : Same H1 (upd H4 lt (.lst ([] ++ [.ref q1']))) := s14.updN nlt
    have dA : upd H4 lt (.lst ([] ++ [.ref q1'])) ld = some (.lst []) := by
      rw [upd_ne (fun e => ne e.symm)]
      exact s4 _ _ W.d
    have DA := SqL.of (K := K) dA
    have SpA := SqT.of (K := K) (sA _ _ (s1 _ _ hp))
    have SrA := SqL.of (K := K) (sA _ _ e1)
    walk_at "rd"
    refine s_al ln1 fun l5 H5 s5 e5 => ?_
    refine s_catL (s5.seq SrA) (SqL.of e5) (Nat.le_trans (show rs.length + 1 ≤ 13 by omega) (by decide)) fun l6 H6 n6 s6 e6 => ?_
    walk_at "rd"
    refine s_al ln2 fun q2 H7 s7 e7 => ?_
    have sA7 := Same.trans s5 (Same.trans s6 s7)
    walk_at "rd"
    refine s_app (sA7 _ _ dA) (wst_app (by simp)) ?_
    have lpush : (rs ++ [v]).length ≤ 12 := by rw [List.length_append]; simp only [List.length_singleton]; omega
    have s17 := Same.trans sA sA7
    have W1 := W.more (R := Rs ++ [r]) s4 e4 el4 ((hR1.imp fun _ _ z => z.mono s14.tups).push (rv1.mono s14.tups)) lpush nl4 sA7 e7 (s7 _ _ e6) ((hR1.imp fun _ _ z => z.mono s17.tups).push (rv1.mono s17.tups)) lpush (s5.free n6)
    generalize upd H7 ld (.lst ([] ++ [.ref q2])) = G at W1 ⊢
    refine s_next ?_
    refine s_nx ?_
    exact rd_worked2 (s1 _ _ hp) (s1 _ _ hl) n12 hk hR1 okR (fw.mono s1.tups) a0 b0 sa sb g e1 W1 (by simp) (by unfold exs; rw [if_pos (show Rs.length < 12 by omega)]; rfl) q1
  · refine iteN (decide_eq_false (by omega)) ?_
    refine s_next ?_
    refine s_nx ?_
    exact rd_worked2 (s1 _ _ hp) (s1 _ _ hl) n12 hk hR1 okR (fw.mono s1.tups) a0 b0 sa sb g e1 W (by simp) (by unfold exs; rw [if_neg (show ¬ Rs.length < 12 by omega)]) q1
end W5

end

section
set_option maxHeartbeats 4000000
namespace W5
open PySem L2 Fr
local macro_rules | `(tactic| walk_at "rd1") => `(tactic| first | ((with_reducible refine' s_set2 ?hs ?_); (case hs => ((simp only [List.set_cons_succ, List.set_cons_zero]) <;> exact rfl))) | ((with_reducible refine' s_set ?hs ?_); (case hs => ((simp only [List.set_cons_succ, List.set_cons_zero]) <;> exact rfl))) | (with_reducible refine s_seq ?_) | (with_reducible refine s_asg ?_) | (with_reducible refine s_if ?_) | (with_reducible refine s_asgG ?_) | (with_reducible refine s_gsub ?_) | (with_reducible refine s_sl ?_) | (with_reducible refine s_noPart ?_) | (with_reducible refine s_part ?_) | (with_reducible refine s_exI ?_) | (with_reducible refine s_ret ?_) | (with_reducible refine s_op ?_) | (with_reducible refine s_c ?_) | (with_reducible refine s_cons ?_) | (with_reducible refine s_nil ?_) | (with_reducible refine s_call ?_) | (with_reducible refine s_cb ?_) | (with_reducible refine s_test ?_) | (with_reducible refine s_b ?_) | (with_reducible refine s_and ?_) | (with_reducible refine s_or ?_) | (with_reducible refine s_not ?_) | (with_reducible refine s_andV ?_) | (with_reducible refine s_orV ?_) | (with_reducible refine s_notV ?_) | (with_reducible refine s_ifx ?_) | (with_reducible refine s_chain ?_) | (with_reducible refine s_un ?_) | (with_reducible refine s_tup ?_) | (with_reducible refine s_lst ?_) | (with_reducible refine s_drop ?_) | (with_reducible refine s_retN ?_) | (with_reducible refine s_next ?_) | (with_reducible refine s_break ?_) | (with_reducible refine s_cont ?_) | (with_reducible refine s_par ?_) | ((with_reducible refine' s_var ?hv ?_); (case hv => exact rfl)) | (with_reducible refine s_bl ?_) | (with_reducible refine s_rI0 ?_) | (with_reducible refine s_eqI ?_) | (with_reducible refine s_neI ?_) | (with_reducible refine s_eqB ?_) | (with_reducible refine s_rU ?_) | (with_reducible refine s_eqAI ?_) | (with_reducible refine s_neAI ?_) | (with_reducible refine s_eqAB ?_) | (with_reducible refine s_addI ?_) | ((with_reducible refine' s_ixST ?hq ?he ?_); (case hq => assumption); (case he => exact rfl)) | ((with_reducible refine' s_ixSL ?hq ?he ?_); (case hq => assumption); (case he => exact rfl)) | ((with_reducible refine' s_abs1 ?_)) | ((with_reducible refine' s_lenL ?hq ?_); (case hq => assumption)) | ((with_reducible refine' s_lenT ?hq ?_); (case hq => assumption)) | (with_reducible refine s_isN ?_) | (with_reducible refine s_for ?_) | (with_reducible refine s_iList ?_) | (with_reducible refine s_iTup ?_) | (with_reducible refine s_iR1 ?_) | (with_reducible refine s_iR2 ?_) | (with_reducible refine s_iEnum ?_) | (with_reducible refine s_iZip ?_) | ((with_reducible refine' s_jList ?hq ?_); (case hq => assumption)) | ((with_reducible refine' s_jTup ?hq ?_); (case hq => assumption)) | ((with_reducible refine' s_jEnum ?hq ?_); (case hq => assumption)) | ((with_reducible refine' s_jZip ?hq ?hr ?_); (case hq => assumption); (case hr => assumption)) | ((with_reducible refine' s_aug ?hv ?_); (case hv => exact rfl)) | (with_reducible refine s_augS ?_) | (with_reducible refine s_ipI ?_) | (with_reducible refine s_int1 ?_) | (with_reducible refine s_bm ?_) | (with_reducible refine s_bm0 ?_) | ((with_reducible refine' s_tyL ?hq ?_); (case hq => assumption)) | (with_reducible refine s_notN ?_) | (with_reducible refine s_min2 ?_) | (with_reducible refine s_max2 ?_) | (with_reducible refine s_nx ?_) | (with_reducible refine s_rt ?_) | (with_reducible refine s_bk ?_) | (with_reducible refine s_ct ?_) | (with_reducible refine iteT ?_) | (with_reducible refine iteNt ?_) | (with_reducible refine iteNf ?_) | ((with_reducible refine iteN ?hz ?_); (case hz => exact rfl)) | ((with_reducible refine iteY ?hz ?_); (case hz => exact rfl)) | (with_reducible refine iteF ?_) | ((with_reducible refine' s_ixT ?hq ?he ?_); (case hq => assumption); (case he => exact rfl)) | ((with_reducible refine' s_ixL ?hq ?he ?_); (case hq => assumption); (case he => exact rfl)) | ((with_reducible refine s_rI ?hc ?_); (case hc => first | assumption | exact mulOk (by assumption) (by assumption) | exact (show (0 : Int) < _ by decide) | omega)))
local macro_rules | `(tactic| walk_at "rd") => `(tactic| repeat walk_at "rd1")
variable {K : PySem.W.Frag} {c : Cs} {H : Hp} {vs : List V} {Q : VK} {E : XK}
theorem s_eqNil {H : Hp} {Q : VK} {x y : V} {ds : List PyData} {n : Nat} (h1 : Rp K H x (.list ds)) (h2 : Rp K H y (.list [])) (p : PD n (.list ds)) (q : Q (.bl (decide (ds = []))) H) (hn : n ≤ 64 := by decide) : rEqA K x y H Q := by
  refine .inr (.inl ⟨_, _, h1, h2, p.shaped hn, rfl, ?_⟩)
  cases ds with
  | nil => exact q
  | cons d ds => exact q
def fD (x y : Int) : PyData := .tuple [.int x, .int y]
def Rd.d (r : Rd) : PyData := .tuple [.int r.s, .int r.e, fD r.x1 r.y1, fD r.x2 r.y2, .bool r.la]
theorem rd_rp {H : Hp} {rs : List V} {Rs : List Rd} (h : All2 (RdV H) rs Rs) : Rps K H rs (Rs.map Rd.d) := by
  induction h with
  | nil => exact .nil
  | cons r _ ih =>
    obtain ⟨p, v1, v2, rfl, e, f1, f2⟩ := r
    exact .cons (.tup (SqT.of e) (.cons (.int _) (.cons (.int _) (.cons f1.rp (.cons f2.rp (.cons (.bl _) .nil)))))) ih
theorem rd_pd (Rs : List Rd) : PD 3 (.list (Rs.map Rd.d)) := by
  have pf : ∀ x y : Int, PD 1 (fD x y) := fun x y => PD.tuple (n := 0) fun d hd => by
    simp only [List.mem_cons, List.not_mem_nil, or_false] at hd
    rcases hd with rfl | rfl <;> exact PD.int _
  refine PD.list fun d hd => ?_
  obtain ⟨r, _, rfl⟩ := List.mem_map.mp hd
  refine PD.tuple (n := 1) fun d hd => ?_
  simp only [List.mem_cons, List.not_mem_nil, or_false] at hd
  rcases hd with rfl | rfl | rfl | rfl | rfl
  · exact PD.int _
  · exact PD.int _
  · exact pf _ _
  · exact pf _ _
  · exact PD.bool _
theorem net_pd (m : Int) (Rs : List Rd) : PD 4 (.tuple [.int m, .list (Rs.map Rd.d)]) := PD.tuple (n := 3) fun d hd => by
  simp only [List.mem_cons, List.not_mem_nil, or_false] at hd
  rcases hd with rfl | rfl
  · exact PD.int _
  · exact rd_pd Rs
theorem net_rp {H : Hp} {p l : Addr} {m : Int} {rs : List V} {Rs : List Rd} (e : H p = some (.tup [.int m, .ref l])) (el : H l = some (.lst rs)) (a : All2 (RdV H) rs Rs) : Rp K H (.ref p) (.tuple [.int m, .list (Rs.map Rd.d)]) :=
  .tup (SqT.of e) (.cons (.int _) (.cons (.lst (SqL.of el) (rd_rp a)) .nil))
theorem eqv_fr {H : Hp} {v w : V} {x y : Int} (f : FrV H v x y) (g : FrV H w x y) : Eqv H 1 v w := by
  obtain ⟨p, rfl, e⟩ := f
  obtain ⟨p', rfl, e'⟩ := g
  refine .tup e e' rfl (by show 2 ≤ 64; decide) fun i a b h1 h2 => ?_
  rw [h1] at h2
  cases h2
  match i, h1 with
  | 0, h1 => cases h1; exact .int _ _
  | 1, h1 => cases h1; exact .int _ _
  | i + 2, h1 => cases h1
theorem eqv_rd {H : Hp} {v w : V} {r : Rd} (f : RdV H v r) (g : RdV H w r) : Eqv H 2 v w := by
  obtain ⟨p, v1, v2, rfl, e, f1, f2⟩ := f
  obtain ⟨p', w1, w2, rfl, e', g1, g2⟩ := g
  refine .tup e e' rfl (by show 5 ≤ 64; decide) fun i a b h1 h2 => ?_
  match i, h1, h2 with
  | 0, h1, h2 => cases h1; cases h2; exact .int _ _
  | 1, h1, h2 => cases h1; cases h2; exact .int _ _
  | 2, h1, h2 => cases h1; cases h2; exact eqv_fr f1 g1
  | 3, h1, h2 => cases h1; cases h2; exact eqv_fr f2 g2
  | 4, h1, h2 => cases h1; cases h2; exact .bl _ _
  | i + 5, h1, h2 => cases h1
theorem eqv_net {H : Hp} {m : Int} {v w : V} {l l' : Addr} {Rs : List Rd} (f : TN H m v l Rs) (g : TN H m w l' Rs) : Eqv H 4 v w := by
  obtain ⟨p, rs, rfl, e, el, a, n⟩ := f
  obtain ⟨p', rs', rfl, e', el', a', n'⟩ := g
  refine .tup e e' rfl (by show 2 ≤ 64; decide) fun i x y h1 h2 => ?_
  match i, h1, h2 with
  | 0, h1, h2 => cases h1; cases h2; exact .int _ _
  | 1, h1, h2 =>
    cases h1
    cases h2
    refine .lst el el' (a.len.trans a'.len.symm) (by omega) fun i x y h1 h2 => ?_
    obtain ⟨r, er, z⟩ := a.get h1
    obtain ⟨r', er', z'⟩ := a'.get h2
    rw [er] at er'
    cases er'
    exact eqv_rd z z'
  | i + 2, h1, h2 => cases h1
theorem Nets.get {H : Hp} {m : Int} {vs : List V} {ls : List Addr} {E : List (List Rd)} (h : Nets H m vs ls E) : ∀ {i : Nat} {v : V}, vs[i]? = some v → ∃ l R, l ∈ ls ∧ E[i]? = some R ∧ TN H m v l R := by
  induction h with
  | nil => intro i v e; simp at e
  | cons hd tl ih =>
    intro i v e
    cases i with
    | zero => simp at e; subst e; exact ⟨_, _, by simp, rfl, hd⟩
    | succ i =>
      obtain ⟨l, R, h1, h2, h3⟩ := ih (by simpa using e)
      exact ⟨l, R, List.mem_cons_of_mem _ h1, by simpa using h2, h3⟩
theorem exs_len {Rs : List Rd} {r : Rd} {k : Nat} {a b : Int} : (exs Rs r k a b).length ≤ 3 := by
  unfold exs
  split <;> split <;> simp
theorem eqv_nets {H : Hp} {m : Int} {p p' : Addr} {vs vs' : List V} {ls ls' : List Addr} {E : List (List Rd)} (e : H p = some (.lst vs)) (e' : H p' = some (.lst vs')) (f : Nets H m vs ls E) (g : Nets H m vs' ls' E) (hE : E.length ≤ 3) : Eqv H 5 (.ref p) (.ref p') := by
  have := f.len
  have := g.len
  refine .lst e e' (by omega) (by omega) fun i x y h1 h2 => ?_
  obtain ⟨l, R, _, er, z⟩ := f.get h1
  obtain ⟨l', R', _, er', z'⟩ := g.get h2
  rw [er] at er'
  cases er'
  exact eqv_net z z'
theorem low_of {t b : Int} (b0 : 0 < b) : Low t b (t.fdiv (Int.gcd t b)) (b.fdiv (Int.gcd t b)) := (low2 (t := t) (b := b) (d := (Int.gcd t b : Int)) (by omega) (by rw [if_neg (by omega)])).2.2.1
theorem low_pos {t b x y : Int} (t0 : 0 < t) (b0 : 0 < b) (L : Low t b x y) : 0 < x := by
  have x0 := (low_sign b0 L).mpr (by omega)
  have e := L.eq
  have h1 : 0 < t * y := Int.mul_pos t0 L.pos
  rw [← e] at h1
  rcases Int.lt_or_le 0 x with h | h
  · exact h
  · have : x = 0 := by omega
    rw [this, Int.zero_mul] at h1
    omega
theorem wide_back {r : Rd} {a b : Int} (g : Gd r.x2 r.y2) (a0 : 0 < a) (b0 : 0 < b) : wide (wide r a b) b a = r := by
  have L := low_of (t := r.x2 * b) (b := r.y2 * a) (Int.mul_pos g.2.1 a0)
  have L2 : Low ((wide r a b).x2 * a) ((wide r a b).y2 * b) r.x2 r.y2 := by
    refine ⟨g.2.1, g.2.2, ?_⟩
    have e := L.eq
    show r.x2 * ((r.y2 * a).fdiv _ * b) = (r.x2 * b).fdiv _ * a * r.y2
    rw [show ∀ y : Int, r.x2 * (y * b) = r.x2 * b * y from fun y => by rw [Int.mul_comm y b, Int.mul_assoc], ← e, show ∀ x : Int, x * a * r.y2 = x * (r.y2 * a) from fun x => by rw [Int.mul_assoc, Int.mul_comm a]]
  have py : 0 < (wide r a b).y2 * b := Int.mul_pos L.pos b0
  obtain ⟨e1, e2⟩ := low_fn py L2
  show ({ wide r a b with x2 := _, y2 := _ } : Rd) = r
  rw [← e1, ← e2]
  rfl
theorem set_self {α : Type} {xs : List α} {k : Nat} {x : α} (h : xs[k]? = some x) : xs.set k x = xs := by
  apply List.ext_getElem?
  intro i
  rw [List.getElem?_set]
  split
  · rename_i e
    subst e
    split
    · exact h.symm
    · rename_i z
      rw [List.getElem?_eq_none (by omega)]
  · rfl
theorem rd_law3 {pn ln lr : Addr} {m : Int} {k : Nat} {rs : List V} {Rs : List Rd} {v vb : V} {a b : Int} {x0 x5 x6 x9 x11 x12 : Option V}
    (hp : H pn = some (.tup [.int m, .ref ln])) (hl : H ln = some (.lst rs)) (hlr : H lr = some (.lst rs)) (n12 : rs.length ≤ 12) (hk : 0 < rs.length → k < rs.length) (hR : All2 (RdV H) rs Rs) (okR : ∀ r ∈ Rs, RdOk m r) (fw : FrV H vb a b) (a0 : 0 < a) (b0 : 0 < b) (sa : Sz 100 a) (sb : Sz 100 b) (g : Int.gcd a b = 1) (q : ∀ H', Q (.bl true) H') :
    (tSeq (tIfS (tTest (tOp (rEqA K) (tVar 2) (tLst tNil))) (tRet (tC (.bl true))) tNext)
    (tSeq (tAsg (tCall (spWidened K) [] E0 (tCons (tVar 8) (tCons (tVar 4) (tCons (tVar 7) tNil)))) (gName 10))
    (tRet (tCall (spAlike K 8) [] E0 (tCons (tCall (spWidened K) [] E0 (tCons (tVar 10) (tCons (tVar 4) (tCons (tTup (tCons (tOp (rIx K) (tVar 7) (tC (.int 1))) (tCons (tOp (rIx K) (tVar 7) (tC (.int 0))) tNil))) tNil)))) (tCons (tVar 8) tNil)))))) (EN Q) [x0, some (.int m), some (.ref lr), some v, some (.int k), x5, x6, some vb, some (.ref pn), x9, none, x11, x12] H := by
  walk_at "rd"
  refine s_al ln0 fun l0 H1 s1 e1 => ?_
  have lR := hR.len
  refine s_eqNil (n := 3) (ds := Rs.map Rd.d) (.lst (SqL.of (s1 _ _ hlr)) (rd_rp (hR.imp fun _ _ z => z.mono s1.tups))) (.lst (SqL.of e1) .nil) (rd_pd Rs) ?_
  by_cases hz : Rs.map Rd.d = []
  · rw [decide_eq_true hz]
    walk_at "rd"
    exact q _
  · rw [decide_eq_false hz]
    walk_at "rd"
    have z0 : 0 < rs.length := by
      rcases Nat.eq_zero_or_pos rs.length with z | z
      · rw [lR] at z
        exact absurd (by rw [List.length_eq_zero_iff.mp z]; rfl) hz
      · exact z
    have k1 := hk z0
    obtain ⟨rv, erv⟩ : ∃ rv, rs[k]? = some rv := ⟨rs[k], by simp [k1]⟩
    obtain ⟨R, eR, hrv⟩ := hR.get erv
    have okr := okR R (List.mem_of_getElem? eR)
    refine ⟨_, _, _, _, _, rv, _, R, _, _, rfl, s1 _ _ hp, s1 _ _ hl, erv, n12, hrv.mono s1.tups, ⟨fw.mono s1.tups, okr.f2.2.1, a0, b0, okr.z1.mono (by decide), okr.z2.mono (by decide), sa.mono (by decide), sb.mono (by decide)⟩, g, fun q1 l1 v1 H2 s2 e2 el2 r2 nl2 => ?_⟩
    have s12 := Same.trans s1 s2
    obtain ⟨pb, rfl, hb⟩ := fw
    have Sb := SqT.of (K := K) (s12 _ _ hb)
    walk_at "rd"
    refine s_al ln2 fun pb' H3 s3 e3 => ?_
    have s13 := Same.trans s12 s3
    have L := low_of (t := R.x2 * b) (b := R.y2 * a) (Int.mul_pos okr.f2.2.1 a0)
    obtain ⟨l1', l2', l3'⟩ := L.small (Int.mul_pos okr.f2.2.1 a0)
    have zx : Sz 300 (wide R a b).x2 := ((okr.z1.mul sb).le l3').mono (by decide)
    have zy : Sz 300 (wide R a b).y2 := ((okr.z2.mul sa).le (by show ((R.y2 * a).fdiv _).natAbs ≤ _; omega)).mono (by decide)
    walk_at "rd"
    refine ⟨_, _, _, k, _, v1, _, wide R a b, b, a, rfl, s3 _ _ e2, s3 _ _ el2, by simp [k1], by rw [List.length_set]; exact n12, r2.mono s3.tups, ⟨⟨pb', rfl, e3⟩, L.pos, b0, a0, zx, zy, sb.mono (by decide), sa.mono (by decide)⟩, by rw [Int.gcd_comm]; exact g, fun q2 l2 v2 H4 s4 e4 el4 r4 nl4 => ?_⟩
    walk_at "rd"
    rw [List.set_set] at el4
    rw [wide_back okr.f2 a0 b0] at r4
    have s14 := Same.trans s13 s4
    have a4 : All2 (RdV H4) (rs.set k v2) Rs := by
      have := (hR.imp fun _ _ z => z.mono s14.tups).set r4 k
      rwa [set_self eR] at this
    exact ⟨4, _, _, rfl, by decide, eqv_net ⟨q2, _, rfl, e4, el4, a4, by rw [List.length_set]; exact n12⟩ ⟨pn, rs, rfl, s14 _ _ hp, s14 _ _ hl, hR.imp fun _ _ z => z.mono s14.tups, n12⟩, fun H5 s5 => q _⟩
theorem pick2 {x y j : Int} (j0 : 0 ≤ j) (j1 : j < 2) (x0 : 0 < x) (y0 : 0 < y) (xy : x ≤ y) : ∃ f : Int, atI ([.int x, .int y] : List V) j = some (.int f) ∧ 0 < f ∧ f ≤ y := by
  rcases (by omega : j = 0 ∨ j = 1) with rfl | rfl
  · exact ⟨_, rfl, x0, xy⟩
  · exact ⟨_, rfl, y0, Int.le_refl _⟩
theorem place_of {n2 : Int} {n : Nat} (n20 : 0 ≤ n2) : ∃ k : Nat, n2 % (if (n : Int) > 1 then (n : Int) else 1) = (k : Int) ∧ (0 < n → k < n) := by
  have p : (0 : Int) < (if (n : Int) > 1 then (n : Int) else 1) := by split <;> omega
  have a0 := Int.emod_nonneg n2 (Int.ne_of_gt p)
  have a1 := Int.emod_lt_of_pos n2 p
  obtain ⟨k, ek⟩ := Int.eq_ofNat_of_zero_le a0
  refine ⟨k, ek, fun h => ?_⟩
  rw [ek] at a1
  split at a1 <;> omega
end W5

end

section
set_option maxHeartbeats 8000000
namespace W5
open PySem L2 Fr
local macro_rules | `(tactic| walk_at "rd1") => `(tactic| first | ((with_reducible refine' s_set2 ?hs ?_); (case hs => ((simp only [List.set_cons_succ, List.set_cons_zero]) <;> exact rfl))) | ((with_reducible refine' s_set ?hs ?_); (case hs => ((simp only [List.set_cons_succ, List.set_cons_zero]) <;> exact rfl))) | (with_reducible refine s_seq ?_) | (with_reducible refine s_asg ?_) | (with_reducible refine s_if ?_) | (with_reducible refine s_asgG ?_) | (with_reducible refine s_gsub ?_) | (with_reducible refine s_sl ?_) | (with_reducible refine s_noPart ?_) | (with_reducible refine s_part ?_) | (with_reducible refine s_exI ?_) | (with_reducible refine s_ret ?_) | (with_reducible refine s_op ?_) | (with_reducible refine s_c ?_) | (with_reducible refine s_cons ?_) | (with_reducible refine s_nil ?_) | (with_reducible refine s_call ?_) | (with_reducible refine s_cb ?_) | (with_reducible refine s_test ?_) | (with_reducible refine s_b ?_) | (with_reducible refine s_and ?_) | (with_reducible refine s_or ?_) | (with_reducible refine s_not ?_) | (with_reducible refine s_andV ?_) | (with_reducible refine s_orV ?_) | (with_reducible refine s_notV ?_) | (with_reducible refine s_ifx ?_) | (with_reducible refine s_chain ?_) | (with_reducible refine s_un ?_) | (with_reducible refine s_tup ?_) | (with_reducible refine s_lst ?_) | (with_reducible refine s_drop ?_) | (with_reducible refine s_retN ?_) | (with_reducible refine s_next ?_) | (with_reducible refine s_break ?_) | (with_reducible refine s_cont ?_) | (with_reducible refine s_par ?_) | ((with_reducible refine' s_var ?hv ?_); (case hv => exact rfl)) | (with_reducible refine s_bl ?_) | (with_reducible refine s_rI0 ?_) | (with_reducible refine s_eqI ?_) | (with_reducible refine s_neI ?_) | (with_reducible refine s_eqB ?_) | (with_reducible refine s_rU ?_) | (with_reducible refine s_eqAI ?_) | (with_reducible refine s_neAI ?_) | (with_reducible refine s_eqAB ?_) | (with_reducible refine s_addI ?_) | ((with_reducible refine' s_ixST ?hq ?he ?_); (case hq => assumption); (case he => exact rfl)) | ((with_reducible refine' s_ixSL ?hq ?he ?_); (case hq => assumption); (case he => exact rfl)) | ((with_reducible refine' s_abs1 ?_)) | ((with_reducible refine' s_lenL ?hq ?_); (case hq => assumption)) | ((with_reducible refine' s_lenT ?hq ?_); (case hq => assumption)) | (with_reducible refine s_isN ?_) | (with_reducible refine s_for ?_) | (with_reducible refine s_iList ?_) | (with_reducible refine s_iTup ?_) | (with_reducible refine s_iR1 ?_) | (with_reducible refine s_iR2 ?_) | (with_reducible refine s_iEnum ?_) | (with_reducible refine s_iZip ?_) | ((with_reducible refine' s_jList ?hq ?_); (case hq => assumption)) | ((with_reducible refine' s_jTup ?hq ?_); (case hq => assumption)) | ((with_reducible refine' s_jEnum ?hq ?_); (case hq => assumption)) | ((with_reducible refine' s_jZip ?hq ?hr ?_); (case hq => assumption); (case hr => assumption)) | ((with_reducible refine' s_aug ?hv ?_); (case hv => exact rfl)) | (with_reducible refine s_augS ?_) | (with_reducible refine s_ipI ?_) | (with_reducible refine s_int1 ?_) | (with_reducible refine s_bm ?_) | (with_reducible refine s_bm0 ?_) | ((with_reducible refine' s_tyL ?hq ?_); (case hq => assumption)) | (with_reducible refine s_notN ?_) | (with_reducible refine s_min2 ?_) | (with_reducible refine s_max2 ?_) | (with_reducible refine s_nx ?_) | (with_reducible refine s_rt ?_) | (with_reducible refine s_bk ?_) | (with_reducible refine s_ct ?_) | (with_reducible refine iteT ?_) | (with_reducible refine iteNt ?_) | (with_reducible refine iteNf ?_) | ((with_reducible refine iteN ?hz ?_); (case hz => exact rfl)) | ((with_reducible refine iteY ?hz ?_); (case hz => exact rfl)) | (with_reducible refine iteF ?_) | ((with_reducible refine' s_ixT ?hq ?he ?_); (case hq => assumption); (case he => exact rfl)) | ((with_reducible refine' s_ixL ?hq ?he ?_); (case hq => assumption); (case he => exact rfl)) | ((with_reducible refine s_rI ?hc ?_); (case hc => first | assumption | exact mulOk (by assumption) (by assumption) | exact (show (0 : Int) < _ by decide) | omega)))
local macro_rules | `(tactic| walk_at "rd") => `(tactic| repeat walk_at "rd1")
variable {K : PySem.W.Frag} {c : Cs} {H : Hp} {vs : List V} {Q : VK} {E : XK}
theorem rd_law (h : spLaw K vs H Q E) : t_law K (EN Q) (start ["_law_script", "_law_many", "_law_roads", "_law_road_here", "_law_at", "_law_number", "_law_top", "_law_by", "_law_net", "_law_one", "_law_wider", "_law_told", "_law_due"] vs) H := by
  obtain ⟨a, ns, rfl, S, n63, q⟩ := h
  show t_law K (EN Q) [some (.ref a), none, none, none, none, none, none, none, none, none, none, none, none] H
  walk_at "rd"
  refine ⟨_, _, _, rfl, S, by decide, by decide, fun z => ?_⟩
  walk_at "rd"
  have hm2 : 2 ≤ 2 + z % 5 := by have := Int.emod_nonneg z (show (5 : Int) ≠ 0 by decide); omega
  generalize 2 + z % 5 = m at hm2 ⊢
  refine s_comp (σ' := [none, some (.ref a), some (.int m)]) rfl ?_
  walk_at "rd"
  refine ⟨_, _, _, rfl, S, by decide, by decide, fun n n0 n1 => ?_⟩
  walk_at "rd"
  have j0 := Int.emod_nonneg n (show (13 : Int) ≠ 0 by decide)
  have j1 := Int.emod_lt_of_pos n (show (0 : Int) < 13 by decide)
  refine s_jR1 (by omega) ?_
  intro lr nr
  obtain ⟨j, ej⟩ := Int.eq_ofNat_of_zero_le j0
  rw [ej] at j1 ⊢
  rw [show ((j : Int)).toNat = j by omega]
  refine compR (fun i σ H' => (∃ v, σ = [v, some (.ref a), some (.int m)]) ∧ Same H H' ∧ ∃ rs Rs, H' lr = some (.lst rs) ∧ rs.length = i ∧ All2 (RdV H') rs Rs ∧ ∀ r ∈ Rs, RdOk m r) ⟨⟨_, rfl⟩, Same.new nr, [], [], upd_same, rfl, .nil, fun r hr => by cases hr⟩ ?_ ?_
  · rintro i σ H1 hi ⟨⟨v, rfl⟩, s1, rs, Rs, e1, l1, al, ok⟩
    rw [show (0 : Int) + (i : Int) = (i : Int) from Int.zero_add _]
    refine s_gn (σ' := [some (.int (i : Int)), some (.ref a), some (.int m)]) rfl ?_
    refine blkN ?_
    walk_at "rd"
    refine ⟨_, _, _, _, rfl, s1.seq S, n63, by omega, by omega, hm2, fun v r H2 s2 rv okr => ?_⟩
    have e2 := s2 _ _ e1
    refine ⟨rs, e2, Nat.lt_of_le_of_lt (show rs.length ≤ 12 by omega) (by decide), ⟨_, rfl⟩, (Same.trans s1 s2).updN nr, rs ++ [v], Rs ++ [r], upd_same, by simp [l1], ((al.imp fun _ _ z => z.mono s2.tups).push rv).imp (fun _ _ z => z.mono (Tups.lst e2)), fun x hx => ?_⟩
    rcases List.mem_append.mp hx with hx | hx
    · exact ok x hx
    · simp only [List.mem_singleton] at hx
      rw [hx]
      exact okr
  rintro σ H1 ⟨_, s1, rs, Rs, er, lrs, al, okR⟩
  have n12 : rs.length ≤ 12 := by omega
  have S1 := s1.seq S
  have Lr := SqL.of (K := K) er
  walk_at "rd"
  refine ⟨_, _, _, _, rfl, S1, n63, by decide, by decide, hm2, fun v r H2 s2 rv okr => ?_⟩
  have S2 := s2.seq S1
  have Lr2 := s2.seq Lr
  walk_at "rd"
  refine ⟨_, _, _, rfl, S2, by decide, by decide, fun n2 n20 n21 => ?_⟩
  have d13 : CDivB n2 13 := cd (by decide) (by decide)
  have pmax : (0 : Int) < (if (rs.length : Int) > 1 then (rs.length : Int) else 1) := by split <;> omega
  walk_at "rd"
  obtain ⟨k, ek, k1⟩ := place_of (n2 := n2.fdiv 13) (n := rs.length) (fd n20 (by decide)).1
  rw [ek]
  refine ⟨_, _, _, rfl, S2, by decide, by decide, fun u u0 u1 => ?_⟩
  have c18 : CPow 10 18 := ⟨by decide, by decide, by decide⟩
  have c6 : CPow 10 6 := ⟨by decide, by decide, by decide⟩
  have mu : CMulX u 982451653 := cm (by decide)
  have d2 : CDivB u 2 := cd (by decide) (by decide)
  have d8 : CDivB u 8 := cd (by decide) (by decide)
  walk_at "rd"
  refine s_al ln2 fun l9 H3 s3 e3 => ?_
  walk_at "rd"
  obtain ⟨f, hf, f0, f1⟩ := pick2 (x := 9) (y := 10 ^ (18 : Int).toNat) (Int.emod_nonneg u (show (2 : Int) ≠ 0 by decide)) (Int.emod_lt_of_pos u (by decide)) (by decide) (by decide) (by decide)
  refine s_ixSL (SqL.of e3) hf ?_
  walk_at "rd"
  refine s_al ln2 fun l4 H4 s4 e4 => ?_
  walk_at "rd"
  obtain ⟨f', hf', f0', f1'⟩ := pick2 (x := 4) (y := 10 ^ (6 : Int).toNat) (Int.emod_nonneg (u.fdiv 8) (show (2 : Int) ≠ 0 by decide)) (Int.emod_lt_of_pos (u.fdiv 8) (by decide)) (by decide) (by decide) (by decide)
  refine s_ixSL (SqL.of e4) hf' ?_
  walk_at "rd"
  have t0 := Int.emod_nonneg (u * 982451653) (show f ≠ 0 by omega)
  have t1 := Int.emod_lt_of_pos (u * 982451653) f0
  have b0 := Int.emod_nonneg (u.fdiv 2) (show f' ≠ 0 by omega)
  have b1 := Int.emod_lt_of_pos (u.fdiv 2) f0'
  generalize u * 982451653 % f = t at t0 t1 ⊢
  generalize u.fdiv 2 % f' = b at b0 b1 ⊢
  have f1a : f ≤ 10 ^ 18 := f1
  have f1b : f' ≤ 10 ^ 6 := f1'
  refine ⟨_, _, rfl, by omega, by omega, (sz_of (M := 10 ^ 18) (by omega) (by omega) (by decide +kernel)).sm, fun bx by' vb H5 s5 fb Lb => ?_⟩
  obtain ⟨gb, zb1, zb2⟩ := low_gd (by omega) (by omega) (by omega) (by omega) Lb
  have bx0 := low_pos (by omega) (by omega) Lb
  have s25 := Same.trans s3 (Same.trans s4 s5)
  have Lr5 := s25.seq Lr2
  walk_at "rd"
  refine s_listL Lr5 fun ln H6 nn s6 e6 => ?_
  walk_at "rd"
  refine s_al ln2 fun pn H7 s7 e7 => ?_
  walk_at "rd"
  have s57 := Same.trans s6 s7
  have s27 := Same.trans s25 s57
  have s17 := Same.trans s2 s27
  have er7 := s17 _ _ er
  have el7 := s7 _ _ e6
  have al7 : All2 (RdV H7) rs Rs := al.imp fun _ _ z => z.mono s17.tups
  have rv7 := rv.mono s27.tups
  have fb7 := fb.mono s57.tups
  refine ⟨pn, ln, m, k, rs, Rs, v, vb, r, bx, by', rfl, e7, el7, n12, k1, al7, okR, rv7, okr, fb7, bx0, gb.2.1, zb1, zb2, gb.2.2, fun o lt ld ts tls ds dls H8 s8 eo et ed N1 N2 F dd => ?_⟩
  refine s_gl2 (SqL.of eo) rfl ?_
  dsimp only [List.set]
  walk_at "rd"
  refine ⟨5, _, _, rfl, by decide, eqv_nets et ed N1 N2 exs_len, fun H9 s9 => ?_⟩
  have s79 := Same.trans s8 s9
  walk_at "rd"
  refine s_al ln2 fun pq HA sA eA => ?_
  have s7A := Same.trans s79 sA
  have s8A := Same.trans s9 sA
  have alA : All2 (RdV HA) rs Rs := al7.imp fun _ _ z => z.mono s7A.tups
  refine s_neSame (n := 4) (d := .tuple [.int m, .list (Rs.map Rd.d)]) (net_rp (s7A _ _ e7) (s7A _ _ el7) alA) (net_rp eA (s7A _ _ er7) alA) (net_pd m Rs) ?_
  have etA := s8A _ _ et
  have TA := SqL.of (K := K) etA
  have N1A := N1.keep s8A.tups fun _ _ _ e => s8A _ _ e
  have N2A := N2.keep s8A.tups fun _ _ _ e => s8A _ _ e
  have lts := N1.len
  have l3 := exs_len (Rs := Rs) (r := r) (k := k) (a := bx) (b := by')
  walk_at "rd"
  refine for_list (xs := ts) (fun i σ H' => (∃ v9, σ = [some (.ref a), some (.int m), some (.ref lr), some v, some (.int k), some (.int u), some (.int (1 + t)), some vb, some (.ref pn), v9, none, some (.ref lt), some (.ref ld)]) ∧ (∀ b o, HA b = some o → b ∉ tls → H' b = some o) ∧ (∀ l ∈ tls, ∃ xs, H' l = some (.lst xs) ∧ xs.length ≤ 12 + i))
    ⟨⟨_, rfl⟩, fun b o e _ => e, fun l hl => N1A.lists l hl⟩ ?_ ?_ ?_
  · rintro i σ H' _ ⟨_, ko, _⟩
    exact SqL.of (ko _ _ etA fun z => (F _ z).2.1 rfl)
  · rintro i x σ H' hx ⟨⟨v9, rfl⟩, ko, li⟩
    obtain ⟨l, R, hl, _, p1, rs1, rfl, ep, el, _, _⟩ := N1A.get hx
    obtain ⟨xs, ex, lx⟩ := li l hl
    have pn1 : p1 ∉ tls := fun z => by
      obtain ⟨xs, ex, _⟩ := N1A.lists _ z
      rw [ep] at ex
      cases ex
    have P' := SqT.of (K := K) (ko _ _ ep pn1)
    have X' := SqL.of (K := K) ex
    have il : i < ts.length := (List.getElem?_eq_some_iff.mp hx).1
    refine s_gn (σ' := [some (.ref a), some (.int m), some (.ref lr), some v, some (.int k), some (.int u), some (.int (1 + t)), some vb, some (.ref pn), some (.ref p1), none, some (.ref lt), some (.ref ld)]) rfl ?_
    dsimp only
    walk_at "rd"
    refine s_app ex (Nat.lt_of_le_of_lt (show xs.length ≤ 15 by omega) (by decide)) ?_
    refine ⟨⟨_, rfl⟩, fun b o e nb => ?_, fun l2 hl2 => ?_⟩
    · have nbl : b ≠ l := fun z => nb (by rw [z]; exact hl)
      rw [upd_ne nbl]
      exact ko b o e nb
    · by_cases z : l2 = l
      · subst z
        exact ⟨_, upd_same, by rw [List.length_append]; simp only [List.length_singleton]; omega⟩
      · obtain ⟨xs2, ex2, lx2⟩ := li l2 hl2
        exact ⟨xs2, by rw [upd_ne z]; exact ex2, by omega⟩
  rintro σ HB ⟨⟨v9, rfl⟩, ko, li⟩
  have s7B : Same H7 HB := fun b o e => ko b o (s7A _ _ e) fun z => by rw [(F b z).1] at e; cases e
  have tAB : Tups HA HB := ⟨fun b xs e => ko _ _ e fun z => (by obtain ⟨xs, ex, _⟩ := N1A.lists _ z; rw [e] at ex; cases ex), fun b o u e => ko _ _ e fun z => (by obtain ⟨xs, ex, _⟩ := N1A.lists _ z; rw [e] at ex; cases ex)⟩
  have N2B := N2A.keep tAB fun l hl xs e => ko _ _ e fun z => (F _ z).2.2.2 hl
  have edB := ko _ _ (s8A _ _ ed) fun z => (F _ z).2.2.1 rfl
  walk_at "rd"
  refine ⟨pn, ln, m, k, rs, Rs, v, vb, r, bx, by', rfl, s7B _ _ e7, s7B _ _ el7, n12, k1, al7.imp fun _ _ z => z.mono s7B.tups, okR, rv7.mono s7B.tups, okr, fb7.mono s7B.tups, bx0, gb.2.1, zb1, zb2, gb.2.2, fun o2 lt2 ld2 ts2 tls2 ds2 dls2 HC sC eo2 et2 ed2 N3 N4 F2 dd2 => ?_⟩
  have O2 := SqL.of (K := K) eo2
  walk_at "rd"
  refine ⟨5, _, _, rfl, by decide, eqv_nets et2 (sC _ _ edB) N3 (N2B.keep sC.tups fun _ _ _ e => sC _ _ e) exs_len, fun HD sD => ?_⟩
  have s7D := Same.trans s7B (Same.trans sC sD)
  walk_at "rd"
  refine s_al ln2 fun pq2 HE sE eE => ?_
  have s7E := Same.trans s7D sE
  have alE : All2 (RdV HE) rs Rs := al7.imp fun _ _ z => z.mono s7E.tups
  refine s_neSame (n := 4) (d := .tuple [.int m, .list (Rs.map Rd.d)]) (net_rp (s7E _ _ e7) (s7E _ _ el7) alE) (net_rp eE (s7E _ _ er7) alE) (net_pd m Rs) ?_
  have LrE := SqL.of (K := K) (s7E _ _ er7)
  walk_at "rd"
  by_cases hz : rs.length < 12
  · refine iteY (decide_eq_true (by omega)) ?_
    walk_at "rd"
    refine ⟨_, _, _, _, _, r, rfl, s7E _ _ e7, s7E _ _ el7, hz, rv7.mono s7E.tups, okr, fun q1 l1 HF sF eF elF nlF => ?_⟩
    have LrF := SqL.of (K := K) (sF _ _ (s7E _ _ er7))
    walk_at "rd"
    refine ⟨_, _, _, rs.length, _, rfl, eF, elF, by simp, by rw [List.length_append]; simp only [List.length_singleton]; omega, fun q2 l2 HG sG eG elG nlG => ?_⟩
    rw [show (rs ++ [v]).take rs.length ++ (rs ++ [v]).drop (rs.length + 1) = rs by simp] at elG
    have s7G := Same.trans s7E (Same.trans sF sG)
    have alG : All2 (RdV HG) rs Rs := al7.imp fun _ _ z => z.mono s7G.tups
    walk_at "rd"
    refine ⟨4, _, _, rfl, by decide, eqv_net ⟨q2, rs, rfl, eG, elG, alG, n12⟩ ⟨pn, rs, rfl, s7G _ _ e7, s7G _ _ el7, alG, n12⟩, fun HI sI => ?_⟩
    have s7I := Same.trans s7G sI
    refine s_bl ?_
    refine iteNt ?_
    refine s_next ?_
    refine s_nx ?_
    exact rd_law3 (s7I _ _ e7) (s7I _ _ el7) (s7I _ _ er7) n12 k1 (al7.imp fun _ _ z => z.mono s7I.tups) okR (fb7.mono s7I.tups) bx0 gb.2.1 zb1 zb2 gb.2.2 q
  · refine iteN (decide_eq_false (by omega)) ?_
    refine iteF ?_
    refine s_next ?_
    refine s_nx ?_
    exact rd_law3 (s7E _ _ e7) (s7E _ _ el7) (s7E _ _ er7) n12 k1 alE okR (fb7.mono s7E.tups) bx0 gb.2.1 zb1 zb2 gb.2.2 q
end W5

end

section
set_option maxHeartbeats 1000000
namespace W5
open PySem L2 Fr
def top (i : Nat) : Stmt := PySem.Challenge.pw_crowdroads_k51_works_done.main.body.getD i (.Pass ⟨0, 0, 0, 0⟩)
/-- what the walk asks of the text's names -/
structure Txt (K : PySem.W.Frag) (mg : Str → Option Value) (c : Cs) (aN : Addr) : Prop where
  n_isinstance : mg "isinstance" = none
  n_int : mg "int" = none
  n_bool : mg "bool" = none
  n_tuple : mg "tuple" = none
  n_list : mg "list" = none
  n_len : mg "len" = none
  n_abs : mg "abs" = none
  n_range : mg "range" = none
  n_max : mg "max" = none
  m_RoadError : mg "RoadError" = some (.ref c.RoadError)
  m_NoNumber : mg "NoNumber" = some (.ref c.NoNumber)
  m_NoNet : mg "NoNet" = some (.ref c.NoNet)
  m_NoSuch : mg "NoSuch" = some (.ref c.NoSuch)
  m_NOUGHT : mg "NOUGHT" = some (.ref aN)
  v_NOUGHT : ∀ H, Rp K H (.ref aN) (.tuple [.int 0, .int 1])
  m_MOST_ROADS : ∃ t, mg "MOST_ROADS" = some (.int 12 t)
  m_THINGS_OF_ROAD : ∃ t, mg "THINGS_OF_ROAD" = some (.int 5 t)
variable {P : Program} {w : World} {K : PySem.W.Frag} {mg : Str → Option Value} {base : Heap} {c : Cs} {aN : Addr}
/-! ### is_whole -/
abbrev s_is_whole : Stmt := top 7
theorem sc_is_whole : FnScope ["thing"] ["thing"] (defScope s_is_whole) := ⟨rfl, rfl, rfl, by decide +kernel, rfl, by decide +kernel, by decide +kernel⟩
theorem ok_is_whole (T : Txt K mg c aN)  {f : Addr} {fd : FuncData} (F : Fun K "is_whole" "is_whole" s_is_whole f fd) : FnOk P w K mg base CX0 1 f fd ["thing"] (spWhole K) := by
  refine F.ok sc_is_whole (fun vs H Q E h => ?len) (fun cdv A outer s H vs Q E hr h => ?_)
  case len =>
    obtain ⟨_, _, rfl, _⟩ := h
    rfl
  have nd := sc_is_whole.nd
  refine ⟨t_is_whole K, ?_, rd_is_whole  h⟩
  refine pss_one ?_
  refine ps_ret ?_
  refine pe_and ?_ ?_
  · refine pe_callB (id := "isinstance") ?_ ?_ ?_ ?_ ?_
    · exact call_isiK (K := K) rfl
    · rfl
    · exact T.n_isinstance
    · exact bt_isinstance
    refine pk ?_ ?_
    · exact pv 0
    refine pk ?_ ?_
    · exact pe_bt rfl T.n_int bt_int
    exact pa_nil
  refine pe_one ?_
  refine pe_not ?_
  refine pe_callB (id := "isinstance") ?_ ?_ ?_ ?_ ?_
  · exact call_isiK (K := K) rfl
  · rfl
  · exact T.n_isinstance
  · exact bt_isinstance
  refine pk ?_ ?_
  · exact pv 0
  refine pk ?_ ?_
  · exact pe_bt rfl T.n_bool bt_bool
  exact pa_nil
/-! ### common_divisor -/
abbrev s_common_divisor : Stmt := top 8
theorem sc_common_divisor : FnScope ["one", "other", "left"] ["one", "other"] (defScope s_common_divisor) := ⟨rfl, rfl, rfl, by decide +kernel, rfl, by decide +kernel, by decide +kernel⟩
theorem ok_common_divisor (T : Txt K mg c aN)  {f : Addr} {fd : FuncData} (F : Fun K "common_divisor" "common_divisor" s_common_divisor f fd) : FnOk P w K mg base CX0 1 f fd ["one", "other"] spGcd := by
  refine F.ok sc_common_divisor (fun vs H Q E h => ?len) (fun cdv A outer s H vs Q E hr h => ?_)
  case len =>
    obtain ⟨_, _, rfl, _⟩ := h
    rfl
  have nd := sc_common_divisor.nd
  refine ⟨t_common_divisor K, ?_, rd_common_divisor  h⟩
  refine pss_cons ?_ ?_
  · refine ps_while ?_ ?_ ?_
    · exact PassesOwn.never
    · refine pt_cmpR ?_ ?_ ?_ ?_
      · exact op_neA hr.units
      · exact pv 1
      · exact pe_int
      exact nomark _
    refine pss_cons ?_ ?_
    · refine ps_st (i := 2) ?_
      refine pe_op ?_ ?_ ?_
      · exact op_mod
      · exact pv 0
      exact pv 1
    refine pss_cons ?_ ?_
    · refine ps_st (i := 0) ?_
      exact pv 1
    refine pss_one ?_
    refine ps_st (i := 1) ?_
    exact pv 2
  refine pss_one ?_
  refine ps_ret ?_
  exact pv 0
/-! ### lowest -/
abbrev s_lowest : Stmt := top 9
theorem sc_lowest : FnScope ["top", "bottom", "divisor"] ["top", "bottom"] (defScope s_lowest) := ⟨rfl, rfl, rfl, by decide +kernel, rfl, by decide +kernel, by decide +kernel⟩
theorem ok_lowest (T : Txt K mg c aN) (C_common_divisor : Cal P w K mg base CX0 1 "common_divisor" spGcd) {f : Addr} {fd : FuncData} (F : Fun K "lowest" "lowest" s_lowest f fd) : FnOk P w K mg base CX0 2 f fd ["top", "bottom"] (spLow K) := by
  refine F.ok sc_lowest (fun vs H Q E h => ?len) (fun cdv A outer s H vs Q E hr h => ?_)
  case len =>
    obtain ⟨_, _, rfl, _⟩ := h
    rfl
  have nd := sc_lowest.nd
  refine ⟨t_lowest K, ?_, rd_lowest  h⟩
  refine pss_cons ?_ ?_
  · refine ps_st (i := 2) ?_
    refine pe_cal (CX := CX0) (k := 1) ?_ ?_ ?_ ?_
    · exact C_common_divisor
    · exact hr.mono (by decide)
    · exact pass0
    refine pk ?_ ?_
    · refine pe_callB (id := "abs") ?_ ?_ ?_ ?_ ?_
      · exact call_abs
      · rfl
      · exact T.n_abs
      · exact bt_abs
      refine pk ?_ ?_
      · exact pv 0
      exact pa_nil
    refine pk ?_ ?_
    · refine pe_callB (id := "abs") ?_ ?_ ?_ ?_ ?_
      · exact call_abs
      · rfl
      · exact T.n_abs
      · exact bt_abs
      refine pk ?_ ?_
      · exact pv 1
      exact pa_nil
    exact pa_nil
  refine pss_cons ?_ ?_
  · refine ps_if ?_ ?_ ?_
    · refine pt_cmpR ?_ ?_ ?_ ?_
      · exact op_lt
      · exact pv 1
      · exact pe_int
      exact nomark _
    · refine pss_one ?_
      refine ps_st (i := 2) ?_
      refine pe_un ?_ ?_
      · exact un_neg
      exact pv 2
    exact pss_nil
  refine pss_one ?_
  refine ps_ret ?_
  refine pe_tup ?_
  refine pk ?_ ?_
  · refine pe_op ?_ ?_ ?_
    · exact op_fdivB
    · exact pv 0
    exact pv 2
  refine pk ?_ ?_
  · refine pe_op ?_ ?_ ?_
    · exact op_fdivB
    · exact pv 1
    exact pv 2
  exact pa_nil
/-! ### is_fraction -/
abbrev s_is_fraction : Stmt := top 10
theorem sc_is_fraction : FnScope ["thing", "top", "bottom"] ["thing"] (defScope s_is_fraction) := ⟨rfl, rfl, rfl, by decide +kernel, rfl, by decide +kernel, by decide +kernel⟩
theorem ok_is_fraction (T : Txt K mg c aN) (C_is_whole : Cal P w K mg base CX0 1 "is_whole" (spWhole K)) (C_common_divisor : Cal P w K mg base CX0 1 "common_divisor" spGcd) {f : Addr} {fd : FuncData} (F : Fun K "is_fraction" "is_fraction" s_is_fraction f fd) : FnOk P w K mg base CX0 2 f fd ["thing"] (spIsF K) := by
  refine F.ok sc_is_fraction (fun vs H Q E h => ?len) (fun cdv A outer s H vs Q E hr h => ?_)
  case len =>
    obtain ⟨_, _, _, rfl, _⟩ := h
    rfl
  have nd := sc_is_fraction.nd
  refine ⟨t_is_fraction K, ?_, rd_is_fraction  h⟩
  refine pss_cons ?_ ?_
  · refine ps_if ?_ ?_ ?_
    · refine PW.pt ?_
      refine pw_or ?_ ?_
      · refine pt_not ?_
        refine pt_val ?_
        refine pe_callB (id := "isinstance") ?_ ?_ ?_ ?_ ?_
        · exact call_isiK (K := K) rfl
        · rfl
        · exact T.n_isinstance
        · exact bt_isinstance
        refine pk ?_ ?_
        · exact pv 0
        refine pk ?_ ?_
        · exact pe_bt rfl T.n_tuple bt_tuple
        exact pa_nil
      refine pw_or1 ?_
      refine pt_cmpR ?_ ?_ ?_ ?_
      · exact op_neA hr.units
      · refine pe_callB (id := "len") ?_ ?_ ?_ ?_ ?_
        · exact call_len
        · rfl
        · exact T.n_len
        · exact bt_len
        refine pk ?_ ?_
        · exact pv 0
        exact pa_nil
      · exact pe_int
      exact nomark _
    · refine pss_one ?_
      refine ps_ret ?_
      exact pe_bl
    exact pss_nil
  refine pss_cons ?_ ?_
  · refine ps_st (i := 1) ?_
    refine pe_ix ?_ ?_ ?_ ?_
    · exact ix_seq
    · exact pv 0
    · exact pe_int
    exact fun _ _ => rfl
  refine pss_cons ?_ ?_
  · refine ps_st (i := 2) ?_
    refine pe_ix ?_ ?_ ?_ ?_
    · exact ix_seq
    · exact pv 0
    · exact pe_int
    exact fun _ _ => rfl
  refine pss_cons ?_ ?_
  · refine ps_if ?_ ?_ ?_
    · refine PW.pt ?_
      refine pw_or ?_ ?_
      · refine pt_not ?_
        refine pt_val ?_
        refine pe_cal (CX := CX0) (k := 1) ?_ ?_ ?_ ?_
        · exact C_is_whole
        · exact hr.mono (by decide)
        · exact pass0
        refine pk ?_ ?_
        · exact pv 1
        exact pa_nil
      refine pw_or1 ?_
      refine pt_not ?_
      refine pt_val ?_
      refine pe_cal (CX := CX0) (k := 1) ?_ ?_ ?_ ?_
      · exact C_is_whole
      · exact hr.mono (by decide)
      · exact pass0
      refine pk ?_ ?_
      · exact pv 2
      exact pa_nil
    · refine pss_one ?_
      refine ps_ret ?_
      exact pe_bl
    exact pss_nil
  refine pss_one ?_
  refine ps_ret ?_
  refine pe_and ?_ ?_
  · refine pe_cmpR ?_ ?_ ?_ ?_
    · exact op_gt
    · exact pv 2
    · exact pe_int
    exact nomark _
  refine pe_one ?_
  refine pe_cmpR ?_ ?_ ?_ ?_
  · exact op_eqA hr.units
  · refine pe_cal (CX := CX0) (k := 1) ?_ ?_ ?_ ?_
    · exact C_common_divisor
    · exact hr.mono (by decide)
    · exact pass0
    refine pk ?_ ?_
    · refine pe_callB (id := "abs") ?_ ?_ ?_ ?_ ?_
      · exact call_abs
      · rfl
      · exact T.n_abs
      · exact bt_abs
      refine pk ?_ ?_
      · exact pv 1
      exact pa_nil
    refine pk ?_ ?_
    · exact pv 2
    exact pa_nil
  · exact pe_int
  exact nomark _
/-! ### is_from_nought -/
abbrev s_is_from_nought : Stmt := top 11
theorem sc_is_from_nought : FnScope ["thing"] ["thing"] (defScope s_is_from_nought) := ⟨rfl, rfl, rfl, by decide +kernel, rfl, by decide +kernel, by decide +kernel⟩
theorem ok_is_from_nought (T : Txt K mg c aN) (C_is_fraction : Cal P w K mg base CX0 2 "is_fraction" (spIsF K)) {f : Addr} {fd : FuncData} (F : Fun K "is_from_nought" "is_from_nought" s_is_from_nought f fd) : FnOk P w K mg base CX0 3 f fd ["thing"] (spIsF K) := by
  refine F.ok sc_is_from_nought (fun vs H Q E h => ?len) (fun cdv A outer s H vs Q E hr h => ?_)
  case len =>
    obtain ⟨_, _, _, rfl, _⟩ := h
    rfl
  have nd := sc_is_from_nought.nd
  refine ⟨t_is_from_nought K, ?_, rd_is_from_nought  h⟩
  refine pss_one ?_
  refine ps_ret ?_
  refine pe_and ?_ ?_
  · refine pe_cal (CX := CX0) (k := 2) ?_ ?_ ?_ ?_
    · exact C_is_fraction
    · exact hr.mono (by decide)
    · exact pass0
    refine pk ?_ ?_
    · exact pv 0
    exact pa_nil
  refine pe_one ?_
  refine pe_cmpR ?_ ?_ ?_ ?_
  · exact op_ge
  · refine pe_ix ?_ ?_ ?_ ?_
    · exact ix_seq
    · exact pv 0
    · exact pe_int
    exact fun _ _ => rfl
  · exact pe_int
  exact nomark _
/-! ### is_above_nought -/
abbrev s_is_above_nought : Stmt := top 12
theorem sc_is_above_nought : FnScope ["thing"] ["thing"] (defScope s_is_above_nought) := ⟨rfl, rfl, rfl, by decide +kernel, rfl, by decide +kernel, by decide +kernel⟩
theorem ok_is_above_nought (T : Txt K mg c aN) (C_is_fraction : Cal P w K mg base CX0 2 "is_fraction" (spIsF K)) {f : Addr} {fd : FuncData} (F : Fun K "is_above_nought" "is_above_nought" s_is_above_nought f fd) : FnOk P w K mg base CX0 3 f fd ["thing"] (spAbove K) := by
  refine F.ok sc_is_above_nought (fun vs H Q E h => ?len) (fun cdv A outer s H vs Q E hr h => ?_)
  case len =>
    obtain ⟨_, _, _, rfl, _⟩ := h
    rfl
  have nd := sc_is_above_nought.nd
  refine ⟨t_is_above_nought K, ?_, rd_is_above_nought  h⟩
  refine pss_one ?_
  refine ps_ret ?_
  refine pe_and ?_ ?_
  · refine pe_cal (CX := CX0) (k := 2) ?_ ?_ ?_ ?_
    · exact C_is_fraction
    · exact hr.mono (by decide)
    · exact pass0
    refine pk ?_ ?_
    · exact pv 0
    exact pa_nil
  refine pe_one ?_
  refine pe_cmpR ?_ ?_ ?_ ?_
  · exact op_gt
  · refine pe_ix ?_ ?_ ?_ ?_
    · exact ix_seq
    · exact pv 0
    · exact pe_int
    exact fun _ _ => rfl
  · exact pe_int
  exact nomark _
/-! ### part_of -/
abbrev s_part_of : Stmt := top 13
theorem sc_part_of : FnScope ["one", "other"] ["one", "other"] (defScope s_part_of) := ⟨rfl, rfl, rfl, by decide +kernel, rfl, by decide +kernel, by decide +kernel⟩
theorem ok_part_of (T : Txt K mg c aN) (C_lowest : Cal P w K mg base CX0 2 "lowest" (spLow K)) {f : Addr} {fd : FuncData} (F : Fun K "part_of" "part_of" s_part_of f fd) : FnOk P w K mg base CX0 3 f fd ["one", "other"] (spPart K) := by
  refine F.ok sc_part_of (fun vs H Q E h => ?len) (fun cdv A outer s H vs Q E hr h => ?_)
  case len =>
    obtain ⟨_, _, _, _, _, _, rfl, _⟩ := h
    rfl
  have nd := sc_part_of.nd
  refine ⟨t_part_of K aN, ?_, rd_part_of T.v_NOUGHT h⟩
  refine pss_cons ?_ ?_
  · refine ps_if ?_ ?_ ?_
    · refine pt_cmpR ?_ ?_ ?_ ?_
      · exact op_eqA hr.units
      · exact pv 1
      · exact pe_gr rfl T.m_NOUGHT
      exact nomark _
    · refine pss_one ?_
      exact ps_never
    exact pss_nil
  refine pss_one ?_
  refine ps_ret ?_
  refine pe_cal (CX := CX0) (k := 2) ?_ ?_ ?_ ?_
  · exact C_lowest
  · exact hr.mono (by decide)
  · exact pass0
  refine pk ?_ ?_
  · refine pe_op ?_ ?_ ?_
    · exact op_mulX
    · refine pe_ix ?_ ?_ ?_ ?_
      · exact ix_seq
      · exact pv 0
      · exact pe_int
      exact fun _ _ => rfl
    refine pe_ix ?_ ?_ ?_ ?_
    · exact ix_seq
    · exact pv 1
    · exact pe_int
    exact fun _ _ => rfl
  refine pk ?_ ?_
  · refine pe_op ?_ ?_ ?_
    · exact op_mulX
    · refine pe_ix ?_ ?_ ?_ ?_
      · exact ix_seq
      · exact pv 0
      · exact pe_int
      exact fun _ _ => rfl
    refine pe_ix ?_ ?_ ?_ ?_
    · exact ix_seq
    · exact pv 1
    · exact pe_int
    exact fun _ _ => rfl
  exact pa_nil
/-! ### is_number_of -/
abbrev s_is_number_of : Stmt := top 17
theorem sc_is_number_of : FnScope ["many", "thing"] ["many", "thing"] (defScope s_is_number_of) := ⟨rfl, rfl, rfl, by decide +kernel, rfl, by decide +kernel, by decide +kernel⟩
theorem ok_is_number_of (T : Txt K mg c aN) (C_is_whole : Cal P w K mg base CX0 1 "is_whole" (spWhole K)) {f : Addr} {fd : FuncData} (F : Fun K "is_number_of" "is_number_of" s_is_number_of f fd) : FnOk P w K mg base CX0 2 f fd ["many", "thing"] (spPlace K) := by
  refine F.ok sc_is_number_of (fun vs H Q E h => ?len) (fun cdv A outer s H vs Q E hr h => ?_)
  case len =>
    obtain ⟨_, _, rfl, _⟩ := h
    rfl
  have nd := sc_is_number_of.nd
  refine ⟨t_is_number_of K, ?_, rd_is_number_of  h⟩
  refine pss_one ?_
  refine ps_ret ?_
  refine pe_and ?_ ?_
  · refine pe_cal (CX := CX0) (k := 1) ?_ ?_ ?_ ?_
    · exact C_is_whole
    · exact hr.mono (by decide)
    · exact pass0
    refine pk ?_ ?_
    · exact pv 1
    exact pa_nil
  refine pe_one ?_
  refine pe_chain ?_ ?_ ?_ ?_ ?_
  · exact op_le
  · exact op_lt
  · exact pe_int
  · exact pv 1
  exact pv 0
/-! ### are_unlike_places -/
abbrev s_are_unlike_places : Stmt := top 18
theorem sc_are_unlike_places : FnScope ["many", "start", "end"] ["many", "start", "end"] (defScope s_are_unlike_places) := ⟨rfl, rfl, rfl, by decide +kernel, rfl, by decide +kernel, by decide +kernel⟩
theorem ok_are_unlike_places (T : Txt K mg c aN) (C_is_number_of : Cal P w K mg base CX0 2 "is_number_of" (spPlace K)) {f : Addr} {fd : FuncData} (F : Fun K "are_unlike_places" "are_unlike_places" s_are_unlike_places f fd) : FnOk P w K mg base CX0 3 f fd ["many", "start", "end"] (spUnlike K) := by
  refine F.ok sc_are_unlike_places (fun vs H Q E h => ?len) (fun cdv A outer s H vs Q E hr h => ?_)
  case len =>
    obtain ⟨_, _, _, rfl, _⟩ := h
    rfl
  have nd := sc_are_unlike_places.nd
  refine ⟨t_are_unlike_places K, ?_, rd_are_unlike_places  h⟩
  refine pss_one ?_
  refine ps_ret ?_
  refine pe_and ?_ ?_
  · refine pe_cal (CX := CX0) (k := 2) ?_ ?_ ?_ ?_
    · exact C_is_number_of
    · exact hr.mono (by decide)
    · exact pass0
    refine pk ?_ ?_
    · exact pv 0
    refine pk ?_ ?_
    · exact pv 1
    exact pa_nil
  refine pe_and ?_ ?_
  · refine pe_cal (CX := CX0) (k := 2) ?_ ?_ ?_ ?_
    · exact C_is_number_of
    · exact hr.mono (by decide)
    · exact pass0
    refine pk ?_ ?_
    · exact pv 0
    refine pk ?_ ?_
    · exact pv 2
    exact pa_nil
  refine pe_one ?_
  refine pe_cmpR ?_ ?_ ?_ ?_
  · exact op_neA hr.units
  · exact pv 1
  · exact pv 2
  exact nomark _
/-! ### road_fault -/
abbrev s_road_fault : Stmt := top 19
theorem sc_road_fault : FnScope ["many", "road"] ["many", "road"] (defScope s_road_fault) := ⟨rfl, rfl, rfl, by decide +kernel, rfl, by decide +kernel, by decide +kernel⟩
theorem ok_road_fault (T : Txt K mg c aN) (C_are_unlike_places : Cal P w K mg base CX0 3 "are_unlike_places" (spUnlike K)) (C_is_from_nought : Cal P w K mg base CX0 3 "is_from_nought" (spIsF K)) {f : Addr} {fd : FuncData} (F : Fun K "road_fault" "road_fault" s_road_fault f fd) : FnOk P w K mg base CX0 4 f fd ["many", "road"] (spFault K) := by
  refine F.ok sc_road_fault (fun vs H Q E h => ?len) (fun cdv A outer s H vs Q E hr h => ?_)
  case len =>
    obtain ⟨_, _, _, rfl, _⟩ := h
    rfl
  have nd := sc_road_fault.nd
  refine ⟨t_road_fault K, ?_, rd_road_fault  h⟩
  refine pss_cons ?_ ?_
  · refine ps_if ?_ ?_ ?_
    · refine pt_cmpR ?_ ?_ ?_ ?_
      · exact op_neA hr.units
      · refine pe_callB (id := "len") ?_ ?_ ?_ ?_ ?_
        · exact call_len
        · rfl
        · exact T.n_len
        · exact bt_len
        refine pk ?_ ?_
        · exact pv 1
        exact pa_nil
      · exact pe_gi T.m_THINGS_OF_ROAD
      exact nomark _
    · refine pss_one ?_
      refine ps_ret ?_
      exact pe_str
    exact pss_nil
  refine pss_cons ?_ ?_
  · refine ps_if ?_ ?_ ?_
    · refine pt_not ?_
      refine pt_val ?_
      refine pe_cal (CX := CX0) (k := 3) ?_ ?_ ?_ ?_
      · exact C_are_unlike_places
      · exact hr.mono (by decide)
      · exact pass0
      refine pk ?_ ?_
      · exact pv 0
      refine pk ?_ ?_
      · refine pe_ix ?_ ?_ ?_ ?_
        · exact ix_seq
        · exact pv 1
        · exact pe_int
        exact fun _ _ => rfl
      refine pk ?_ ?_
      · refine pe_ix ?_ ?_ ?_ ?_
        · exact ix_seq
        · exact pv 1
        · exact pe_int
        exact fun _ _ => rfl
      exact pa_nil
    · refine pss_one ?_
      refine ps_ret ?_
      exact pe_str
    exact pss_nil
  refine pss_cons ?_ ?_
  · refine ps_if ?_ ?_ ?_
    · refine pt_not ?_
      refine pt_val ?_
      refine pe_cal (CX := CX0) (k := 3) ?_ ?_ ?_ ?_
      · exact C_is_from_nought
      · exact hr.mono (by decide)
      · exact pass0
      refine pk ?_ ?_
      · refine pe_ix ?_ ?_ ?_ ?_
        · exact ix_seq
        · exact pv 1
        · exact pe_int
        exact fun _ _ => rfl
      exact pa_nil
    · refine pss_one ?_
      refine ps_ret ?_
      exact pe_str
    exact pss_nil
  refine pss_cons ?_ ?_
  · refine ps_if ?_ ?_ ?_
    · refine pt_not ?_
      refine pt_val ?_
      refine pe_cal (CX := CX0) (k := 3) ?_ ?_ ?_ ?_
      · exact C_is_from_nought
      · exact hr.mono (by decide)
      · exact pass0
      refine pk ?_ ?_
      · refine pe_ix ?_ ?_ ?_ ?_
        · exact ix_seq
        · exact pv 1
        · exact pe_int
        exact fun _ _ => rfl
      exact pa_nil
    · refine pss_one ?_
      refine ps_ret ?_
      exact pe_str
    exact pss_nil
  refine pss_cons ?_ ?_
  · refine ps_if ?_ ?_ ?_
    · refine pt_not ?_
      refine pt_val ?_
      refine pe_callB (id := "isinstance") ?_ ?_ ?_ ?_ ?_
      · exact call_isiK (K := K) rfl
      · rfl
      · exact T.n_isinstance
      · exact bt_isinstance
      refine pk ?_ ?_
      · refine pe_ix ?_ ?_ ?_ ?_
        · exact ix_seq
        · exact pv 1
        · exact pe_int
        exact fun _ _ => rfl
      refine pk ?_ ?_
      · exact pe_bt rfl T.n_bool bt_bool
      exact pa_nil
    · refine pss_one ?_
      refine ps_ret ?_
      exact pe_str
    exact pss_nil
  refine pss_one ?_
  refine ps_ret ?_
  exact pe_non
/-! ### opened_net -/
abbrev s_opened_net : Stmt := top 21
theorem sc_opened_net : FnScope ["net", "road", "fault"] ["net", "road"] (defScope s_opened_net) := ⟨rfl, rfl, rfl, by decide +kernel, rfl, by decide +kernel, by decide +kernel⟩
theorem ok_opened_net (T : Txt K mg c aN) (C_road_fault : Cal P w K mg base CX0 4 "road_fault" (spFault K)) {f : Addr} {fd : FuncData} (F : Fun K "opened_net" "opened_net" s_opened_net f fd) : FnOk P w K mg base CX0 5 f fd ["net", "road"] (spOpened K) := by
  refine F.ok sc_opened_net (fun vs H Q E h => ?len) (fun cdv A outer s H vs Q E hr h => ?_)
  case len =>
    obtain ⟨_, _, _, _, _, _, rfl, _⟩ := h
    rfl
  have nd := sc_opened_net.nd
  refine ⟨t_opened_net K, ?_, rd_opened_net  h⟩
  refine pss_cons ?_ ?_
  · refine ps_if ?_ ?_ ?_
    · refine pt_cmpR ?_ ?_ ?_ ?_
      · exact op_ge
      · refine pe_callB (id := "len") ?_ ?_ ?_ ?_ ?_
        · exact call_len
        · rfl
        · exact T.n_len
        · exact bt_len
        refine pk ?_ ?_
        · refine pe_ix ?_ ?_ ?_ ?_
          · exact ix_seq
          · exact pv 0
          · exact pe_int
          exact fun _ _ => rfl
        exact pa_nil
      · exact pe_gi T.m_MOST_ROADS
      exact nomark _
    · refine pss_one ?_
      exact ps_never
    exact pss_nil
  refine pss_cons ?_ ?_
  · refine ps_st (i := 2) ?_
    refine pe_cal (CX := CX0) (k := 4) ?_ ?_ ?_ ?_
    · exact C_road_fault
    · exact hr.mono (by decide)
    · exact pass0
    refine pk ?_ ?_
    · refine pe_ix ?_ ?_ ?_ ?_
      · exact ix_seq
      · exact pv 0
      · exact pe_int
      exact fun _ _ => rfl
    refine pk ?_ ?_
    · exact pv 1
    exact pa_nil
  refine pss_cons ?_ ?_
  · refine ps_if ?_ ?_ ?_
    · refine pt_cmpR ?_ ?_ ?_ ?_
      · exact op_notN
      · exact pv 2
      · exact pe_non
      exact nomark _
    · refine pss_one ?_
      exact ps_never
    exact pss_nil
  refine pss_one ?_
  refine ps_ret ?_
  refine pe_tup ?_
  refine pk ?_ ?_
  · refine pe_ix ?_ ?_ ?_ ?_
    · exact ix_seq
    · exact pv 0
    · exact pe_int
    exact fun _ _ => rfl
  refine pk ?_ ?_
  · refine pe_op ?_ ?_ ?_
    · exact op_addA
    · refine pe_ix ?_ ?_ ?_ ?_
      · exact ix_seq
      · exact pv 0
      · exact pe_int
      exact fun _ _ => rfl
    refine pe_lst ?_
    refine pk ?_ ?_
    · exact pv 1
    exact pa_nil
  exact pa_nil
/-! ### check_road -/
abbrev s_check_road : Stmt := top 22
theorem sc_check_road : FnScope ["net", "number"] ["net", "number"] (defScope s_check_road) := ⟨rfl, rfl, rfl, by decide +kernel, rfl, by decide +kernel, by decide +kernel⟩
theorem ok_check_road (T : Txt K mg c aN) (C_is_number_of : Cal P w K mg base CX0 2 "is_number_of" (spPlace K)) {f : Addr} {fd : FuncData} (F : Fun K "check_road" "check_road" s_check_road f fd) : FnOk P w K mg base CX0 3 f fd ["net", "number"] (spCheck K) := by
  refine F.ok sc_check_road (fun vs H Q E h => ?len) (fun cdv A outer s H vs Q E hr h => ?_)
  case len =>
    obtain ⟨_, _, _, _, _, rfl, _⟩ := h
    rfl
  have nd := sc_check_road.nd
  refine ⟨t_check_road K, ?_, rd_check_road  h⟩
  refine pss_one ?_
  refine ps_if ?_ ?_ ?_
  · refine pt_not ?_
    refine pt_val ?_
    refine pe_cal (CX := CX0) (k := 2) ?_ ?_ ?_ ?_
    · exact C_is_number_of
    · exact hr.mono (by decide)
    · exact pass0
    refine pk ?_ ?_
    · refine pe_callB (id := "len") ?_ ?_ ?_ ?_ ?_
      · exact call_len
      · rfl
      · exact T.n_len
      · exact bt_len
      refine pk ?_ ?_
      · refine pe_ix ?_ ?_ ?_ ?_
        · exact ix_seq
        · exact pv 0
        · exact pe_int
        exact fun _ _ => rfl
      exact pa_nil
    refine pk ?_ ?_
    · exact pv 1
    exact pa_nil
  · refine pss_one ?_
    exact ps_never
  exact pss_nil
/-! ### closed_net -/
abbrev s_closed_net : Stmt := top 23
theorem sc_closed_net : FnScope ["net", "number"] ["net", "number"] (defScope s_closed_net) := ⟨rfl, rfl, rfl, by decide +kernel, rfl, by decide +kernel, by decide +kernel⟩
theorem ok_closed_net (T : Txt K mg c aN) (C_check_road : Cal P w K mg base CX0 3 "check_road" (spCheck K)) {f : Addr} {fd : FuncData} (F : Fun K "closed_net" "closed_net" s_closed_net f fd) : FnOk P w K mg base CX0 4 f fd ["net", "number"] (spClosed K) := by
  refine F.ok sc_closed_net (fun vs H Q E h => ?len) (fun cdv A outer s H vs Q E hr h => ?_)
  case len =>
    obtain ⟨_, _, _, _, _, rfl, _⟩ := h
    rfl
  have nd := sc_closed_net.nd
  refine ⟨t_closed_net K, ?_, rd_closed_net  h⟩
  refine pss_cons ?_ ?_
  · refine ps_expr ?_
    refine pe_cal (CX := CX0) (k := 3) ?_ ?_ ?_ ?_
    · exact C_check_road
    · exact hr.mono (by decide)
    · exact pass0
    refine pk ?_ ?_
    · exact pv 0
    refine pk ?_ ?_
    · exact pv 1
    exact pa_nil
  refine pss_one ?_
  refine ps_ret ?_
  refine pe_tup ?_
  refine pk ?_ ?_
  · refine pe_ix ?_ ?_ ?_ ?_
    · exact ix_seq
    · exact pv 0
    · exact pe_int
    exact fun _ _ => rfl
  refine pk ?_ ?_
  · refine pe_op ?_ ?_ ?_
    · exact op_addA
    · refine pe_slice ?_ ?_ ?_ ?_
      · exact sl_list
      · refine pe_ix ?_ ?_ ?_ ?_
        · exact ix_seq
        · exact pv 0
        · exact pe_int
        exact fun _ _ => rfl
      · exact po_none
      · refine po_some ?_
        exact pv 1
    refine pe_slice ?_ ?_ ?_ ?_
    · exact sl_list
    · refine pe_ix ?_ ?_ ?_ ?_
      · exact ix_seq
      · exact pv 0
      · exact pe_int
      exact fun _ _ => rfl
    · refine po_some ?_
      refine pe_op ?_ ?_ ?_
      · exact op_addA
      · exact pv 1
      exact pe_int
    · exact po_none
  exact pa_nil
/-! ### widened_road -/
abbrev s_widened_road : Stmt := top 24
theorem sc_widened_road : FnScope ["road", "by"] ["road", "by"] (defScope s_widened_road) := ⟨rfl, rfl, rfl, by decide +kernel, rfl, by decide +kernel, by decide +kernel⟩
theorem ok_widened_road (T : Txt K mg c aN) (C_part_of : Cal P w K mg base CX0 3 "part_of" (spPart K)) {f : Addr} {fd : FuncData} (F : Fun K "widened_road" "widened_road" s_widened_road f fd) : FnOk P w K mg base CX0 4 f fd ["road", "by"] (spWRoad K) := by
  refine F.ok sc_widened_road (fun vs H Q E h => ?len) (fun cdv A outer s H vs Q E hr h => ?_)
  case len =>
    obtain ⟨_, _, _, _, _, rfl, _⟩ := h
    rfl
  have nd := sc_widened_road.nd
  refine ⟨t_widened_road K, ?_, rd_widened_road  h⟩
  refine pss_one ?_
  refine ps_ret ?_
  refine pe_tup ?_
  refine pk ?_ ?_
  · refine pe_ix ?_ ?_ ?_ ?_
    · exact ix_seq
    · exact pv 0
    · exact pe_int
    exact fun _ _ => rfl
  refine pk ?_ ?_
  · refine pe_ix ?_ ?_ ?_ ?_
    · exact ix_seq
    · exact pv 0
    · exact pe_int
    exact fun _ _ => rfl
  refine pk ?_ ?_
  · refine pe_ix ?_ ?_ ?_ ?_
    · exact ix_seq
    · exact pv 0
    · exact pe_int
    exact fun _ _ => rfl
  refine pk ?_ ?_
  · refine pe_cal (CX := CX0) (k := 3) ?_ ?_ ?_ ?_
    · exact C_part_of
    · exact hr.mono (by decide)
    · exact pass0
    refine pk ?_ ?_
    · refine pe_ix ?_ ?_ ?_ ?_
      · exact ix_seq
      · exact pv 0
      · exact pe_int
      exact fun _ _ => rfl
    refine pk ?_ ?_
    · exact pv 1
    exact pa_nil
  refine pk ?_ ?_
  · refine pe_ix ?_ ?_ ?_ ?_
    · exact ix_seq
    · exact pv 0
    · exact pe_int
    exact fun _ _ => rfl
  exact pa_nil
/-! ### widened_net -/
abbrev s_widened_net : Stmt := top 25
theorem sc_widened_net : FnScope ["net", "number", "by", "roads"] ["net", "number", "by"] (defScope s_widened_net) := ⟨rfl, rfl, rfl, by decide +kernel, rfl, by decide +kernel, by decide +kernel⟩
theorem ok_widened_net (T : Txt K mg c aN) (C_check_road : Cal P w K mg base CX0 3 "check_road" (spCheck K)) (C_widened_road : Cal P w K mg base CX0 4 "widened_road" (spWRoad K)) (C_is_above_nought : Cal P w K mg base CX0 3 "is_above_nought" (spAbove K)) {f : Addr} {fd : FuncData} (F : Fun K "widened_net" "widened_net" s_widened_net f fd) : FnOk P w K mg base CX0 5 f fd ["net", "number", "by"] (spWidened K) := by
  refine F.ok sc_widened_net (fun vs H Q E h => ?len) (fun cdv A outer s H vs Q E hr h => ?_)
  case len =>
    obtain ⟨_, _, _, _, _, _, _, _, _, _, rfl, _⟩ := h
    rfl
  have nd := sc_widened_net.nd
  refine ⟨t_widened_net K, ?_, rd_widened_net  h⟩
  refine pss_cons ?_ ?_
  · refine ps_expr ?_
    refine pe_cal (CX := CX0) (k := 3) ?_ ?_ ?_ ?_
    · exact C_check_road
    · exact hr.mono (by decide)
    · exact pass0
    refine pk ?_ ?_
    · exact pv 0
    refine pk ?_ ?_
    · exact pv 1
    exact pa_nil
  refine pss_cons ?_ ?_
  · refine ps_if ?_ ?_ ?_
    · refine pt_not ?_
      refine pt_val ?_
      refine pe_cal (CX := CX0) (k := 3) ?_ ?_ ?_ ?_
      · exact C_is_above_nought
      · exact hr.mono (by decide)
      · exact pass0
      refine pk ?_ ?_
      · exact pv 2
      exact pa_nil
    · refine pss_one ?_
      exact ps_never
    exact pss_nil
  refine pss_cons ?_ ?_
  · refine ps_st (i := 3) ?_
    refine pe_callTy (T := "list") ?_ ?_ ?_ ?_ ?_
    · exact call_list_of
    · rfl
    · exact T.n_list
    · exact bt_list
    refine pk ?_ ?_
    · refine pe_ix ?_ ?_ ?_ ?_
      · exact ix_seq
      · exact pv 0
      · exact pe_int
      exact fun _ _ => rfl
    exact pa_nil
  refine pss_cons ?_ ?_
  · refine ps_asg ?_ ?_
    · refine pe_cal (CX := CX0) (k := 4) ?_ ?_ ?_ ?_
      · exact C_widened_road
      · exact hr.mono (by decide)
      · exact pass0
      refine pk ?_ ?_
      · refine pe_ix ?_ ?_ ?_ ?_
        · exact ix_seq
        · exact pv 3
        · exact pv 1
        exact fun _ _ => rfl
      refine pk ?_ ?_
      · exact pv 2
      exact pa_nil
    refine pg_sub ?_ ?_ ?_
    · exact pv 3
    · exact pv 1
    exact set_list
  refine pss_one ?_
  refine ps_ret ?_
  refine pe_tup ?_
  refine pk ?_ ?_
  · refine pe_ix ?_ ?_ ?_ ?_
    · exact ix_seq
    · exact pv 0
    · exact pe_int
    exact fun _ _ => rfl
  refine pk ?_ ?_
  · exact pv 3
  exact pa_nil
/-! ### _law_whole -/
abbrev s__law_whole : Stmt := top 27
theorem sc__law_whole : FnScope ["_law_found"] ["_law_found"] (defScope s__law_whole) := ⟨rfl, rfl, rfl, by decide +kernel, rfl, by decide +kernel, by decide +kernel⟩
theorem ok__law_whole (T : Txt K mg c aN)  {f : Addr} {fd : FuncData} (F : Fun K "_law_whole" "_law_whole" s__law_whole f fd) : FnOk P w K mg base CX0 1 f fd ["_law_found"] (spWhole K) := by
  refine F.ok sc__law_whole (fun vs H Q E h => ?len) (fun cdv A outer s H vs Q E hr h => ?_)
  case len =>
    obtain ⟨_, _, rfl, _⟩ := h
    rfl
  have nd := sc__law_whole.nd
  refine ⟨t__law_whole K, ?_, rd__law_whole  h⟩
  refine pss_one ?_
  refine ps_ret ?_
  refine pe_and ?_ ?_
  · refine pe_callB (id := "isinstance") ?_ ?_ ?_ ?_ ?_
    · exact call_isiK (K := K) rfl
    · rfl
    · exact T.n_isinstance
    · exact bt_isinstance
    refine pk ?_ ?_
    · exact pv 0
    refine pk ?_ ?_
    · exact pe_bt rfl T.n_int bt_int
    exact pa_nil
  refine pe_one ?_
  refine pe_not ?_
  refine pe_callB (id := "isinstance") ?_ ?_ ?_ ?_ ?_
  · exact call_isiK (K := K) rfl
  · rfl
  · exact T.n_isinstance
  · exact bt_isinstance
  refine pk ?_ ?_
  · exact pv 0
  refine pk ?_ ?_
  · exact pe_bt rfl T.n_bool bt_bool
  exact pa_nil
/-! ### _law_cell -/
abbrev s__law_cell : Stmt := top 28
theorem sc__law_cell : FnScope ["_law_script", "_law_k", "_law_number"] ["_law_script", "_law_k"] (defScope s__law_cell) := ⟨rfl, rfl, rfl, by decide +kernel, rfl, by decide +kernel, by decide +kernel⟩
theorem ok__law_cell (T : Txt K mg c aN)  {f : Addr} {fd : FuncData} (F : Fun K "_law_cell" "_law_cell" s__law_cell f fd) : FnOk P w K mg base CX0 1 f fd ["_law_script", "_law_k"] (spCell K) := by
  refine F.ok sc__law_cell (fun vs H Q E h => ?len) (fun cdv A outer s H vs Q E hr h => ?_)
  case len =>
    obtain ⟨_, _, _, rfl, _⟩ := h
    rfl
  have nd := sc__law_cell.nd
  refine ⟨t__law_cell K, ?_, rd__law_cell  h⟩
  refine pss_cons ?_ ?_
  · refine ps_if ?_ ?_ ?_
    · refine pt_cmpR ?_ ?_ ?_ ?_
      · exact op_lt
      · exact pv 1
      · refine pe_callB (id := "len") ?_ ?_ ?_ ?_ ?_
        · exact call_len
        · rfl
        · exact T.n_len
        · exact bt_len
        refine pk ?_ ?_
        · exact pv 0
        exact pa_nil
      exact nomark _
    · refine pss_one ?_
      refine ps_ret ?_
      refine pe_ix ?_ ?_ ?_ ?_
      · exact ix_seq
      · exact pv 0
      · exact pv 1
      exact fun _ _ => rfl
    exact pss_nil
  refine pss_cons ?_ ?_
  · refine ps_st (i := 2) ?_
    refine pe_op ?_ ?_ ?_
    · exact op_addA
    · refine pe_op ?_ ?_ ?_
      · exact op_mulX
      · refine pe_op ?_ ?_ ?_
        · exact op_mulX
        · exact pv 1
        exact pv 1
      exact pe_int
    exact pe_int
  refine pss_cons ?_ ?_
  · refine ps_if ?_ ?_ ?_
    · refine pt_cmpR ?_ ?_ ?_ ?_
      · exact op_gt
      · refine pe_callB (id := "len") ?_ ?_ ?_ ?_ ?_
        · exact call_len
        · rfl
        · exact T.n_len
        · exact bt_len
        refine pk ?_ ?_
        · exact pv 0
        exact pa_nil
      · exact pe_int
      exact nomark _
    · refine pss_one ?_
      refine ps_st (i := 2) ?_
      refine pe_op ?_ ?_ ?_
      · exact op_addA
      · exact pv 2
      refine pe_op ?_ ?_ ?_
      · exact op_mulX
      · refine pe_op ?_ ?_ ?_
        · exact op_mod
        · refine pe_ix ?_ ?_ ?_ ?_
          · exact ix_seq
          · exact pv 0
          · refine pe_op ?_ ?_ ?_
            · exact op_mod
            · refine pe_op ?_ ?_ ?_
              · exact op_mulX
              · exact pv 1
              exact pe_int
            refine pe_callB (id := "len") ?_ ?_ ?_ ?_ ?_
            · exact call_len
            · rfl
            · exact T.n_len
            · exact bt_len
            refine pk ?_ ?_
            · exact pv 0
            exact pa_nil
          exact fun _ _ => rfl
        exact pe_int
      exact pe_int
    exact pss_nil
  refine pss_one ?_
  refine ps_ret ?_
  refine pe_op ?_ ?_ ?_
  · exact op_mod
  · refine pe_op ?_ ?_ ?_
    · exact op_mulX
    · exact pv 2
    exact pe_int
  exact pe_int
/-! ### _law_mixed -/
abbrev s__law_mixed : Stmt := top 29
theorem sc__law_mixed : FnScope ["_law_script", "_law_k"] ["_law_script", "_law_k"] (defScope s__law_mixed) := ⟨rfl, rfl, rfl, by decide +kernel, rfl, by decide +kernel, by decide +kernel⟩
theorem ok__law_mixed (T : Txt K mg c aN) (C__law_cell : Cal P w K mg base CX0 1 "_law_cell" (spCell K)) {f : Addr} {fd : FuncData} (F : Fun K "_law_mixed" "_law_mixed" s__law_mixed f fd) : FnOk P w K mg base CX0 2 f fd ["_law_script", "_law_k"] (spMixed K) := by
  refine F.ok sc__law_mixed (fun vs H Q E h => ?len) (fun cdv A outer s H vs Q E hr h => ?_)
  case len =>
    obtain ⟨_, _, _, rfl, _⟩ := h
    rfl
  have nd := sc__law_mixed.nd
  refine ⟨t__law_mixed K, ?_, rd__law_mixed  h⟩
  refine pss_one ?_
  refine ps_ret ?_
  refine pe_op ?_ ?_ ?_
  · exact op_mod
  · refine pe_op ?_ ?_ ?_
    · exact op_mulX
    · refine pe_op ?_ ?_ ?_
      · exact op_mod
      · refine pe_cal (CX := CX0) (k := 1) ?_ ?_ ?_ ?_
        · exact C__law_cell
        · exact hr.mono (by decide)
        · exact pass0
        refine pk ?_ ?_
        · exact pv 0
        refine pk ?_ ?_
        · exact pv 1
        exact pa_nil
      exact pe_int
    exact pe_int
  exact pe_int
/-! ### _law_lowest -/
abbrev s__law_lowest : Stmt := top 30
theorem sc__law_lowest : FnScope ["_law_top", "_law_bottom", "_law_one", "_law_other"] ["_law_top", "_law_bottom"] (defScope s__law_lowest) := ⟨rfl, rfl, rfl, by decide +kernel, rfl, by decide +kernel, by decide +kernel⟩
theorem ok__law_lowest (T : Txt K mg c aN)  {f : Addr} {fd : FuncData} (F : Fun K "_law_lowest" "_law_lowest" s__law_lowest f fd) : FnOk P w K mg base CX0 1 f fd ["_law_top", "_law_bottom"] (spLLow K) := by
  refine F.ok sc__law_lowest (fun vs H Q E h => ?len) (fun cdv A outer s H vs Q E hr h => ?_)
  case len =>
    obtain ⟨_, _, rfl, _⟩ := h
    rfl
  have nd := sc__law_lowest.nd
  refine ⟨t__law_lowest K, ?_, rd__law_lowest  h⟩
  refine pss_cons ?_ ?_
  · refine ps_st (i := 2) ?_
    refine pe_callB (id := "abs") ?_ ?_ ?_ ?_ ?_
    · exact call_abs
    · rfl
    · exact T.n_abs
    · exact bt_abs
    refine pk ?_ ?_
    · exact pv 0
    exact pa_nil
  refine pss_cons ?_ ?_
  · refine ps_st (i := 3) ?_
    exact pv 1
  refine pss_cons ?_ ?_
  · refine ps_while ?_ ?_ ?_
    · exact PassesOwn.never
    · refine pt_cmpR ?_ ?_ ?_ ?_
      · exact op_neA hr.units
      · exact pv 3
      · exact pe_int
      exact nomark _
    refine pss_one ?_
    refine ps_pr (i := 2) (j := 3) ?_
    refine pk ?_ ?_
    · exact pv 3
    refine pk ?_ ?_
    · refine pe_op ?_ ?_ ?_
      · exact op_mod
      · exact pv 2
      exact pv 3
    exact pa_nil
  refine pss_one ?_
  refine ps_ret ?_
  refine pe_tup ?_
  refine pk ?_ ?_
  · refine pe_op ?_ ?_ ?_
    · exact op_fdivB
    · exact pv 0
    exact pv 2
  refine pk ?_ ?_
  · refine pe_op ?_ ?_ ?_
    · exact op_fdivB
    · exact pv 1
    exact pv 2
  exact pa_nil
/-! ### _law_fraction -/
abbrev s__law_fraction : Stmt := top 31
theorem sc__law_fraction : FnScope ["_law_script", "_law_k", "_law_far", "_law_number", "_law_top", "_law_cell_here"] ["_law_script", "_law_k"] (defScope s__law_fraction) := ⟨rfl, rfl, rfl, by decide +kernel, rfl, by decide +kernel, by decide +kernel⟩
theorem ok__law_fraction (T : Txt K mg c aN) (C__law_mixed : Cal P w K mg base CX0 2 "_law_mixed" (spMixed K)) (C__law_lowest : Cal P w K mg base CX0 1 "_law_lowest" (spLLow K)) {f : Addr} {fd : FuncData} (F : Fun K "_law_fraction" "_law_fraction" s__law_fraction f fd) : FnOk P w K mg base CX0 3 f fd ["_law_script", "_law_k"] (spFrac K) := by
  refine F.ok sc__law_fraction (fun vs H Q E h => ?len) (fun cdv A outer s H vs Q E hr h => ?_)
  case len =>
    obtain ⟨_, _, _, rfl, _⟩ := h
    rfl
  have nd := sc__law_fraction.nd
  refine ⟨t__law_fraction K, ?_, rd__law_fraction  h⟩
  refine pss_cons ?_ ?_
  · refine ps_st (i := 2) ?_
    refine pe_ix ?_ ?_ ?_ ?_
    · exact ix_seq
    · refine pe_lst ?_
      refine pk ?_ ?_
      · exact pe_int
      refine pk ?_ ?_
      · refine pe_op ?_ ?_ ?_
        · exact op_pow
        · exact pe_int
        exact pe_int
      refine pk ?_ ?_
      · refine pe_op ?_ ?_ ?_
        · exact op_pow
        · exact pe_int
        exact pe_int
      exact pa_nil
    · refine pe_op ?_ ?_ ?_
      · exact op_mod
      · refine pe_cal (CX := CX0) (k := 2) ?_ ?_ ?_ ?_
        · exact C__law_mixed
        · exact hr.mono (by decide)
        · exact pass0
        refine pk ?_ ?_
        · exact pv 0
        refine pk ?_ ?_
        · exact pe_int
        exact pa_nil
      exact pe_int
    exact fun _ _ => rfl
  refine pss_cons ?_ ?_
  · refine ps_st (i := 3) ?_
    refine pe_cal (CX := CX0) (k := 2) ?_ ?_ ?_ ?_
    · exact C__law_mixed
    · exact hr.mono (by decide)
    · exact pass0
    refine pk ?_ ?_
    · exact pv 0
    refine pk ?_ ?_
    · refine pe_op ?_ ?_ ?_
      · exact op_addA
      · exact pe_int
      exact pv 1
    exact pa_nil
  refine pss_cons ?_ ?_
  · refine ps_st (i := 4) ?_
    exact pe_int
  refine pss_cons ?_ ?_
  · refine ps_for ?_ ?_ ?_ ?_ ?_
    · exact PassesOwn.never
    · rfl
    · refine pi_list ?_
      refine pe_slS ?_ ?_ ?_ ?_
      · exact pv 0
      · refine po_some ?_
        exact pv 1
      · refine po_some ?_
        exact pe_int
      refine po_some ?_
      exact pe_int
    · exact pg_nm 5
    refine pss_one ?_
    refine ps_st (i := 4) ?_
    refine pe_op ?_ ?_ ?_
    · exact op_mod
    · refine pe_op ?_ ?_ ?_
      · exact op_addA
      · refine pe_op ?_ ?_ ?_
        · exact op_addA
        · refine pe_op ?_ ?_ ?_
          · exact op_mulX
          · exact pv 4
          exact pe_int
        refine pe_op ?_ ?_ ?_
        · exact op_mod
        · exact pv 5
        exact pe_int
      exact pv 3
    exact pv 2
  refine pss_one ?_
  refine ps_ret ?_
  refine pe_cal (CX := CX0) (k := 1) ?_ ?_ ?_ ?_
  · exact C__law_lowest
  · exact hr.mono (by decide)
  · exact pass0
  refine pk ?_ ?_
  · refine pe_op ?_ ?_ ?_
    · exact op_mulX
    · refine pe_op ?_ ?_ ?_
      · exact op_mod
      · refine pe_op ?_ ?_ ?_
        · exact op_addA
        · exact pv 4
        refine pe_op ?_ ?_ ?_
        · exact op_fdivB
        · exact pv 3
        exact pe_int
      exact pv 2
    refine pe_callTy (T := "int") ?_ ?_ ?_ ?_ ?_
    · exact call_int1
    · rfl
    · exact T.n_int
    · exact bt_int
    refine pk ?_ ?_
    · refine pe_cmpR ?_ ?_ ?_ ?_
      · exact op_gt
      · refine pe_op ?_ ?_ ?_
        · exact op_mod
        · exact pv 3
        exact pe_int
      · exact pe_int
      exact nomark _
    exact pa_nil
  refine pk ?_ ?_
  · refine pe_op ?_ ?_ ?_
    · exact op_addA
    · exact pe_int
    refine pe_op ?_ ?_ ?_
    · exact op_mod
    · refine pe_op ?_ ?_ ?_
      · exact op_fdivB
      · exact pv 3
      exact pe_int
    exact pe_int
  exact pa_nil
/-! ### _law_road -/
abbrev s__law_road : Stmt := top 32
theorem sc__law_road : FnScope ["_law_script", "_law_k", "_law_many", "_law_cell_here", "_law_start", "_law_end"] ["_law_script", "_law_k", "_law_many"] (defScope s__law_road) := ⟨rfl, rfl, rfl, by decide +kernel, rfl, by decide +kernel, by decide +kernel⟩
theorem ok__law_road (T : Txt K mg c aN) (C__law_mixed : Cal P w K mg base CX0 2 "_law_mixed" (spMixed K)) (C__law_fraction : Cal P w K mg base CX0 3 "_law_fraction" (spFrac K)) {f : Addr} {fd : FuncData} (F : Fun K "_law_road" "_law_road" s__law_road f fd) : FnOk P w K mg base CX0 4 f fd ["_law_script", "_law_k", "_law_many"] (spRoad K) := by
  refine F.ok sc__law_road (fun vs H Q E h => ?len) (fun cdv A outer s H vs Q E hr h => ?_)
  case len =>
    obtain ⟨_, _, _, _, rfl, _⟩ := h
    rfl
  have nd := sc__law_road.nd
  refine ⟨t__law_road K, ?_, rd__law_road  h⟩
  refine pss_cons ?_ ?_
  · refine ps_st (i := 3) ?_
    refine pe_cal (CX := CX0) (k := 2) ?_ ?_ ?_ ?_
    · exact C__law_mixed
    · exact hr.mono (by decide)
    · exact pass0
    refine pk ?_ ?_
    · exact pv 0
    refine pk ?_ ?_
    · refine pe_op ?_ ?_ ?_
      · exact op_addA
      · exact pe_int
      exact pv 1
    exact pa_nil
  refine pss_cons ?_ ?_
  · refine ps_st (i := 4) ?_
    refine pe_op ?_ ?_ ?_
    · exact op_mod
    · exact pv 3
    exact pv 2
  refine pss_cons ?_ ?_
  · refine ps_st (i := 5) ?_
    refine pe_op ?_ ?_ ?_
    · exact op_mod
    · refine pe_op ?_ ?_ ?_
      · exact op_addA
      · refine pe_op ?_ ?_ ?_
        · exact op_addA
        · exact pv 4
        exact pe_int
      refine pe_op ?_ ?_ ?_
      · exact op_mod
      · refine pe_op ?_ ?_ ?_
        · exact op_fdivB
        · exact pv 3
        exact pe_int
      refine pe_op ?_ ?_ ?_
      · exact op_sub
      · exact pv 2
      exact pe_int
    exact pv 2
  refine pss_one ?_
  refine ps_ret ?_
  refine pe_tup ?_
  refine pk ?_ ?_
  · exact pv 4
  refine pk ?_ ?_
  · exact pv 5
  refine pk ?_ ?_
  · refine pe_cal (CX := CX0) (k := 3) ?_ ?_ ?_ ?_
    · exact C__law_fraction
    · exact hr.mono (by decide)
    · exact pass0
    refine pk ?_ ?_
    · exact pv 0
    refine pk ?_ ?_
    · exact pv 1
    exact pa_nil
  refine pk ?_ ?_
  · refine pe_cal (CX := CX0) (k := 3) ?_ ?_ ?_ ?_
    · exact C__law_fraction
    · exact hr.mono (by decide)
    · exact pass0
    refine pk ?_ ?_
    · exact pv 0
    refine pk ?_ ?_
    · refine pe_op ?_ ?_ ?_
      · exact op_addA
      · exact pe_int
      exact pv 1
    exact pa_nil
  refine pk ?_ ?_
  · refine pe_cmpR ?_ ?_ ?_ ?_
    · exact op_eqA hr.units
    · refine pe_op ?_ ?_ ?_
      · exact op_mod
      · refine pe_op ?_ ?_ ?_
        · exact op_fdivB
        · exact pv 3
        exact pe_int
      exact pe_int
    · exact pe_int
    exact nomark _
  exact pa_nil
/-! ### _law_alike -/
abbrev s__law_alike : Stmt := top 33
theorem sc__law_alike : FnScope ["_law_found", "_law_due"] ["_law_found", "_law_due"] (defScope s__law_alike) := ⟨rfl, rfl, rfl, by decide +kernel, rfl, by decide +kernel, by decide +kernel⟩
theorem ok__law_alike (T : Txt K mg c aN) (d : Nat) (C_self : Cal P w K mg base CX0 d "_law_alike" (spAlike K d)) (C__law_whole : Cal P w K mg base CX0 1 "_law_whole" (spWhole K)) {f : Addr} {fd : FuncData} (F : Fun K "_law_alike" "_law_alike" s__law_alike f fd) : FnOk P w K mg base CX0 (d + 1) f fd ["_law_found", "_law_due"] (spAlike K (d + 1)) := by
  refine F.ok sc__law_alike (fun vs H Q E h => ?len) (fun cdv A outer s H vs Q E hr h => ?_)
  case len =>
    obtain ⟨_, _, _, rfl, _⟩ := h
    rfl
  have nd := sc__law_alike.nd
  have hd1 := spAlike_deep h
  refine ⟨t__law_alike K d, ?_, rd__law_alike  h⟩
  refine pss_cons ?_ ?_
  · refine ps_if ?_ ?_ ?_
    · refine pt_val ?_
      refine pe_callB (id := "isinstance") ?_ ?_ ?_ ?_ ?_
      · exact call_isiUK (K := K) rfl
      · rfl
      · exact T.n_isinstance
      · exact bt_isinstance
      refine pk ?_ ?_
      · exact pv 1
      refine pk ?_ ?_
      · refine pe_tup ?_
        refine pk ?_ ?_
        · exact pe_bt rfl T.n_tuple bt_tuple
        refine pk ?_ ?_
        · exact pe_bt rfl T.n_list bt_list
        exact pa_nil
      exact pa_nil
    · refine pss_cons ?_ ?_
      · refine ps_if ?_ ?_ ?_
        · refine PW.pt ?_
          refine pw_or ?_ ?_
          · refine pt_cmpR ?_ ?_ ?_ ?_
            · exact op_neA hr.units
            · refine pe_callB (id := "isinstance") ?_ ?_ ?_ ?_ ?_
              · exact call_isiK (K := K) rfl
              · rfl
              · exact T.n_isinstance
              · exact bt_isinstance
              refine pk ?_ ?_
              · exact pv 1
              refine pk ?_ ?_
              · exact pe_bt rfl T.n_list bt_list
              exact pa_nil
            · refine pe_callB (id := "isinstance") ?_ ?_ ?_ ?_ ?_
              · exact call_isiK (K := K) rfl
              · rfl
              · exact T.n_isinstance
              · exact bt_isinstance
              refine pk ?_ ?_
              · exact pv 0
              refine pk ?_ ?_
              · exact pe_bt rfl T.n_list bt_list
              exact pa_nil
            exact nomark _
          refine pw_or1 ?_
          refine pt_not ?_
          refine pt_val ?_
          refine pe_callB (id := "isinstance") ?_ ?_ ?_ ?_ ?_
          · exact call_isiUK (K := K) rfl
          · rfl
          · exact T.n_isinstance
          · exact bt_isinstance
          refine pk ?_ ?_
          · exact pv 0
          refine pk ?_ ?_
          · refine pe_tup ?_
            refine pk ?_ ?_
            · exact pe_bt rfl T.n_tuple bt_tuple
            refine pk ?_ ?_
            · exact pe_bt rfl T.n_list bt_list
            exact pa_nil
          exact pa_nil
        · refine pss_one ?_
          refine ps_ret ?_
          exact pe_bl
        exact pss_nil
      refine pss_cons ?_ ?_
      · refine ps_if ?_ ?_ ?_
        · refine pt_cmpR ?_ ?_ ?_ ?_
          · exact op_neA hr.units
          · refine pe_callB (id := "len") ?_ ?_ ?_ ?_ ?_
            · exact call_len
            · rfl
            · exact T.n_len
            · exact bt_len
            refine pk ?_ ?_
            · exact pv 0
            exact pa_nil
          · refine pe_callB (id := "len") ?_ ?_ ?_ ?_ ?_
            · exact call_len
            · rfl
            · exact T.n_len
            · exact bt_len
            refine pk ?_ ?_
            · exact pv 1
            exact pa_nil
          exact nomark _
        · refine pss_one ?_
          refine ps_ret ?_
          exact pe_bl
        exact pss_nil
      refine pss_one ?_
      refine ps_ret ?_
      refine pe_cmpR ?_ ?_ ?_ ?_
      · exact op_eqA hr.units
      · refine pe_callB (id := "len") ?_ ?_ ?_ ?_ ?_
        · exact call_len
        · rfl
        · exact T.n_len
        · exact bt_len
        refine pk ?_ ?_
        · refine pe_comp (own := ["_law_k"]) (capt := ["_law_found", "_law_due"]) (ix := [0, 1]) ?_ ?_ ?_ ?_ ?_ ?_
          · rfl
          · refine CompScope.of rfl (by decide +kernel) (by decide +kernel) ?_ ?_ (by decide +kernel)
            · show ∀ y ∈ (_ : List (Str × NameKind)), y.2 = NameKind.free → (defScope s__law_alike).names.lookup y.1 = some NameKind.cell
              decide +kernel
            · exact .cons rfl rfl (.cons rfl rfl (.nil))
          · refine pi_range1 ?_ ?_ ?_
            · rfl
            · exact T.n_range
            refine pk ?_ ?_
            · refine pe_callB (id := "len") ?_ ?_ ?_ ?_ ?_
              · exact call_len
              · rfl
              · exact T.n_len
              · exact bt_len
              refine pk ?_ ?_
              · exact pv 1
              exact pa_nil
            exact pa_nil
          · intro s0 H0 C0 fp0
            exact pg_name (i := 0) (by show (["_law_k", "_law_found", "_law_due"] : List Str).Nodup; decide +kernel) rfl (Or.inl rfl) (.inr rfl)
          · intro s0 H0 C0 fp0
            refine pf_one ?_
            refine pt_not ?_
            refine pt_val ?_
            refine pe_cal (CX := CX0) (k := d) ?_ ?_ ?_ ?_
            · exact C_self
            · exact hr
            · exact pass0
            refine pk ?_ ?_
            · refine pe_ix ?_ ?_ ?_ ?_
              · exact ix_seq
              · exact pv 1
              · exact pv 0
              exact fun _ _ => rfl
            refine pk ?_ ?_
            · refine pe_ix ?_ ?_ ?_ ?_
              · exact ix_seq
              · exact pv 2
              · exact pv 0
              exact fun _ _ => rfl
            exact pa_nil
          intro s0 H0 C0 fp0
          exact pv 0
        exact pa_nil
      · exact pe_int
      exact nomark _
    exact pss_nil
  refine pss_cons ?_ ?_
  · refine ps_if ?_ ?_ ?_
    · refine pt_val ?_
      refine pe_callB (id := "isinstance") ?_ ?_ ?_ ?_ ?_
      · exact call_isiK (K := K) rfl
      · rfl
      · exact T.n_isinstance
      · exact bt_isinstance
      refine pk ?_ ?_
      · exact pv 1
      refine pk ?_ ?_
      · exact pe_bt rfl T.n_bool bt_bool
      exact pa_nil
    · refine pss_one ?_
      refine ps_ret ?_
      refine pe_and ?_ ?_
      · refine pe_callB (id := "isinstance") ?_ ?_ ?_ ?_ ?_
        · exact call_isiK (K := K) rfl
        · rfl
        · exact T.n_isinstance
        · exact bt_isinstance
        refine pk ?_ ?_
        · exact pv 0
        refine pk ?_ ?_
        · exact pe_bt rfl T.n_bool bt_bool
        exact pa_nil
      refine pe_one ?_
      refine pe_cmpR ?_ ?_ ?_ ?_
      · exact op_eqA hr.units
      · exact pv 0
      · exact pv 1
      exact nomark _
    exact pss_nil
  refine pss_one ?_
  refine ps_ret ?_
  refine pe_and ?_ ?_
  · refine pe_cal (CX := CX0) (k := 1) ?_ ?_ ?_ ?_
    · exact C__law_whole
    · exact hr.mono hd1
    · exact pass0
    refine pk ?_ ?_
    · exact pv 0
    exact pa_nil
  refine pe_one ?_
  refine pe_cmpR ?_ ?_ ?_ ?_
  · exact op_eqA hr.units
  · exact pv 0
  · exact pv 1
  exact nomark _
/-! ### _law_changed -/
abbrev s__law_changed : Stmt := top 34
theorem sc__law_changed : FnScope ["_law_roads", "_law_at", "_law_by", "_law_slope", "_law_start", "_law_end", "_law_base", "_law_lane"] ["_law_roads", "_law_at", "_law_by"] (defScope s__law_changed) := ⟨rfl, rfl, rfl, by decide +kernel, rfl, by decide +kernel, by decide +kernel⟩
theorem ok__law_changed (T : Txt K mg c aN) (C__law_lowest : Cal P w K mg base CX0 1 "_law_lowest" (spLLow K)) {f : Addr} {fd : FuncData} (F : Fun K "_law_changed" "_law_changed" s__law_changed f fd) : FnOk P w K mg base CX0 2 f fd ["_law_roads", "_law_at", "_law_by"] (spChanged K) := by
  refine F.ok sc__law_changed (fun vs H Q E h => ?len) (fun cdv A outer s H vs Q E hr h => ?_)
  case len =>
    obtain ⟨_, _, _, _, _, _, _, _, rfl, _⟩ := h
    rfl
  have nd := sc__law_changed.nd
  refine ⟨t__law_changed K, ?_, rd__law_changed  h⟩
  refine pss_cons ?_ ?_
  · refine ps_asg ?_ ?_
    · refine pe_ix ?_ ?_ ?_ ?_
      · exact ix_seq
      · exact pv 0
      · exact pv 1
      exact fun _ _ => rfl
    refine pg_tup ?_ ?_
    · rfl
    refine pgs_cons ?_ ?_
    · exact pg_nm 4
    refine pgs_cons ?_ ?_
    · exact pg_nm 5
    refine pgs_cons ?_ ?_
    · exact pg_nm 6
    refine pgs_cons ?_ ?_
    · exact pg_nm 3
    refine pgs_cons ?_ ?_
    · exact pg_nm 7
    exact pgs_nil
  refine pss_cons ?_ ?_
  · refine ps_st (i := 3) ?_
    refine pe_cal (CX := CX0) (k := 1) ?_ ?_ ?_ ?_
    · exact C__law_lowest
    · exact hr.mono (by decide)
    · exact pass0
    refine pk ?_ ?_
    · refine pe_op ?_ ?_ ?_
      · exact op_mulX
      · refine pe_ix ?_ ?_ ?_ ?_
        · exact ix_seq
        · exact pv 3
        · exact pe_int
        exact fun _ _ => rfl
      refine pe_ix ?_ ?_ ?_ ?_
      · exact ix_seq
      · exact pv 2
      · exact pe_int
      exact fun _ _ => rfl
    refine pk ?_ ?_
    · refine pe_op ?_ ?_ ?_
      · exact op_mulX
      · refine pe_ix ?_ ?_ ?_ ?_
        · exact ix_seq
        · exact pv 3
        · exact pe_int
        exact fun _ _ => rfl
      refine pe_ix ?_ ?_ ?_ ?_
      · exact ix_seq
      · exact pv 2
      · exact pe_int
      exact fun _ _ => rfl
    exact pa_nil
  refine pss_one ?_
  refine ps_ret ?_
  refine pe_op ?_ ?_ ?_
  · exact op_addA
  · refine pe_op ?_ ?_ ?_
    · exact op_addA
    · refine pe_slice ?_ ?_ ?_ ?_
      · exact sl_list
      · exact pv 0
      · exact po_none
      · refine po_some ?_
        exact pv 1
    refine pe_lst ?_
    refine pk ?_ ?_
    · refine pe_tup ?_
      refine pk ?_ ?_
      · exact pv 4
      refine pk ?_ ?_
      · exact pv 5
      refine pk ?_ ?_
      · exact pv 6
      refine pk ?_ ?_
      · exact pv 3
      refine pk ?_ ?_
      · exact pv 7
      exact pa_nil
    exact pa_nil
  refine pe_slice ?_ ?_ ?_ ?_
  · exact sl_list
  · exact pv 0
  · refine po_some ?_
    refine pe_op ?_ ?_ ?_
    · exact op_addA
    · exact pv 1
    exact pe_int
  · exact po_none
/-! ### _law_worked -/
abbrev s__law_worked : Stmt := top 35
theorem sc__law_worked : FnScope ["_law_net", "_law_road_here", "_law_at", "_law_by", "_law_roads", "_law_due", "_law_told"] ["_law_net", "_law_road_here", "_law_at", "_law_by"] (defScope s__law_worked) := ⟨rfl, rfl, rfl, by decide +kernel, rfl, by decide +kernel, by decide +kernel⟩
theorem ok__law_worked (T : Txt K mg c aN) (C_opened_net : Cal P w K mg base CX0 5 "opened_net" (spOpened K)) (C_closed_net : Cal P w K mg base CX0 4 "closed_net" (spClosed K)) (C_widened_net : Cal P w K mg base CX0 5 "widened_net" (spWidened K)) (C__law_changed : Cal P w K mg base CX0 2 "_law_changed" (spChanged K)) {f : Addr} {fd : FuncData} (F : Fun K "_law_worked" "_law_worked" s__law_worked f fd) : FnOk P w K mg base CX0 6 f fd ["_law_net", "_law_road_here", "_law_at", "_law_by"] (spWorked K) := by
  refine F.ok sc__law_worked (fun vs H Q E h => ?len) (fun cdv A outer s H vs Q E hr h => ?_)
  case len =>
    obtain ⟨_, _, _, _, _, _, _, _, _, _, _, rfl, _⟩ := h
    rfl
  have nd := sc__law_worked.nd
  refine ⟨t__law_worked K, ?_, rd__law_worked  h⟩
  refine pss_cons ?_ ?_
  · refine ps_st (i := 4) ?_
    refine pe_callTy (T := "list") ?_ ?_ ?_ ?_ ?_
    · exact call_list_of
    · rfl
    · exact T.n_list
    · exact bt_list
    refine pk ?_ ?_
    · refine pe_ix ?_ ?_ ?_ ?_
      · exact ix_seq
      · exact pv 0
      · exact pe_int
      exact fun _ _ => rfl
    exact pa_nil
  refine pss_cons ?_ ?_
  · refine ps_st (i := 5) ?_
    refine pe_lst ?_
    exact pa_nil
  refine pss_cons ?_ ?_
  · refine ps_st (i := 6) ?_
    refine pe_lst ?_
    exact pa_nil
  refine pss_cons ?_ ?_
  · refine ps_if ?_ ?_ ?_
    · refine pt_cmpR ?_ ?_ ?_ ?_
      · exact op_lt
      · refine pe_callB (id := "len") ?_ ?_ ?_ ?_ ?_
        · exact call_len
        · rfl
        · exact T.n_len
        · exact bt_len
        refine pk ?_ ?_
        · exact pv 4
        exact pa_nil
      · exact pe_int
      exact nomark _
    · refine pss_cons ?_ ?_
      · refine ps_expr ?_
        refine pe_bm PySem.F.plainAttrs_list PySem.F.slot_list_append PySem.F.type_list_append mt_append ?_ ?_
        · exact pv 6
        refine pk ?_ ?_
        · refine pe_cal (CX := CX0) (k := 5) ?_ ?_ ?_ ?_
          · exact C_opened_net
          · exact hr.mono (by decide)
          · exact pass0
          refine pk ?_ ?_
          · exact pv 0
          refine pk ?_ ?_
          · exact pv 1
          exact pa_nil
        exact pa_nil
      refine pss_one ?_
      refine ps_expr ?_
      refine pe_bm PySem.F.plainAttrs_list PySem.F.slot_list_append PySem.F.type_list_append mt_append ?_ ?_
      · exact pv 5
      refine pk ?_ ?_
      · refine pe_tup ?_
        refine pk ?_ ?_
        · refine pe_ix ?_ ?_ ?_ ?_
          · exact ix_seq
          · exact pv 0
          · exact pe_int
          exact fun _ _ => rfl
        refine pk ?_ ?_
        · refine pe_op ?_ ?_ ?_
          · exact op_addA
          · exact pv 4
          refine pe_lst ?_
          refine pk ?_ ?_
          · exact pv 1
          exact pa_nil
        exact pa_nil
      exact pa_nil
    exact pss_nil
  refine pss_cons ?_ ?_
  · refine ps_if ?_ ?_ ?_
    · refine pt_cmpR ?_ ?_ ?_ ?_
      · exact op_gt
      · refine pe_callB (id := "len") ?_ ?_ ?_ ?_ ?_
        · exact call_len
        · rfl
        · exact T.n_len
        · exact bt_len
        refine pk ?_ ?_
        · exact pv 4
        exact pa_nil
      · exact pe_int
      exact nomark _
    · refine pss_cons ?_ ?_
      · refine ps_expr ?_
        refine pe_bm PySem.F.plainAttrs_list PySem.F.slot_list_append PySem.F.type_list_append mt_append ?_ ?_
        · exact pv 6
        refine pk ?_ ?_
        · refine pe_cal (CX := CX0) (k := 4) ?_ ?_ ?_ ?_
          · exact C_closed_net
          · exact hr.mono (by decide)
          · exact pass0
          refine pk ?_ ?_
          · exact pv 0
          refine pk ?_ ?_
          · exact pv 2
          exact pa_nil
        exact pa_nil
      refine pss_cons ?_ ?_
      · refine ps_expr ?_
        refine pe_bm PySem.F.plainAttrs_list PySem.F.slot_list_append PySem.F.type_list_append mt_append ?_ ?_
        · exact pv 5
        refine pk ?_ ?_
        · refine pe_tup ?_
          refine pk ?_ ?_
          · refine pe_ix ?_ ?_ ?_ ?_
            · exact ix_seq
            · exact pv 0
            · exact pe_int
            exact fun _ _ => rfl
          refine pk ?_ ?_
          · refine pe_op ?_ ?_ ?_
            · exact op_addA
            · refine pe_slice ?_ ?_ ?_ ?_
              · exact sl_list
              · exact pv 4
              · exact po_none
              · refine po_some ?_
                exact pv 2
            refine pe_slice ?_ ?_ ?_ ?_
            · exact sl_list
            · exact pv 4
            · refine po_some ?_
              refine pe_op ?_ ?_ ?_
              · exact op_addA
              · exact pv 2
              exact pe_int
            · exact po_none
          exact pa_nil
        exact pa_nil
      refine pss_cons ?_ ?_
      · refine ps_expr ?_
        refine pe_bm PySem.F.plainAttrs_list PySem.F.slot_list_append PySem.F.type_list_append mt_append ?_ ?_
        · exact pv 6
        refine pk ?_ ?_
        · refine pe_cal (CX := CX0) (k := 5) ?_ ?_ ?_ ?_
          · exact C_widened_net
          · exact hr.mono (by decide)
          · exact pass0
          refine pk ?_ ?_
          · exact pv 0
          refine pk ?_ ?_
          · exact pv 2
          refine pk ?_ ?_
          · exact pv 3
          exact pa_nil
        exact pa_nil
      refine pss_one ?_
      refine ps_expr ?_
      refine pe_bm PySem.F.plainAttrs_list PySem.F.slot_list_append PySem.F.type_list_append mt_append ?_ ?_
      · exact pv 5
      refine pk ?_ ?_
      · refine pe_tup ?_
        refine pk ?_ ?_
        · refine pe_ix ?_ ?_ ?_ ?_
          · exact ix_seq
          · exact pv 0
          · exact pe_int
          exact fun _ _ => rfl
        refine pk ?_ ?_
        · refine pe_cal (CX := CX0) (k := 2) ?_ ?_ ?_ ?_
          · exact C__law_changed
          · exact hr.mono (by decide)
          · exact pass0
          refine pk ?_ ?_
          · exact pv 4
          refine pk ?_ ?_
          · exact pv 2
          refine pk ?_ ?_
          · exact pv 3
          exact pa_nil
        exact pa_nil
      exact pa_nil
    exact pss_nil
  refine pss_one ?_
  refine ps_ret ?_
  refine pe_lst ?_
  refine pk ?_ ?_
  · exact pv 6
  refine pk ?_ ?_
  · exact pv 5
  exact pa_nil
/-! ### law -/
abbrev s_law : Stmt := top 36
theorem sc_law : FnScope ["_law_script", "_law_many", "_law_roads", "_law_road_here", "_law_at", "_law_number", "_law_top", "_law_by", "_law_net", "_law_one", "_law_wider", "_law_told", "_law_due"] ["_law_script"] (defScope s_law) := ⟨rfl, rfl, rfl, by decide +kernel, rfl, by decide +kernel, by decide +kernel⟩
theorem ok_law (T : Txt K mg c aN) (C__law_road : Cal P w K mg base CX0 4 "_law_road" (spRoad K)) (C__law_mixed : Cal P w K mg base CX0 2 "_law_mixed" (spMixed K)) (C__law_lowest : Cal P w K mg base CX0 1 "_law_lowest" (spLLow K)) (C__law_worked : Cal P w K mg base CX0 6 "_law_worked" (spWorked K)) (C_widened_net : Cal P w K mg base CX0 5 "widened_net" (spWidened K)) (C__law_alike : Cal P w K mg base CX0 8 "_law_alike" (spAlike K 8)) (C__law_cell : Cal P w K mg base CX0 1 "_law_cell" (spCell K)) (C_closed_net : Cal P w K mg base CX0 4 "closed_net" (spClosed K)) (C_opened_net : Cal P w K mg base CX0 5 "opened_net" (spOpened K)) {f : Addr} {fd : FuncData} (F : Fun K "law" "law" s_law f fd) : FnOk P w K mg base CX0 9 f fd ["_law_script"] (spLaw K) := by
  refine F.ok sc_law (fun vs H Q E h => ?len) (fun cdv A outer s H vs Q E hr h => ?_)
  case len =>
    obtain ⟨_, _, rfl, _⟩ := h
    rfl
  have nd := sc_law.nd
  refine ⟨t_law K, ?_, rd_law  h⟩
  refine pss_cons ?_ ?_
  · refine ps_st (i := 1) ?_
    refine pe_op ?_ ?_ ?_
    · exact op_addA
    · exact pe_int
    refine pe_op ?_ ?_ ?_
    · exact op_mod
    · refine pe_cal (CX := CX0) (k := 1) ?_ ?_ ?_ ?_
      · exact C__law_cell
      · exact hr.mono (by decide)
      · exact pass0
      refine pk ?_ ?_
      · exact pv 0
      refine pk ?_ ?_
      · exact pe_int
      exact pa_nil
    exact pe_int
  refine pss_cons ?_ ?_
  · refine ps_comp (i := 2) (own := ["_law_k"]) (capt := ["_law_script", "_law_many"]) (ix := [0, 1]) ?_ ?_ ?_ ?_ ?_ ?_
    · rfl
    · refine CompScope.of rfl (by decide +kernel) (by decide +kernel) ?_ ?_ (by decide +kernel)
      · show ∀ y ∈ (_ : List (Str × NameKind)), y.2 = NameKind.free → (defScope s_law).names.lookup y.1 = some NameKind.cell
        decide +kernel
      · exact .cons rfl rfl (.cons rfl rfl (.nil))
    · refine pi_range1 ?_ ?_ ?_
      · rfl
      · exact T.n_range
      refine pk ?_ ?_
      · refine pe_op ?_ ?_ ?_
        · exact op_mod
        · refine pe_cal (CX := CX0) (k := 2) ?_ ?_ ?_ ?_
          · exact C__law_mixed
          · exact hr.mono (by decide)
          · exact pass0
          refine pk ?_ ?_
          · exact pv 0
          refine pk ?_ ?_
          · exact pe_int
          exact pa_nil
        exact pe_int
      exact pa_nil
    · intro s0 H0 C0 fp0
      exact pg_name (i := 0) (by show (["_law_k", "_law_script", "_law_many"] : List Str).Nodup; decide +kernel) rfl (Or.inl rfl) (.inr rfl)
    · intro s0 H0 C0 fp0
      exact pf_nil
    intro s0 H0 C0 fp0
    refine pe_cal (CX := CX0) (k := 4) ?_ ?_ ?_ ?_
    · exact C__law_road
    · exact hr.mono (by decide)
    · exact pass0
    refine pk ?_ ?_
    · exact pv 1
    refine pk ?_ ?_
    · exact pv 0
    refine pk ?_ ?_
    · exact pv 2
    exact pa_nil
  refine pss_cons ?_ ?_
  · refine ps_st (i := 3) ?_
    refine pe_cal (CX := CX0) (k := 4) ?_ ?_ ?_ ?_
    · exact C__law_road
    · exact hr.mono (by decide)
    · exact pass0
    refine pk ?_ ?_
    · exact pv 0
    refine pk ?_ ?_
    · exact pe_int
    refine pk ?_ ?_
    · exact pv 1
    exact pa_nil
  refine pss_cons ?_ ?_
  · refine ps_st (i := 4) ?_
    refine pe_op ?_ ?_ ?_
    · exact op_mod
    · refine pe_op ?_ ?_ ?_
      · exact op_fdivB
      · refine pe_cal (CX := CX0) (k := 2) ?_ ?_ ?_ ?_
        · exact C__law_mixed
        · exact hr.mono (by decide)
        · exact pass0
        refine pk ?_ ?_
        · exact pv 0
        refine pk ?_ ?_
        · exact pe_int
        exact pa_nil
      exact pe_int
    refine pe_callB (id := "max") ?_ ?_ ?_ ?_ ?_
    · exact call_max2 rfl
    · rfl
    · exact T.n_max
    · exact bt_max
    refine pk ?_ ?_
    · exact pe_int
    refine pk ?_ ?_
    · refine pe_callB (id := "len") ?_ ?_ ?_ ?_ ?_
      · exact call_len
      · rfl
      · exact T.n_len
      · exact bt_len
      refine pk ?_ ?_
      · exact pv 2
      exact pa_nil
    exact pa_nil
  refine pss_cons ?_ ?_
  · refine ps_st (i := 5) ?_
    refine pe_cal (CX := CX0) (k := 2) ?_ ?_ ?_ ?_
    · exact C__law_mixed
    · exact hr.mono (by decide)
    · exact pass0
    refine pk ?_ ?_
    · exact pv 0
    refine pk ?_ ?_
    · exact pe_int
    exact pa_nil
  refine pss_cons ?_ ?_
  · refine ps_st (i := 6) ?_
    refine pe_op ?_ ?_ ?_
    · exact op_addA
    · exact pe_int
    refine pe_op ?_ ?_ ?_
    · exact op_mod
    · refine pe_op ?_ ?_ ?_
      · exact op_mulX
      · exact pv 5
      exact pe_int
    refine pe_ix ?_ ?_ ?_ ?_
    · exact ix_seq
    · refine pe_lst ?_
      refine pk ?_ ?_
      · exact pe_int
      refine pk ?_ ?_
      · refine pe_op ?_ ?_ ?_
        · exact op_pow
        · exact pe_int
        exact pe_int
      exact pa_nil
    · refine pe_op ?_ ?_ ?_
      · exact op_mod
      · exact pv 5
      exact pe_int
    exact fun _ _ => rfl
  refine pss_cons ?_ ?_
  · refine ps_st (i := 7) ?_
    refine pe_cal (CX := CX0) (k := 1) ?_ ?_ ?_ ?_
    · exact C__law_lowest
    · exact hr.mono (by decide)
    · exact pass0
    refine pk ?_ ?_
    · exact pv 6
    refine pk ?_ ?_
    · refine pe_op ?_ ?_ ?_
      · exact op_addA
      · exact pe_int
      refine pe_op ?_ ?_ ?_
      · exact op_mod
      · refine pe_op ?_ ?_ ?_
        · exact op_fdivB
        · exact pv 5
        exact pe_int
      refine pe_ix ?_ ?_ ?_ ?_
      · exact ix_seq
      · refine pe_lst ?_
        refine pk ?_ ?_
        · exact pe_int
        refine pk ?_ ?_
        · refine pe_op ?_ ?_ ?_
          · exact op_pow
          · exact pe_int
          exact pe_int
        exact pa_nil
      · refine pe_op ?_ ?_ ?_
        · exact op_mod
        · refine pe_op ?_ ?_ ?_
          · exact op_fdivB
          · exact pv 5
          exact pe_int
        exact pe_int
      exact fun _ _ => rfl
    exact pa_nil
  refine pss_cons ?_ ?_
  · refine ps_st (i := 8) ?_
    refine pe_tup ?_
    refine pk ?_ ?_
    · exact pv 1
    refine pk ?_ ?_
    · refine pe_callTy (T := "list") ?_ ?_ ?_ ?_ ?_
      · exact call_list_of
      · rfl
      · exact T.n_list
      · exact bt_list
      refine pk ?_ ?_
      · exact pv 2
      exact pa_nil
    exact pa_nil
  refine pss_cons ?_ ?_
  · refine ps_asg ?_ ?_
    · refine pe_cal (CX := CX0) (k := 6) ?_ ?_ ?_ ?_
      · exact C__law_worked
      · exact hr.mono (by decide)
      · exact pass0
      refine pk ?_ ?_
      · exact pv 8
      refine pk ?_ ?_
      · exact pv 3
      refine pk ?_ ?_
      · exact pv 4
      refine pk ?_ ?_
      · exact pv 7
      exact pa_nil
    refine pg_lst ?_ ?_
    · rfl
    refine pgs_cons ?_ ?_
    · exact pg_nm 11
    refine pgs_cons ?_ ?_
    · exact pg_nm 12
    exact pgs_nil
  refine pss_cons ?_ ?_
  · refine ps_if ?_ ?_ ?_
    · refine PW.pt ?_
      refine pw_or ?_ ?_
      · refine pt_not ?_
        refine pt_val ?_
        refine pe_cal (CX := CX0) (k := 8) ?_ ?_ ?_ ?_
        · exact C__law_alike
        · exact hr.mono (by decide)
        · exact pass0
        refine pk ?_ ?_
        · exact pv 11
        refine pk ?_ ?_
        · exact pv 12
        exact pa_nil
      refine pw_or1 ?_
      refine pt_cmpR ?_ ?_ ?_ ?_
      · exact op_neA hr.units
      · exact pv 8
      · refine pe_tup ?_
        refine pk ?_ ?_
        · exact pv 1
        refine pk ?_ ?_
        · exact pv 2
        exact pa_nil
      exact nomark _
    · refine pss_one ?_
      refine ps_ret ?_
      exact pe_bl
    exact pss_nil
  refine pss_cons ?_ ?_
  · refine ps_for ?_ ?_ ?_ ?_ ?_
    · exact PassesOwn.never
    · rfl
    · refine pi_list ?_
      exact pv 11
    · exact pg_nm 9
    refine pss_one ?_
    refine ps_expr ?_
    refine pe_bm PySem.F.plainAttrs_list PySem.F.slot_list_append PySem.F.type_list_append mt_append ?_ ?_
    · refine pe_ix ?_ ?_ ?_ ?_
      · exact ix_seq
      · exact pv 9
      · exact pe_int
      exact fun _ _ => rfl
    refine pk ?_ ?_
    · exact pv 3
    exact pa_nil
  refine pss_cons ?_ ?_
  · refine ps_if ?_ ?_ ?_
    · refine PW.pt ?_
      refine pw_or ?_ ?_
      · refine pt_not ?_
        refine pt_val ?_
        refine pe_cal (CX := CX0) (k := 8) ?_ ?_ ?_ ?_
        · exact C__law_alike
        · exact hr.mono (by decide)
        · exact pass0
        refine pk ?_ ?_
        · refine pe_ix ?_ ?_ ?_ ?_
          · exact ix_seq
          · refine pe_cal (CX := CX0) (k := 6) ?_ ?_ ?_ ?_
            · exact C__law_worked
            · exact hr.mono (by decide)
            · exact pass0
            refine pk ?_ ?_
            · exact pv 8
            refine pk ?_ ?_
            · exact pv 3
            refine pk ?_ ?_
            · exact pv 4
            refine pk ?_ ?_
            · exact pv 7
            exact pa_nil
          · exact pe_int
          exact fun _ _ => rfl
        refine pk ?_ ?_
        · exact pv 12
        exact pa_nil
      refine pw_or1 ?_
      refine pt_cmpR ?_ ?_ ?_ ?_
      · exact op_neA hr.units
      · exact pv 8
      · refine pe_tup ?_
        refine pk ?_ ?_
        · exact pv 1
        refine pk ?_ ?_
        · exact pv 2
        exact pa_nil
      exact nomark _
    · refine pss_one ?_
      refine ps_ret ?_
      exact pe_bl
    exact pss_nil
  refine pss_cons ?_ ?_
  · refine ps_if ?_ ?_ ?_
    · refine PW.pt ?_
      refine pw_and ?_ ?_
      · refine pt_cmpR ?_ ?_ ?_ ?_
        · exact op_lt
        · refine pe_callB (id := "len") ?_ ?_ ?_ ?_ ?_
          · exact call_len
          · rfl
          · exact T.n_len
          · exact bt_len
          refine pk ?_ ?_
          · exact pv 2
          exact pa_nil
        · exact pe_int
        exact nomark _
      refine pw_and1 ?_
      refine pt_not ?_
      refine pt_val ?_
      refine pe_cal (CX := CX0) (k := 8) ?_ ?_ ?_ ?_
      · exact C__law_alike
      · exact hr.mono (by decide)
      · exact pass0
      refine pk ?_ ?_
      · refine pe_cal (CX := CX0) (k := 4) ?_ ?_ ?_ ?_
        · exact C_closed_net
        · exact hr.mono (by decide)
        · exact pass0
        refine pk ?_ ?_
        · refine pe_cal (CX := CX0) (k := 5) ?_ ?_ ?_ ?_
          · exact C_opened_net
          · exact hr.mono (by decide)
          · exact pass0
          refine pk ?_ ?_
          · exact pv 8
          refine pk ?_ ?_
          · exact pv 3
          exact pa_nil
        refine pk ?_ ?_
        · refine pe_callB (id := "len") ?_ ?_ ?_ ?_ ?_
          · exact call_len
          · rfl
          · exact T.n_len
          · exact bt_len
          refine pk ?_ ?_
          · exact pv 2
          exact pa_nil
        exact pa_nil
      refine pk ?_ ?_
      · exact pv 8
      exact pa_nil
    · refine pss_one ?_
      refine ps_ret ?_
      exact pe_bl
    exact pss_nil
  refine pss_cons ?_ ?_
  · refine ps_if ?_ ?_ ?_
    · refine pt_cmpR ?_ ?_ ?_ ?_
      · exact op_eqA hr.units
      · exact pv 2
      · refine pe_lst ?_
        exact pa_nil
      exact nomark _
    · refine pss_one ?_
      refine ps_ret ?_
      exact pe_bl
    exact pss_nil
  refine pss_cons ?_ ?_
  · refine ps_st (i := 10) ?_
    refine pe_cal (CX := CX0) (k := 5) ?_ ?_ ?_ ?_
    · exact C_widened_net
    · exact hr.mono (by decide)
    · exact pass0
    refine pk ?_ ?_
    · exact pv 8
    refine pk ?_ ?_
    · exact pv 4
    refine pk ?_ ?_
    · exact pv 7
    exact pa_nil
  refine pss_one ?_
  refine ps_ret ?_
  refine pe_cal (CX := CX0) (k := 8) ?_ ?_ ?_ ?_
  · exact C__law_alike
  · exact hr.mono (by decide)
  · exact pass0
  refine pk ?_ ?_
  · refine pe_cal (CX := CX0) (k := 5) ?_ ?_ ?_ ?_
    · exact C_widened_net
    · exact hr.mono (by decide)
    · exact pass0
    refine pk ?_ ?_
    · exact pv 10
    refine pk ?_ ?_
    · exact pv 4
    refine pk ?_ ?_
    · refine pe_tup ?_
      refine pk ?_ ?_
      · refine pe_ix ?_ ?_ ?_ ?_
        · exact ix_seq
        · exact pv 7
        · exact pe_int
        exact fun _ _ => rfl
      refine pk ?_ ?_
      · refine pe_ix ?_ ?_ ?_ ?_
        · exact ix_seq
        · exact pv 7
        · exact pe_int
        exact fun _ _ => rfl
      exact pa_nil
    exact pa_nil
  refine pk ?_ ?_
  · exact pv 8
  exact pa_nil
end W5

end

section
set_option maxHeartbeats 4000000
namespace W5
open PySem L2 Fr
theorem all_mk {l : PySem.W.OpenLaw} {w : World} {K : PySem.W.Frag} {h : Heap} {mg : Str → Option Value} {fa a_is_whole a_common_divisor a_lowest a_is_fraction a_is_from_nought a_is_above_nought a_part_of a_is_number_of a_are_unlike_places a_road_fault a_opened_net a_check_road a_closed_net a_widened_road a_widened_net a__law_whole a__law_cell a__law_mixed a__law_lowest a__law_fraction a__law_road a__law_alike a__law_changed a__law_worked a_law c_RoadError c_NoNumber c_NoNet c_NoSuch aN : Addr} (X : K.In h) (G : h.Ns mainGlobals mg) (hfa : mg "law" = some (.ref fa))
    {od0 an0 : Option Addr} {sl0 : Array (Option Value)} {oc0 kV0 dc0 pm0 cd0 ct0 : Value}
    (a0 : PySem.W.nsIn K mainGlobals "is_whole" = some (some (.ref a_is_whole))) (l0 : K.lookup a_is_whole = some ⟨oc0, od0, .func (PySem.W.fnOf "is_whole" "is_whole" (defArgs s_is_whole) (defBody s_is_whole) (defScope s_is_whole) .none kV0 dc0 pm0 an0 cd0 ct0), sl0⟩) (c0 : PySem.W.codeIn K cd0 "is_whole" = true) (k0 : PySem.W.keepIn K (.ref a_is_whole) = true)
    {od1 an1 : Option Addr} {sl1 : Array (Option Value)} {oc1 kV1 dc1 pm1 cd1 ct1 : Value}
    (a1 : PySem.W.nsIn K mainGlobals "common_divisor" = some (some (.ref a_common_divisor))) (l1 : K.lookup a_common_divisor = some ⟨oc1, od1, .func (PySem.W.fnOf "common_divisor" "common_divisor" (defArgs s_common_divisor) (defBody s_common_divisor) (defScope s_common_divisor) .none kV1 dc1 pm1 an1 cd1 ct1), sl1⟩) (c1 : PySem.W.codeIn K cd1 "common_divisor" = true) (k1 : PySem.W.keepIn K (.ref a_common_divisor) = true)
    {od2 an2 : Option Addr} {sl2 : Array (Option Value)} {oc2 kV2 dc2 pm2 cd2 ct2 : Value}
    (a2 : PySem.W.nsIn K mainGlobals "lowest" = some (some (.ref a_lowest))) (l2 : K.lookup a_lowest = some ⟨oc2, od2, .func (PySem.W.fnOf "lowest" "lowest" (defArgs s_lowest) (defBody s_lowest) (defScope s_lowest) .none kV2 dc2 pm2 an2 cd2 ct2), sl2⟩) (c2 : PySem.W.codeIn K cd2 "lowest" = true) (k2 : PySem.W.keepIn K (.ref a_lowest) = true)
    {od3 an3 : Option Addr} {sl3 : Array (Option Value)} {oc3 kV3 dc3 pm3 cd3 ct3 : Value}
    (a3 : PySem.W.nsIn K mainGlobals "is_fraction" = some (some (.ref a_is_fraction))) (l3 : K.lookup a_is_fraction = some ⟨oc3, od3, .func (PySem.W.fnOf "is_fraction" "is_fraction" (defArgs s_is_fraction) (defBody s_is_fraction) (defScope s_is_fraction) .none kV3 dc3 pm3 an3 cd3 ct3), sl3⟩) (c3 : PySem.W.codeIn K cd3 "is_fraction" = true) (k3 : PySem.W.keepIn K (.ref a_is_fraction) = true)
    {od4 an4 : Option Addr} {sl4 : Array (Option Value)} {oc4 kV4 dc4 pm4 cd4 ct4 : Value}
    (a4 : PySem.W.nsIn K mainGlobals "is_from_nought" = some (some (.ref a_is_from_nought))) (l4 : K.lookup a_is_from_nought = some ⟨oc4, od4, .func (PySem.W.fnOf "is_from_nought" "is_from_nought" (defArgs s_is_from_nought) (defBody s_is_from_nought) (defScope s_is_from_nought) .none kV4 dc4 pm4 an4 cd4 ct4), sl4⟩) (c4 : PySem.W.codeIn K cd4 "is_from_nought" = true) (k4 : PySem.W.keepIn K (.ref a_is_from_nought) = true)
    {od5 an5 : Option Addr} {sl5 : Array (Option Value)} {oc5 kV5 dc5 pm5 cd5 ct5 : Value}
    (a5 : PySem.W.nsIn K mainGlobals "is_above_nought" = some (some (.ref a_is_above_nought))) (l5 : K.lookup a_is_above_nought = some ⟨oc5, od5, .func (PySem.W.fnOf "is_above_nought" "is_above_nought" (defArgs s_is_above_nought) (defBody s_is_above_nought) (defScope s_is_above_nought) .none kV5 dc5 pm5 an5 cd5 ct5), sl5⟩) (c5 : PySem.W.codeIn K cd5 "is_above_nought" = true) (k5 : PySem.W.keepIn K (.ref a_is_above_nought) = true)
    {od6 an6 : Option Addr} {sl6 : Array (Option Value)} {oc6 kV6 dc6 pm6 cd6 ct6 : Value}
    (a6 : PySem.W.nsIn K mainGlobals "part_of" = some (some (.ref a_part_of))) (l6 : K.lookup a_part_of = some ⟨oc6, od6, .func (PySem.W.fnOf "part_of" "part_of" (defArgs s_part_of) (defBody s_part_of) (defScope s_part_of) .none kV6 dc6 pm6 an6 cd6 ct6), sl6⟩) (c6 : PySem.W.codeIn K cd6 "part_of" = true) (k6 : PySem.W.keepIn K (.ref a_part_of) = true)
    {od7 an7 : Option Addr} {sl7 : Array (Option Value)} {oc7 kV7 dc7 pm7 cd7 ct7 : Value}
    (a7 : PySem.W.nsIn K mainGlobals "is_number_of" = some (some (.ref a_is_number_of))) (l7 : K.lookup a_is_number_of = some ⟨oc7, od7, .func (PySem.W.fnOf "is_number_of" "is_number_of" (defArgs s_is_number_of) (defBody s_is_number_of) (defScope s_is_number_of) .none kV7 dc7 pm7 an7 cd7 ct7), sl7⟩) (c7 : PySem.W.codeIn K cd7 "is_number_of" = true) (k7 : PySem.W.keepIn K (.ref a_is_number_of) = true)
    {od8 an8 : Option Addr} {sl8 : Array (Option Value)} {oc8 kV8 dc8 pm8 cd8 ct8 : Value}
    (a8 : PySem.W.nsIn K mainGlobals "are_unlike_places" = some (some (.ref a_are_unlike_places))) (l8 : K.lookup a_are_unlike_places = some ⟨oc8, od8, .func (PySem.W.fnOf "are_unlike_places" "are_unlike_places" (defArgs s_are_unlike_places) (defBody s_are_unlike_places) (defScope s_are_unlike_places) .none kV8 dc8 pm8 an8 cd8 ct8), sl8⟩) (c8 : PySem.W.codeIn K cd8 "are_unlike_places" = true) (k8 : PySem.W.keepIn K (.ref a_are_unlike_places) = true)
    {od9 an9 : Option Addr} {sl9 : Array (Option Value)} {oc9 kV9 dc9 pm9 cd9 ct9 : Value}
    (a9 : PySem.W.nsIn K mainGlobals "road_fault" = some (some (.ref a_road_fault))) (l9 : K.lookup a_road_fault = some ⟨oc9, od9, .func (PySem.W.fnOf "road_fault" "road_fault" (defArgs s_road_fault) (defBody s_road_fault) (defScope s_road_fault) .none kV9 dc9 pm9 an9 cd9 ct9), sl9⟩) (c9 : PySem.W.codeIn K cd9 "road_fault" = true) (k9 : PySem.W.keepIn K (.ref a_road_fault) = true)
    {od10 an10 : Option Addr} {sl10 : Array (Option Value)} {oc10 kV10 dc10 pm10 cd10 ct10 : Value}
    (a10 : PySem.W.nsIn K mainGlobals "opened_net" = some (some (.ref a_opened_net))) (l10 : K.lookup a_opened_net = some ⟨oc10, od10, .func (PySem.W.fnOf "opened_net" "opened_net" (defArgs s_opened_net) (defBody s_opened_net) (defScope s_opened_net) .none kV10 dc10 pm10 an10 cd10 ct10), sl10⟩) (c10 : PySem.W.codeIn K cd10 "opened_net" = true) (k10 : PySem.W.keepIn K (.ref a_opened_net) = true)
    {od11 an11 : Option Addr} {sl11 : Array (Option Value)} {oc11 kV11 dc11 pm11 cd11 ct11 : Value}
    (a11 : PySem.W.nsIn K mainGlobals "check_road" = some (some (.ref a_check_road))) (l11 : K.lookup a_check_road = some ⟨oc11, od11, .func (PySem.W.fnOf "check_road" "check_road" (defArgs s_check_road) (defBody s_check_road) (defScope s_check_road) .none kV11 dc11 pm11 an11 cd11 ct11), sl11⟩) (c11 : PySem.W.codeIn K cd11 "check_road" = true) (k11 : PySem.W.keepIn K (.ref a_check_road) = true)
    {od12 an12 : Option Addr} {sl12 : Array (Option Value)} {oc12 kV12 dc12 pm12 cd12 ct12 : Value}
    (a12 : PySem.W.nsIn K mainGlobals "closed_net" = some (some (.ref a_closed_net))) (l12 : K.lookup a_closed_net = some ⟨oc12, od12, .func (PySem.W.fnOf "closed_net" "closed_net" (defArgs s_closed_net) (defBody s_closed_net) (defScope s_closed_net) .none kV12 dc12 pm12 an12 cd12 ct12), sl12⟩) (c12 : PySem.W.codeIn K cd12 "closed_net" = true) (k12 : PySem.W.keepIn K (.ref a_closed_net) = true)
    {od13 an13 : Option Addr} {sl13 : Array (Option Value)} {oc13 kV13 dc13 pm13 cd13 ct13 : Value}
    (a13 : PySem.W.nsIn K mainGlobals "widened_road" = some (some (.ref a_widened_road))) (l13 : K.lookup a_widened_road = some ⟨oc13, od13, .func (PySem.W.fnOf "widened_road" "widened_road" (defArgs s_widened_road) (defBody s_widened_road) (defScope s_widened_road) .none kV13 dc13 pm13 an13 cd13 ct13), sl13⟩) (c13 : PySem.W.codeIn K cd13 "widened_road" = true) (k13 : PySem.W.keepIn K (.ref a_widened_road) = true)
    {od14 an14 : Option Addr} {sl14 : Array (Option Value)} {oc14 kV14 dc14 pm14 cd14 ct14 : Value}
    (a14 : PySem.W.nsIn K mainGlobals "widened_net" = some (some (.ref a_widened_net))) (l14 : K.lookup a_widened_net = some ⟨oc14, od14, .func (PySem.W.fnOf "widened_net" "widened_net" (defArgs s_widened_net) (defBody s_widened_net) (defScope s_widened_net) .none kV14 dc14 pm14 an14 cd14 ct14), sl14⟩) (c14 : PySem.W.codeIn K cd14 "widened_net" = true) (k14 : PySem.W.keepIn K (.ref a_widened_net) = true)
    {od15 an15 : Option Addr} {sl15 : Array (Option Value)} {oc15 kV15 dc15 pm15 cd15 ct15 : Value}
    (a15 : PySem.W.nsIn K mainGlobals "_law_whole" = some (some (.ref a__law_whole))) (l15 : K.lookup a__law_whole = some ⟨oc15, od15, .func (PySem.W.fnOf "_law_whole" "_law_whole" (defArgs s__law_whole) (defBody s__law_whole) (defScope s__law_whole) .none kV15 dc15 pm15 an15 cd15 ct15), sl15⟩) (c15 : PySem.W.codeIn K cd15 "_law_whole" = true) (k15 : PySem.W.keepIn K (.ref a__law_whole) = true)
    {od16 an16 : Option Addr} {sl16 : Array (Option Value)} {oc16 kV16 dc16 pm16 cd16 ct16 : Value}
    (a16 : PySem.W.nsIn K mainGlobals "_law_cell" = some (some (.ref a__law_cell))) (l16 : K.lookup a__law_cell = some ⟨oc16, od16, .func (PySem.W.fnOf "_law_cell" "_law_cell" (defArgs s__law_cell) (defBody s__law_cell) (defScope s__law_cell) .none kV16 dc16 pm16 an16 cd16 ct16), sl16⟩) (c16 : PySem.W.codeIn K cd16 "_law_cell" = true) (k16 : PySem.W.keepIn K (.ref a__law_cell) = true)
    {od17 an17 : Option Addr} {sl17 : Array (Option Value)} {oc17 kV17 dc17 pm17 cd17 ct17 : Value}
    (a17 : PySem.W.nsIn K mainGlobals "_law_mixed" = some (some (.ref a__law_mixed))) (l17 : K.lookup a__law_mixed = some ⟨oc17, od17, .func (PySem.W.fnOf "_law_mixed" "_law_mixed" (defArgs s__law_mixed) (defBody s__law_mixed) (defScope s__law_mixed) .none kV17 dc17 pm17 an17 cd17 ct17), sl17⟩) (c17 : PySem.W.codeIn K cd17 "_law_mixed" = true) (k17 : PySem.W.keepIn K (.ref a__law_mixed) = true)
    {od18 an18 : Option Addr} {sl18 : Array (Option Value)} {oc18 kV18 dc18 pm18 cd18 ct18 : Value}
    (a18 : PySem.W.nsIn K mainGlobals "_law_lowest" = some (some (.ref a__law_lowest))) (l18 : K.lookup a__law_lowest = some ⟨oc18, od18, .func (PySem.W.fnOf "_law_lowest" "_law_lowest" (defArgs s__law_lowest) (defBody s__law_lowest) (defScope s__law_lowest) .none kV18 dc18 pm18 an18 cd18 ct18), sl18⟩) (c18 : PySem.W.codeIn K cd18 "_law_lowest" = true) (k18 : PySem.W.keepIn K (.ref a__law_lowest) = true)
    {od19 an19 : Option Addr} {sl19 : Array (Option Value)} {oc19 kV19 dc19 pm19 cd19 ct19 : Value}
    (a19 : PySem.W.nsIn K mainGlobals "_law_fraction" = some (some (.ref a__law_fraction))) (l19 : K.lookup a__law_fraction = some ⟨oc19, od19, .func (PySem.W.fnOf "_law_fraction" "_law_fraction" (defArgs s__law_fraction) (defBody s__law_fraction) (defScope s__law_fraction) .none kV19 dc19 pm19 an19 cd19 ct19), sl19⟩) (c19 : PySem.W.codeIn K cd19 "_law_fraction" = true) (k19 : PySem.W.keepIn K (.ref a__law_fraction) = true)
    {od20 an20 : Option Addr} {sl20 : Array (Option Value)} {oc20 kV20 dc20 pm20 cd20 ct20 : Value}
    (a20 : PySem.W.nsIn K mainGlobals "_law_road" = some (some (.ref a__law_road))) (l20 : K.lookup a__law_road = some ⟨oc20, od20, .func (PySem.W.fnOf "_law_road" "_law_road" (defArgs s__law_road) (defBody s__law_road) (defScope s__law_road) .none kV20 dc20 pm20 an20 cd20 ct20), sl20⟩) (c20 : PySem.W.codeIn K cd20 "_law_road" = true) (k20 : PySem.W.keepIn K (.ref a__law_road) = true)
    {od21 an21 : Option Addr} {sl21 : Array (Option Value)} {oc21 kV21 dc21 pm21 cd21 ct21 : Value}
    (a21 : PySem.W.nsIn K mainGlobals "_law_alike" = some (some (.ref a__law_alike))) (l21 : K.lookup a__law_alike = some ⟨oc21, od21, .func (PySem.W.fnOf "_law_alike" "_law_alike" (defArgs s__law_alike) (defBody s__law_alike) (defScope s__law_alike) .none kV21 dc21 pm21 an21 cd21 ct21), sl21⟩) (c21 : PySem.W.codeIn K cd21 "_law_alike" = true) (k21 : PySem.W.keepIn K (.ref a__law_alike) = true)
    {od22 an22 : Option Addr} {sl22 : Array (Option Value)} {oc22 kV22 dc22 pm22 cd22 ct22 : Value}
    (a22 : PySem.W.nsIn K mainGlobals "_law_changed" = some (some (.ref a__law_changed))) (l22 : K.lookup a__law_changed = some ⟨oc22, od22, .func (PySem.W.fnOf "_law_changed" "_law_changed" (defArgs s__law_changed) (defBody s__law_changed) (defScope s__law_changed) .none kV22 dc22 pm22 an22 cd22 ct22), sl22⟩) (c22 : PySem.W.codeIn K cd22 "_law_changed" = true) (k22 : PySem.W.keepIn K (.ref a__law_changed) = true)
    {od23 an23 : Option Addr} {sl23 : Array (Option Value)} {oc23 kV23 dc23 pm23 cd23 ct23 : Value}
    (a23 : PySem.W.nsIn K mainGlobals "_law_worked" = some (some (.ref a__law_worked))) (l23 : K.lookup a__law_worked = some ⟨oc23, od23, .func (PySem.W.fnOf "_law_worked" "_law_worked" (defArgs s__law_worked) (defBody s__law_worked) (defScope s__law_worked) .none kV23 dc23 pm23 an23 cd23 ct23), sl23⟩) (c23 : PySem.W.codeIn K cd23 "_law_worked" = true) (k23 : PySem.W.keepIn K (.ref a__law_worked) = true)
    {od24 an24 : Option Addr} {sl24 : Array (Option Value)} {oc24 kV24 dc24 pm24 cd24 ct24 : Value}
    (a24 : PySem.W.nsIn K mainGlobals "law" = some (some (.ref a_law))) (l24 : K.lookup a_law = some ⟨oc24, od24, .func (PySem.W.fnOf "law" "law" (defArgs s_law) (defBody s_law) (defScope s_law) .none kV24 dc24 pm24 an24 cd24 ct24), sl24⟩) (c24 : PySem.W.codeIn K cd24 "law" = true) (k24 : PySem.W.keepIn K (.ref a_law) = true)
    (r0 : PySem.W.nsIn K mainGlobals "RoadError" = some (some (.ref c_RoadError))) {cx0 : ClassData} (u0 : PySem.W.clsIn K c_RoadError = some cx0) (v0 : PySem.W.typeIn K (.ref c_RoadError) = some (.type "type"))
    (r1 : PySem.W.nsIn K mainGlobals "NoNumber" = some (some (.ref c_NoNumber))) {cx1 : ClassData} (u1 : PySem.W.clsIn K c_NoNumber = some cx1) (v1 : PySem.W.typeIn K (.ref c_NoNumber) = some (.type "type"))
    (r2 : PySem.W.nsIn K mainGlobals "NoNet" = some (some (.ref c_NoNet))) {cx2 : ClassData} (u2 : PySem.W.clsIn K c_NoNet = some cx2) (v2 : PySem.W.typeIn K (.ref c_NoNet) = some (.type "type"))
    (r3 : PySem.W.nsIn K mainGlobals "NoSuch" = some (some (.ref c_NoSuch))) {cx3 : ClassData} (u3 : PySem.W.clsIn K c_NoSuch = some cx3) (v3 : PySem.W.typeIn K (.ref c_NoSuch) = some (.type "type"))
    (z_isinstance : PySem.W.nsIn K mainGlobals "isinstance" = some none)
    (z_int : PySem.W.nsIn K mainGlobals "int" = some none)
    (z_bool : PySem.W.nsIn K mainGlobals "bool" = some none)
    (z_tuple : PySem.W.nsIn K mainGlobals "tuple" = some none)
    (z_list : PySem.W.nsIn K mainGlobals "list" = some none)
    (z_len : PySem.W.nsIn K mainGlobals "len" = some none)
    (z_abs : PySem.W.nsIn K mainGlobals "abs" = some none)
    (z_range : PySem.W.nsIn K mainGlobals "range" = some none)
    (z_max : PySem.W.nsIn K mainGlobals "max" = some none)
    {od_NOUGHT : Option Addr} {sl_NOUGHT : Array (Option Value)} {n_NOUGHT : Nat} {tk_NOUGHT0 tk_NOUGHT1 : Tok} (q_NOUGHT : PySem.W.nsIn K mainGlobals "NOUGHT" = some (some (.ref aN))) (w_NOUGHT : K.lookup aN = some ⟨.type "tuple", od_NOUGHT, .seq #[.int 0 tk_NOUGHT0, .int 1 tk_NOUGHT1] n_NOUGHT, sl_NOUGHT⟩)
    {tk_MOST_ROADS : Tok} (q_MOST_ROADS : PySem.W.nsIn K mainGlobals "MOST_ROADS" = some (some (.int 12 tk_MOST_ROADS)))
    {tk_THINGS_OF_ROAD : Tok} (q_THINGS_OF_ROAD : PySem.W.nsIn K mainGlobals "THINGS_OF_ROAD" = some (some (.int 5 tk_THINGS_OF_ROAD))) :
    ∃ fd : FuncData, (∀ (s : Shared) (v : Value), BindsTo s fd ⟨[v], []⟩ [("_law_script", v)]) ∧ ∀ base : Heap, K.In base → base.Ns mainGlobals mg → FnOk l.prog w K mg base CX0 9 fa fd ["_law_script"] (spLaw K) := by
  have e := hfa.symm.trans (PySem.W.mg_of X G a24)
  cases e
  let c : Cs := ⟨c_RoadError, c_NoNumber, c_NoNet, c_RoadError, c_RoadError, c_RoadError, c_RoadError, c_RoadError, c_NoSuch, c_RoadError⟩
  have T : Txt K mg c aN :=
    ⟨PySem.W.mg_none_of X G z_isinstance, PySem.W.mg_none_of X G z_int, PySem.W.mg_none_of X G z_bool, PySem.W.mg_none_of X G z_tuple, PySem.W.mg_none_of X G z_list, PySem.W.mg_none_of X G z_len, PySem.W.mg_none_of X G z_abs, PySem.W.mg_none_of X G z_range, PySem.W.mg_none_of X G z_max, PySem.W.mg_of X G r0, PySem.W.mg_of X G r1, PySem.W.mg_of X G r2, PySem.W.mg_of X G r3, PySem.W.mg_of X G q_NOUGHT, fun H => .tup (xs := [.int 0, .int 1]) (.inr ⟨_, _, _, w_NOUGHT, rfl, rfl, (by show 2 ≤ sizeLine; decide), .cons ⟨_, rfl⟩ (.cons ⟨_, rfl⟩ (.nil))⟩) (.cons (.int 0) (.cons (.int 1) (.nil))), ⟨_, PySem.W.mg_of X G q_MOST_ROADS⟩, ⟨_, PySem.W.mg_of X G q_THINGS_OF_ROAD⟩⟩
  have F0 := fun_mk (st := s_is_whole) l0 c0 k0
  have b0 := F0.binds (ps := ["thing"]) fun _ _ _ _ _ _ us hl => match us, hl with | [_], _ => rfl
  have F1 := fun_mk (st := s_common_divisor) l1 c1 k1
  have b1 := F1.binds (ps := ["one", "other"]) fun _ _ _ _ _ _ us hl => match us, hl with | [_, _], _ => rfl
  have F2 := fun_mk (st := s_lowest) l2 c2 k2
  have b2 := F2.binds (ps := ["top", "bottom"]) fun _ _ _ _ _ _ us hl => match us, hl with | [_, _], _ => rfl
  have F3 := fun_mk (st := s_is_fraction) l3 c3 k3
  have b3 := F3.binds (ps := ["thing"]) fun _ _ _ _ _ _ us hl => match us, hl with | [_], _ => rfl
  have F4 := fun_mk (st := s_is_from_nought) l4 c4 k4
  have b4 := F4.binds (ps := ["thing"]) fun _ _ _ _ _ _ us hl => match us, hl with | [_], _ => rfl
  have F5 := fun_mk (st := s_is_above_nought) l5 c5 k5
  have b5 := F5.binds (ps := ["thing"]) fun _ _ _ _ _ _ us hl => match us, hl with | [_], _ => rfl
  have F6 := fun_mk (st := s_part_of) l6 c6 k6
  have b6 := F6.binds (ps := ["one", "other"]) fun _ _ _ _ _ _ us hl => match us, hl with | [_, _], _ => rfl
  have F7 := fun_mk (st := s_is_number_of) l7 c7 k7
  have b7 := F7.binds (ps := ["many", "thing"]) fun _ _ _ _ _ _ us hl => match us, hl with | [_, _], _ => rfl
  have F8 := fun_mk (st := s_are_unlike_places) l8 c8 k8
  have b8 := F8.binds (ps := ["many", "start", "end"]) fun _ _ _ _ _ _ us hl => match us, hl with | [_, _, _], _ => rfl
  have F9 := fun_mk (st := s_road_fault) l9 c9 k9
  have b9 := F9.binds (ps := ["many", "road"]) fun _ _ _ _ _ _ us hl => match us, hl with | [_, _], _ => rfl
  have F10 := fun_mk (st := s_opened_net) l10 c10 k10
  have b10 := F10.binds (ps := ["net", "road"]) fun _ _ _ _ _ _ us hl => match us, hl with | [_, _], _ => rfl
  have F11 := fun_mk (st := s_check_road) l11 c11 k11
  have b11 := F11.binds (ps := ["net", "number"]) fun _ _ _ _ _ _ us hl => match us, hl with | [_, _], _ => rfl
  have F12 := fun_mk (st := s_closed_net) l12 c12 k12
  have b12 := F12.binds (ps := ["net", "number"]) fun _ _ _ _ _ _ us hl => match us, hl with | [_, _], _ => rfl
  have F13 := fun_mk (st := s_widened_road) l13 c13 k13
  have b13 := F13.binds (ps := ["road", "by"]) fun _ _ _ _ _ _ us hl => match us, hl with | [_, _], _ => rfl
  have F14 := fun_mk (st := s_widened_net) l14 c14 k14
  have b14 := F14.binds (ps := ["net", "number", "by"]) fun _ _ _ _ _ _ us hl => match us, hl with | [_, _, _], _ => rfl
  have F15 := fun_mk (st := s__law_whole) l15 c15 k15
  have b15 := F15.binds (ps := ["_law_found"]) fun _ _ _ _ _ _ us hl => match us, hl with | [_], _ => rfl
  have F16 := fun_mk (st := s__law_cell) l16 c16 k16
  have b16 := F16.binds (ps := ["_law_script", "_law_k"]) fun _ _ _ _ _ _ us hl => match us, hl with | [_, _], _ => rfl
  have F17 := fun_mk (st := s__law_mixed) l17 c17 k17
  have b17 := F17.binds (ps := ["_law_script", "_law_k"]) fun _ _ _ _ _ _ us hl => match us, hl with | [_, _], _ => rfl
  have F18 := fun_mk (st := s__law_lowest) l18 c18 k18
  have b18 := F18.binds (ps := ["_law_top", "_law_bottom"]) fun _ _ _ _ _ _ us hl => match us, hl with | [_, _], _ => rfl
  have F19 := fun_mk (st := s__law_fraction) l19 c19 k19
  have b19 := F19.binds (ps := ["_law_script", "_law_k"]) fun _ _ _ _ _ _ us hl => match us, hl with | [_, _], _ => rfl
  have F20 := fun_mk (st := s__law_road) l20 c20 k20
  have b20 := F20.binds (ps := ["_law_script", "_law_k", "_law_many"]) fun _ _ _ _ _ _ us hl => match us, hl with | [_, _, _], _ => rfl
  have F21 := fun_mk (st := s__law_alike) l21 c21 k21
  have b21 := F21.binds (ps := ["_law_found", "_law_due"]) fun _ _ _ _ _ _ us hl => match us, hl with | [_, _], _ => rfl
  have F22 := fun_mk (st := s__law_changed) l22 c22 k22
  have b22 := F22.binds (ps := ["_law_roads", "_law_at", "_law_by"]) fun _ _ _ _ _ _ us hl => match us, hl with | [_, _, _], _ => rfl
  have F23 := fun_mk (st := s__law_worked) l23 c23 k23
  have b23 := F23.binds (ps := ["_law_net", "_law_road_here", "_law_at", "_law_by"]) fun _ _ _ _ _ _ us hl => match us, hl with | [_, _, _, _], _ => rfl
  have F24 := fun_mk (st := s_law) l24 c24 k24
  refine ⟨PySem.W.fnOf "law" "law" (defArgs s_law) (defBody s_law) (defScope s_law) .none kV24 dc24 pm24 an24 cd24 ct24, fun s v => .of_eq rfl, fun base _ _ => ?_⟩
  have C_is_whole : Cal l.prog w K mg base CX0 1 "is_whole" (spWhole K) := ⟨_, _, _, ok_is_whole T  F0, PySem.W.mg_of X G a0, k0, b0⟩
  have C_common_divisor : Cal l.prog w K mg base CX0 1 "common_divisor" spGcd := ⟨_, _, _, ok_common_divisor T  F1, PySem.W.mg_of X G a1, k1, b1⟩
  have C_lowest : Cal l.prog w K mg base CX0 2 "lowest" (spLow K) := ⟨_, _, _, ok_lowest T C_common_divisor F2, PySem.W.mg_of X G a2, k2, b2⟩
  have C_is_fraction : Cal l.prog w K mg base CX0 2 "is_fraction" (spIsF K) := ⟨_, _, _, ok_is_fraction T C_is_whole C_common_divisor F3, PySem.W.mg_of X G a3, k3, b3⟩
  have C_is_from_nought : Cal l.prog w K mg base CX0 3 "is_from_nought" (spIsF K) := ⟨_, _, _, ok_is_from_nought T C_is_fraction F4, PySem.W.mg_of X G a4, k4, b4⟩
  have C_is_above_nought : Cal l.prog w K mg base CX0 3 "is_above_nought" (spAbove K) := ⟨_, _, _, ok_is_above_nought T C_is_fraction F5, PySem.W.mg_of X G a5, k5, b5⟩
  have C_part_of : Cal l.prog w K mg base CX0 3 "part_of" (spPart K) := ⟨_, _, _, ok_part_of T C_lowest F6, PySem.W.mg_of X G a6, k6, b6⟩
  have C_is_number_of : Cal l.prog w K mg base CX0 2 "is_number_of" (spPlace K) := ⟨_, _, _, ok_is_number_of T C_is_whole F7, PySem.W.mg_of X G a7, k7, b7⟩
  have C_are_unlike_places : Cal l.prog w K mg base CX0 3 "are_unlike_places" (spUnlike K) := ⟨_, _, _, ok_are_unlike_places T C_is_number_of F8, PySem.W.mg_of X G a8, k8, b8⟩
  have C_road_fault : Cal l.prog w K mg base CX0 4 "road_fault" (spFault K) := ⟨_, _, _, ok_road_fault T C_are_unlike_places C_is_from_nought F9, PySem.W.mg_of X G a9, k9, b9⟩
  have C_opened_net : Cal l.prog w K mg base CX0 5 "opened_net" (spOpened K) := ⟨_, _, _, ok_opened_net T C_road_fault F10, PySem.W.mg_of X G a10, k10, b10⟩
  have C_check_road : Cal l.prog w K mg base CX0 3 "check_road" (spCheck K) := ⟨_, _, _, ok_check_road T C_is_number_of F11, PySem.W.mg_of X G a11, k11, b11⟩
  have C_closed_net : Cal l.prog w K mg base CX0 4 "closed_net" (spClosed K) := ⟨_, _, _, ok_closed_net T C_check_road F12, PySem.W.mg_of X G a12, k12, b12⟩
  have C_widened_road : Cal l.prog w K mg base CX0 4 "widened_road" (spWRoad K) := ⟨_, _, _, ok_widened_road T C_part_of F13, PySem.W.mg_of X G a13, k13, b13⟩
  have C_widened_net : Cal l.prog w K mg base CX0 5 "widened_net" (spWidened K) := ⟨_, _, _, ok_widened_net T C_check_road C_widened_road C_is_above_nought F14, PySem.W.mg_of X G a14, k14, b14⟩
  have C__law_whole : Cal l.prog w K mg base CX0 1 "_law_whole" (spWhole K) := ⟨_, _, _, ok__law_whole T  F15, PySem.W.mg_of X G a15, k15, b15⟩
  have C__law_cell : Cal l.prog w K mg base CX0 1 "_law_cell" (spCell K) := ⟨_, _, _, ok__law_cell T  F16, PySem.W.mg_of X G a16, k16, b16⟩
  have C__law_mixed : Cal l.prog w K mg base CX0 2 "_law_mixed" (spMixed K) := ⟨_, _, _, ok__law_mixed T C__law_cell F17, PySem.W.mg_of X G a17, k17, b17⟩
  have C__law_lowest : Cal l.prog w K mg base CX0 1 "_law_lowest" (spLLow K) := ⟨_, _, _, ok__law_lowest T  F18, PySem.W.mg_of X G a18, k18, b18⟩
  have C__law_fraction : Cal l.prog w K mg base CX0 3 "_law_fraction" (spFrac K) := ⟨_, _, _, ok__law_fraction T C__law_mixed C__law_lowest F19, PySem.W.mg_of X G a19, k19, b19⟩
  have C__law_road : Cal l.prog w K mg base CX0 4 "_law_road" (spRoad K) := ⟨_, _, _, ok__law_road T C__law_mixed C__law_fraction F20, PySem.W.mg_of X G a20, k20, b20⟩
  have C__law_alike : Cal l.prog w K mg base CX0 8 "_law_alike" (spAlike K 8) := rec_cal (sp := fun d => (spAlike K d)) spAlike_zero (fun d C => ok__law_alike T d C C__law_whole F21) (PySem.W.mg_of X G a21) k21 b21 8
  have C__law_changed : Cal l.prog w K mg base CX0 2 "_law_changed" (spChanged K) := ⟨_, _, _, ok__law_changed T C__law_lowest F22, PySem.W.mg_of X G a22, k22, b22⟩
  have C__law_worked : Cal l.prog w K mg base CX0 6 "_law_worked" (spWorked K) := ⟨_, _, _, ok__law_worked T C_opened_net C_closed_net C_widened_net C__law_changed F23, PySem.W.mg_of X G a23, k23, b23⟩
  exact ok_law T C__law_road C__law_mixed C__law_lowest C__law_worked C_widened_net C__law_alike C__law_cell C_closed_net C_opened_net F24
theorem walk {l : PySem.W.OpenLaw} {q : Program} {loose : List Str} {XP : (Str → Option Value) → Heap → Prop} {YP : World → Heap → Prop} {d : DefRec} {K : Params → PySem.W.Frag} (hn : l.most = some 63) (hdf : d.params.defaults = [])
    (hY : ∀ (w : World) (h : Heap), YP w h → (K w.params).In h)
    (F : ∀ (w : World) (mg : Str → Option Value) (fa : Addr) (h : Heap), (K w.params).In h → h.Ns mainGlobals mg → mg d.name = some (.ref fa) →
      ∃ fd : FuncData, (∀ (s : Shared) (u : Value), BindsTo s fd ⟨[u], []⟩ [("_law_script", u)]) ∧ ∀ base : Heap, (K w.params).In base → base.Ns mainGlobals mg → FnOk l.prog w (K w.params) mg base CX0 9 fa fd ["_law_script"] (spLaw (K w.params))) :
    PySem.W.WalkO q loose XP YP l.row.toRowW d [] (fun f vs => PySem.call f vs) :=
  L2.walk_of (n := 63) (k := 9) (x := "_law_script") (CX := fun _ => CX0) (sp := fun w => spLaw (K w.params)) hn (by decide) hdf ⟨rfl, by decide, by decide⟩ hY F (fun _ _ a ns hl _ hS => ⟨a, ns, rfl, hS, hl, fun _ => rfl⟩) fun _ _ _ _ _ z => z
end W5
open PySem PySem.W PyProof.Rows
set_option maxRecDepth 100000 in
set_option maxHeartbeats 0 in
theorem PySem.Challenge.cw_crowdroads_k51_works_done_holds : PySem.Challenge.rw_crowdroads_k51_works_done.Holds := by
  w_on; o_law; k_head; (case hw => w_witness2)
  k_fill
  refine W5.walk (l := PySem.Challenge.rw_crowdroads_k51_works_done) rfl rfl (fun w h Y => PySem.W.kIn_of Y) ?F
  case F =>
    intro w mg fa h KX G hmg
    refine' W5.all_mk KX G hmg ?a0 ?l0 ?c0 ?k0 ?a1 ?l1 ?c1 ?k1 ?a2 ?l2 ?c2 ?k2 ?a3 ?l3 ?c3 ?k3 ?a4 ?l4 ?c4 ?k4 ?a5 ?l5 ?c5 ?k5 ?a6 ?l6 ?c6 ?k6 ?a7 ?l7 ?c7 ?k7 ?a8 ?l8 ?c8 ?k8 ?a9 ?l9 ?c9 ?k9 ?a10 ?l10 ?c10 ?k10 ?a11 ?l11 ?c11 ?k11 ?a12 ?l12 ?c12 ?k12 ?a13 ?l13 ?c13 ?k13 ?a14 ?l14 ?c14 ?k14 ?a15 ?l15 ?c15 ?k15 ?a16 ?l16 ?c16 ?k16 ?a17 ?l17 ?c17 ?k17 ?a18 ?l18 ?c18 ?k18 ?a19 ?l19 ?c19 ?k19 ?a20 ?l20 ?c20 ?k20 ?a21 ?l21 ?c21 ?k21 ?a22 ?l22 ?c22 ?k22 ?a23 ?l23 ?c23 ?k23 ?a24 ?l24 ?c24 ?k24 ?r0 ?u0 ?v0 ?r1 ?u1 ?v1 ?r2 ?u2 ?v2 ?r3 ?u3 ?v3 ?z_isinstance ?z_int ?z_bool ?z_tuple ?z_list ?z_len ?z_abs ?z_range ?z_max ?q_NOUGHT ?w_NOUGHT ?q_MOST_ROADS ?q_THINGS_OF_ROAD
    (case a0 => k_is)
    (case l0 => k_is)
    (case c0 => k_is)
    (case k0 => k_is)
    (case a1 => k_is)
    (case l1 => k_is)
    (case c1 => k_is)
    (case k1 => k_is)
    (case a2 => k_is)
    (case l2 => k_is)
    (case c2 => k_is)
    (case k2 => k_is)
    (case a3 => k_is)
    (case l3 => k_is)
    (case c3 => k_is)
    (case k3 => k_is)
    (case a4 => k_is)
    (case l4 => k_is)
    (case c4 => k_is)
    (case k4 => k_is)
    (case a5 => k_is)
    (case l5 => k_is)
    (case c5 => k_is)
    (case k5 => k_is)
    (case a6 => k_is)
    (case l6 => k_is)
    (case c6 => k_is)
    (case k6 => k_is)
    (case a7 => k_is)
    (case l7 => k_is)
    (case c7 => k_is)
    (case k7 => k_is)
    (case a8 => k_is)
    (case l8 => k_is)
    (case c8 => k_is)
    (case k8 => k_is)
    (case a9 => k_is)
    (case l9 => k_is)
    (case c9 => k_is)
    (case k9 => k_is)
    (case a10 => k_is)
    (case l10 => k_is)
    (case c10 => k_is)
    (case k10 => k_is)
    (case a11 => k_is)
    (case l11 => k_is)
    (case c11 => k_is)
    (case k11 => k_is)
    (case a12 => k_is)
    (case l12 => k_is)
    (case c12 => k_is)
    (case k12 => k_is)
    (case a13 => k_is)
    (case l13 => k_is)
    (case c13 => k_is)
    (case k13 => k_is)
    (case a14 => k_is)
    (case l14 => k_is)
    (case c14 => k_is)
    (case k14 => k_is)
    (case a15 => k_is)
    (case l15 => k_is)
    (case c15 => k_is)
    (case k15 => k_is)
    (case a16 => k_is)
    (case l16 => k_is)
    (case c16 => k_is)
    (case k16 => k_is)
    (case a17 => k_is)
    (case l17 => k_is)
    (case c17 => k_is)
    (case k17 => k_is)
    (case a18 => k_is)
    (case l18 => k_is)
    (case c18 => k_is)
    (case k18 => k_is)
    (case a19 => k_is)
    (case l19 => k_is)
    (case c19 => k_is)
    (case k19 => k_is)
    (case a20 => k_is)
    (case l20 => k_is)
    (case c20 => k_is)
    (case k20 => k_is)
    (case a21 => k_is)
    (case l21 => k_is)
    (case c21 => k_is)
    (case k21 => k_is)
    (case a22 => k_is)
    (case l22 => k_is)
    (case c22 => k_is)
    (case k22 => k_is)
    (case a23 => k_is)
    (case l23 => k_is)
    (case c23 => k_is)
    (case k23 => k_is)
    (case a24 => k_is)
    (case l24 => k_is)
    (case c24 => k_is)
    (case k24 => k_is)
    (case r0 => k_is)
    (case u0 => k_is)
    (case v0 => k_is)
    (case r1 => k_is)
    (case u1 => k_is)
    (case v1 => k_is)
    (case r2 => k_is)
    (case u2 => k_is)
    (case v2 => k_is)
    (case r3 => k_is)
    (case u3 => k_is)
    (case v3 => k_is)
    (case z_isinstance => k_is)
    (case z_int => k_is)
    (case z_bool => k_is)
    (case z_tuple => k_is)
    (case z_list => k_is)
    (case z_len => k_is)
    (case z_abs => k_is)
    (case z_range => k_is)
    (case z_max => k_is)
    (case q_NOUGHT => k_is)
    (case w_NOUGHT => k_is)
    (case q_MOST_ROADS => k_is)
    (case q_THINGS_OF_ROAD => k_is)

end

