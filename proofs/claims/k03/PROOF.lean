import PyProof.Rows.All
import Wide.All
import OpenK.AllK
import Wide.FinOn
import Lean
import PyProof.EqAt
import PyProof.EqKinds
import PyProof.TupleCall
import PySem.Challenge.RW_crowdroads_k03_a_net_made
set_option Elab.async false
set_option linter.all false
set_option maxRecDepth 100000
/-! THE HAND LAYER, for ints, bools, texts, own classes, LISTS and tuples (index, slices, in, append, pop ..), calls, loops. Paste it whole ahead of your own text; what your proof does not reach may be deleted. -/
namespace L2
open PySem PySem.Spec PyProof.Rows

/-- a key: an int or a str -/
abbrev Key := Sum Int Str
def keyIs : Key → Value → Bool
  | .inl k, v => Value.isInt k v
  | .inr x, v => Value.isStrOf x v
def keyH (w : World) : Key → Int
  | .inl k => hashInt k
  | .inr x => hashStr w x
theorem keyIs_shape : ∀ {k : Key} {v : Value}, keyIs k v = true → (∃ i t, k = Sum.inl i ∧ v = Value.int i t) ∨ (∃ x t, k = Sum.inr x ∧ v = Value.str x t)
  | .inl i, v, h => by
    obtain ⟨t, e⟩ := Value.isInt_shape (k := i) (v := v) h
    exact .inl ⟨i, t, rfl, e⟩
  | .inr x, v, h => by
    obtain ⟨t, e⟩ := Value.isStrOf_shape (x := x) (v := v) h
    exact .inr ⟨x, t, rfl, e⟩
theorem key_ll (a b : Int) : decide ((Sum.inl a : Key) = Sum.inl b) = (a == b) := by
  by_cases e : a = b
  · subst e; simp
  · have h : ¬ (Sum.inl a : Key) = Sum.inl b := fun q => e (Sum.inl.inj q)
    rw [decide_eq_false h]
    exact (beq_eq_false_iff_ne.mpr e).symm
theorem key_rr (a b : Str) : decide ((Sum.inr a : Key) = Sum.inr b) = decide (a = b) := by
  by_cases e : a = b
  · subst e; simp
  · have h : ¬ (Sum.inr a : Key) = Sum.inr b := fun q => e (Sum.inr.inj q)
    rw [decide_eq_false h, decide_eq_false e]
theorem key_lr (a : Int) (b : Str) : decide ((Sum.inl a : Key) = Sum.inr b) = false := decide_eq_false (fun q => nomatch q)
theorem key_rl (a : Str) (b : Int) : decide ((Sum.inr a : Key) = Sum.inl b) = false := decide_eq_false (fun q => nomatch q)

def mixKind (prog : Program) (w : World) : PySem.KeyKind prog w Key where
  is := keyIs
  hash := keyH w
  inj := fun v a b ha hb => by
    rcases keyIs_shape ha with ⟨i, t, rfl, rfl⟩ | ⟨x, t, rfl, rfl⟩
    · rcases keyIs_shape hb with ⟨j, u, rfl, e⟩ | ⟨y, u, rfl, e⟩
      · injection e with e1 _; rw [e1]
      · exact nomatch e
    · rcases keyIs_shape hb with ⟨j, u, rfl, e⟩ | ⟨y, u, rfl, e⟩
      · exact nomatch e
      · injection e with e1 _; rw [e1]
  byValue := fun k v h => by
    rcases keyIs_shape h with ⟨i, t, rfl, rfl⟩ | ⟨x, t, rfl, rfl⟩ <;> rfl
  pyHash := fun hv h => by
    rcases keyIs_shape hv with ⟨i, t, rfl, rfl⟩ | ⟨x, t, rfl, rfl⟩
    · exact wpAny_pyHash_int h
    · exact wpAny_pyHash_str h
  eqBool := fun hu hv h => by
    rcases keyIs_shape hu with ⟨i, t, rfl, rfl⟩ | ⟨x, t, rfl, rfl⟩
    · rcases keyIs_shape hv with ⟨j, u, rfl, rfl⟩ | ⟨y, u, rfl, rfl⟩
      · rw [key_ll] at h; exact wpAny_eqBool_int h
      · rw [key_lr] at h; exact SeqAt.EqAt.int_str i t y u _ _ _ _ h
    · rcases keyIs_shape hv with ⟨j, u, rfl, rfl⟩ | ⟨y, u, rfl, rfl⟩
      · rw [key_rl] at h; exact SeqAt.EqAt.str_int x t j u _ _ _ _ h
      · rw [key_rr] at h; exact wpAny_eqBool_str h
  «strs» := fun k x t v h => by
    rcases keyIs_shape h with ⟨i, u, rfl, e⟩ | ⟨y, u, rfl, e⟩
    · exact nomatch e
    · injection e with e1 _
      subst e1
      cases v <;> rfl

end L2

namespace L2
open PySem PySem.Spec PyProof.Rows

/-- a value, without the heap -/
inductive V where
  | non | bl (b : Bool) | int (i : Int) | str (x : Str) | byt (b : Array UInt8) | flt (b : UInt64) | ref (a : Addr) | ty (n : String)
  deriving DecidableEq

def RelV : V → Value → Prop
  | .non, u => u = Value.none
  | .bl b, u => u = Value.bool b
  | .int i, u => ∃ t, u = Value.int i t
  | .str x, u => ∃ t, u = Value.str x t
  | .byt b, u => ∃ t, u = Value.bytes b t
  | .flt b, u => ∃ t, u = Value.float b t
  | .ref a, u => u = Value.ref a
  | .ty n, u => u = Value.type n

abbrev Vals : List V → List Value → Prop := Paired RelV
theorem Vals.length {xs : List V} {us : List Value} (r : Vals xs us) : xs.length = us.length := Paired.length r
theorem Vals.get : ∀ {xs : List V} {us : List Value} {i : Nat} {x : V}, Vals xs us → xs[i]? = some x → ∃ u, us[i]? = some u ∧ RelV x u
  | _, _, _, _, .nil, e => by simp at e
  | _, _, 0, _, .cons r _, e => by simp at e; subst e; exact ⟨_, rfl, r⟩
  | _, _, i + 1, x, .cons _ t, e => by
    obtain ⟨u, h1, h2⟩ := Vals.get (i := i) (x := x) t (by simpa using e)
    exact ⟨u, by simpa using h1, h2⟩
theorem Vals.set {x : V} {u : Value} (r : RelV x u) : ∀ {xs : List V} {us : List Value} (i : Nat), Vals xs us → Vals (xs.set i x) (us.set i u)
  | _, _, _, .nil => .nil
  | _, _, 0, .cons _ t => .cons r t
  | _, _, i + 1, .cons q t => .cons q (Vals.set r i t)
theorem Vals.append : ∀ {xs ys : List V} {us ws : List Value}, Vals xs us → Vals ys ws → Vals (xs ++ ys) (us ++ ws)
  | _, _, _, _, .nil, s => s
  | _, _, _, _, .cons r t, s => .cons r (Vals.append t s)
theorem Vals.take : ∀ {xs : List V} {us : List Value} (n : Nat), Vals xs us → Vals (xs.take n) (us.take n)
  | _, _, 0, _ => .nil
  | _, _, _ + 1, .nil => .nil
  | _, _, n + 1, .cons r t => .cons r (Vals.take n t)
theorem Vals.drop : ∀ {xs : List V} {us : List Value} (n : Nat), Vals xs us → Vals (xs.drop n) (us.drop n)
  | _, _, 0, r => r
  | _, _, _ + 1, .nil => .nil
  | _, _, n + 1, .cons _ t => Vals.drop n t

def RelO : Option V → Option Value → Prop
  | some v, some u => RelV v u
  | none, none => True
  | _, _ => False
def KV {κ : Type} : List (κ × V) → List (κ × Value) → Prop := Paired fun (p : κ × V) (q : κ × Value) => p.1 = q.1 ∧ RelV p.2 q.2

/-- a key of a dict (00_mix): an int or a text -/
def kV : Key → V
  | .inl i => .int i
  | .inr x => .str x

/-- what stands at a tracked address -/
inductive HO where
  /-- a list -/
  | lst (xs : List V)
  /-- a tuple (never changes) -/
  | tup (xs : List V)
  /-- a dict whose keys are ints and texts; one whose keys are tuples of ints and texts (the empty one is both) -/
  | dK (kvs : List (Key × V)) | dT (kvs : List (List Key × V))
  /-- a set of ints: its members, its size -/
  | set (S : Int → Bool) (n : Nat)
  /-- an instance of the class at C, its dict at dx, its attributes -/
  | ins (C dx : Addr) (fs : List (Str × V))
  /-- the dict of the instance at x -/
  | own (x : Addr)
  /-- the dict of an exception -/
  | xd (fs : List (Str × V))
  /-- a bound method, f of x -/
  | met (f x : Addr)
  /-- a range object lo, lo + 1, .. below hi -/
  | rng (lo hi : Int)
  /-- a thing that is known to the object (the script; a dict while a loop walks it): read, never written while it is so -/
  | frz (o : Obj) (u : HO)
  /-- a code object's table -/
  | tbl (ps : Array Value)
  /-- any other thing, by what is true of its one object (a def of one's own: SetO a S n := HO.ext fun h => ..) -/
  | ext (φ : Heap → Prop)

abbrev Hp := Addr → Option HO
def upd (H : Hp) (a : Addr) (o : HO) : Hp := fun b => if b = a then some o else H b
theorem upd_same {H : Hp} {a : Addr} {o : HO} : upd H a o a = some o := by unfold upd; rw [if_pos rfl]
theorem upd_ne {H : Hp} {a b : Addr} {o : HO} (h : b ≠ a) : upd H a o b = H b := by unfold upd; rw [if_neg h]
theorem ne_of_none {H : Hp} {a b : Addr} {o : HO} (h : H a = some o) (h' : H b = none) : a ≠ b := by
  intro e; subst e; rw [h] at h'; cases h'

section
variable (P : Program) (w : World)
def ObjOk (H : Hp) (h : Heap) (a : Addr) : HO → Prop
  | .lst xs => xs.length ≤ sizeLine ∧ ∃ (its : List Value) (n : Nat), Vals xs its ∧ h.get? a = some { cls := .type "list", data := .seq its.toArray n }
  | .tup xs => xs.length ≤ sizeLine ∧ ∃ its : List Value, Vals xs its ∧ IsTup h a its.toArray
  | .dK kvs => kvs.length ≤ sizeLine ∧ (a == sysModules) = false ∧ ∃ vs, KV kvs vs ∧ h.DictOf (mixKind P w) a vs
  | .dT kvs => kvs.length ≤ sizeLine ∧ (a == sysModules) = false ∧ ∃ xs : List (List Key × Addr × Value),
      Paired (fun (p : List Key × V) (q : List Key × Addr × Value) => p.1 = q.1 ∧ H q.2.1 = some (.tup (p.1.map kV)) ∧ RelV p.2 q.2.2) kvs xs ∧
      ∃ o es ep, h.get? a = some o ∧ o.ExactDict ∧ o.data = .dict es ep ∧ es.toList = xs.map (entryOfKey (tupleKind (mixKind P w))) ∧ (xs.map (·.1)).Nodup
  | .set S n => h.SetOf (intKind P w) a S n
  | .ins C dx fs => H dx = some (.own a) ∧ fs.length ≤ 1000 ∧ dx ≠ a ∧ h.get? a = some (PySem.W.instObj C dx) ∧
      ∃ mA, h.Ns1 dx mA ∧ (∀ f, RelO (fs.lookup f) (mA f)) ∧ PySem.Within mA (fs.map (·.1))
  | .own _ => ∃ o, h.get? a = some o
  | .xd fs => ∃ mA, h.Ns1 a mA ∧ ∀ f, RelO (fs.lookup f) (mA f)
  | .rng lo hi => ∃ t u v, h.get? a = some { cls := .type "range", data := .fields #[.int lo t, .int hi u, .int 1 v] }
  | .frz o u => h.get? a = some o ∧ ObjOk H h a u
  | .tbl ps => h.get? a = some { cls := .none, data := .fields ps }
  | .met f x => h.get? a = some (PySem.W.methodObj (.ref f) (.ref x))
  | .ext φ => φ h ∧ (∃ o, h.get? a = some o) ∧ ∀ h1 h2 : Heap, φ h1 → (∀ o, h1.get? a = some o → h2.get? a = some o) → φ h2
/-- the abstract heap is held -/
def HOk (H : Hp) (h : Heap) : Prop := ∀ a o, H a = some o → ObjOk P w H h a o
end

section
variable {P : Program} {w : World} {H H' : Hp} {h h' : Heap} {a : Addr} {o : HO}
theorem ObjOk.lt (x : ObjOk P w H h a o) : a < h.objs.size := by
  cases o with
  | lst xs => obtain ⟨_, _, _, _, e⟩ := x; exact Heap.lt_size e
  | tup xs => obtain ⟨_, _, _, p⟩ := x; exact p.lt
  | dK kvs => obtain ⟨_, _, _, _, o, _, _, e, _⟩ := x; exact Heap.lt_size e
  | dT kvs => obtain ⟨_, _, _, _, o, _, _, e, _⟩ := x; exact Heap.lt_size e
  | set S n => obtain ⟨o, _, _, _, e, _⟩ := x; exact Heap.lt_size e
  | ins C dx fs => obtain ⟨_, _, _, e, _⟩ := x; exact Heap.lt_size e
  | own y => obtain ⟨_, e⟩ := x; exact Heap.lt_size e
  | xd fs => obtain ⟨_, ⟨_, _, _, e, _⟩, _⟩ := x; exact Heap.lt_size e
  | rng lo hi => obtain ⟨_, _, _, e⟩ := x; exact Heap.lt_size e
  | frz ob u => obtain ⟨e, _⟩ := x; exact Heap.lt_size e
  | tbl ps => exact Heap.lt_size (show h.get? a = some _ from x)
  | met f y => exact Heap.lt_size (show h.get? a = some _ from x)
  | ext φ => obtain ⟨_, ⟨_, e⟩, _⟩ := x; exact Heap.lt_size e
theorem Paired.mapP {α β : Type} {F G : α → β → Prop} : ∀ {l₁ : List α} {l₂ : List β}, Paired F l₁ l₂ → (∀ a b, F a b → G a b) → Paired G l₁ l₂
  | _, _, .nil, _ => .nil
  | _, _, .cons r t, f => .cons (f _ _ r) (Paired.mapP t f)
/-- what an object's description leans on: its own object, its own dict, the tuples -/
theorem ObjOk.stay (x : ObjOk P w H h a o) (k : ∀ b u, (b = a ∨ H b = some (.own a)) → h.get? b = some u → h'.get? b = some u)
    (ho : ∀ b, H b = some (.own a) → H' b = some (.own a)) (ht : ∀ b xs, H b = some (.tup xs) → H' b = some (.tup xs)) : ObjOk P w H' h' a o := by
  induction o with
  | lst xs => obtain ⟨z, its, n, r, e⟩ := x; exact ⟨z, its, n, r, k _ _ (.inl rfl) e⟩
  | tup xs => obtain ⟨z, its, r, ob, e, c⟩ := x; exact ⟨z, its, r, ob, k _ _ (.inl rfl) e, c⟩
  | dK kvs => obtain ⟨z, y, vs, r, ob, es, ep, e, c⟩ := x; exact ⟨z, y, vs, r, ob, es, ep, k _ _ (.inl rfl) e, c⟩
  | dT kvs =>
    obtain ⟨z, y, xs, r, ob, es, ep, e, c⟩ := x
    exact ⟨z, y, xs, Paired.mapP r fun p q z => ⟨z.1, ht _ _ z.2.1, z.2.2⟩, ob, es, ep, k _ _ (.inl rfl) e, c⟩
  | set S n => obtain ⟨ob, es, ep, t, e, c⟩ := x; exact ⟨ob, es, ep, t, k _ _ (.inl rfl) e, c⟩
  | ins C dx fs =>
    obtain ⟨d, z, ne, e, mA, ⟨od, es, ep, e2, c⟩, r⟩ := x
    exact ⟨ho _ d, z, ne, k _ _ (.inl rfl) e, mA, ⟨od, es, ep, k _ _ (.inr d) e2, c⟩, r⟩
  | own y => obtain ⟨ob, e⟩ := x; exact ⟨ob, k _ _ (.inl rfl) e⟩
  | xd fs => obtain ⟨mA, ⟨od, es, ep, e, c⟩, r⟩ := x; exact ⟨mA, ⟨od, es, ep, k _ _ (.inl rfl) e, c⟩, r⟩
  | rng lo hi => obtain ⟨t, u, v, e⟩ := x; exact ⟨t, u, v, k _ _ (.inl rfl) e⟩
  | frz ob u ih => obtain ⟨e, q⟩ := x; exact ⟨k _ _ (.inl rfl) e, ih q⟩
  | tbl ps =>
    have e : h.get? a = some { cls := .none, data := .fields ps } := x
    show h'.get? a = some { cls := .none, data := .fields ps }
    exact k a _ (.inl rfl) e
  | met f y =>
    have e : h.get? a = some (PySem.W.methodObj (.ref f) (.ref y)) := x
    show h'.get? a = some (PySem.W.methodObj (.ref f) (.ref y))
    exact k a _ (.inl rfl) e
  | ext φ => obtain ⟨p, ⟨o, e⟩, st⟩ := x; exact ⟨st _ _ p fun o q => k _ _ (.inl rfl) q, ⟨o, k _ _ (.inl rfl) e⟩, st⟩
theorem HOk.lt (x : HOk P w H h) (e : H a = some o) : a < h.objs.size := (x a o e).lt
theorem HOk.fresh (x : HOk P w H h) (e : h.objs.size ≤ a) : H a = none := by
  cases q : H a with
  | none => rfl
  | some u => exact absurd (Nat.lt_of_lt_of_le (x.lt q) e) (Nat.lt_irrefl _)
/-- every object of the heap is kept -/
theorem HOk.kept (x : HOk P w H h) (k : ∀ b u, h.get? b = some u → h'.get? b = some u) : HOk P w H h' := fun a o e =>
  (x a o e).stay (fun b u _ q => k b u q) (fun _ q => q) fun _ _ q => q
/-- a new object is laid and tracked -/
theorem HOk.laid (x : HOk P w H h) (k : ∀ b u, h.get? b = some u → h'.get? b = some u) (hp : h.objs.size ≤ a) (new : ObjOk P w (upd H a o) h' a o) : HOk P w (upd H a o) h' := fun b u e => by
  have hn := x.fresh hp
  by_cases hb : b = a
  · subst hb; rw [upd_same] at e; cases e; exact new
  · rw [upd_ne hb] at e
    exact (x b u e).stay (fun c v _ q => k c v q) (fun c q => by rw [upd_ne (ne_of_none q hn)]; exact q) fun c xs q => by rw [upd_ne (ne_of_none q hn)]; exact q
end

/-- what may be read as u: it is u, or a known u -/
def Rd (H : Hp) (a : Addr) (u : HO) : Prop := H a = some u ∨ ∃ o, H a = some (.frz o u)
theorem Rd.ok {P : Program} {w : World} {H : Hp} {h : Heap} {a : Addr} {u : HO} (r : Rd H a u) (x : HOk P w H h) : ObjOk P w H h a u := by
  rcases r with r | ⟨o, r⟩
  · exact x a u r
  · obtain ⟨_, q⟩ := x a _ r
    exact q
/-- what may be written -/
def Mut : Option HO → Prop
  | some (.lst _) => True
  | some (.dK _) => True
  | some (.dT _) => True
  | some (.set _ _) => True
  | some (.ins _ _ _) => True
  | some (.ext _) => True
  | _ => False
section
variable {P : Program} {w : World} {H : Hp} {h h' : Heap} {x e : Addr} {o' : HO}
/-- the object at e is changed: x itself, or the dict of the instance x -/
theorem HOk.write (ok : HOk P w H h) (mu : Mut (H x)) (he : e = x ∨ H e = some (.own x)) (k : ∀ b u, b ≠ e → h.get? b = some u → h'.get? b = some u) (heo : ∃ u, h'.get? e = some u)
    (new : ObjOk P w (upd H x o') h' x o') : HOk P w (upd H x o') h' := fun b u q => by
  have nown : ∀ c y, H c = some (.own y) → c ≠ x := fun c y r z => by subst z; rw [r] at mu; exact mu
  have ntup : ∀ c xs, H c = some (.tup xs) → c ≠ x := fun c xs r z => by subst z; rw [r] at mu; exact mu
  by_cases hb : b = x
  · subst hb; rw [upd_same] at q; cases q; exact new
  · rw [upd_ne hb] at q
    by_cases hbe : b = e
    · have q' : H b = some (.own x) := by
        rcases he with z | z
        · exact absurd (hbe.trans z) hb
        · rw [hbe]; exact z
      rw [q] at q'; cases q'
      obtain ⟨v, hv⟩ := heo
      exact ⟨v, by rw [hbe]; exact hv⟩
    · refine (ok b u q).stay (fun c v hc r => k c v ?_ r) (fun c r => by rw [upd_ne (nown c b r)]; exact r) fun c xs r => by rw [upd_ne (ntup c xs r)]; exact r
      rcases hc with rfl | hc
      · exact hbe
      · rintro rfl
        rcases he with z | z
        · exact nown c b hc z
        · rw [hc] at z; cases z; exact hb rfl
end

/-! ### kept unless tracked; of the frames at fs (the callers') the slots may change (an exception that passes writes there); of the records at ex (iterators) nothing is said -/
structure Un (fs ex : List Addr) (H H' : Hp) (h h' : Heap) : Prop where
  keep : ∀ b o, h.get? b = some o → H b = none → b ∉ fs → b ∉ ex → h'.get? b = some o
  slot : ∀ b o, h.get? b = some o → H b = none → b ∈ fs → b ∉ ex → ∃ sl, h'.get? b = some { o with slots := sl }
  free : ∀ b o, h.get? b = some o → H b = none → b ∉ ex → H' b = none
  there : ∀ b o, h.get? b = some o → b ∉ ex → ∃ o', h'.get? b = some o'
  tups : ∀ b xs, H b = some (.tup xs) → H' b = some (.tup xs)
  frzs : ∀ b o u, H b = some (.frz o u) → H' b = some (.frz o u)
  tbls : ∀ b ps, H b = some (.tbl ps) → ∃ more, H' b = some (.tbl (ps ++ more))
section
variable {fs fs' ex ex' : List Addr} {H H1 H2 : Hp} {h h1 h2 h' : Heap} {a x e : Addr} {o : HO}
theorem Un.any (u : Un fs ex H H1 h h1) {b : Addr} {ob : Obj} (q : h.get? b = some ob) (n : H b = none) (hx : b ∉ ex) : ∃ sl, h1.get? b = some { ob with slots := sl } := by
  by_cases hb : b ∈ fs
  · exact u.slot b ob q n hb hx
  · exact ⟨ob.slots, u.keep b ob q n hb hx⟩
theorem Un.kept (k : ∀ b u, h.get? b = some u → h'.get? b = some u) : Un fs ex H H h h' :=
  ⟨fun b ob q _ _ _ => k b ob q, fun b ob q _ _ _ => ⟨ob.slots, k b ob q⟩, fun _ _ _ n _ => n, fun b ob q _ => ⟨ob, k b ob q⟩, fun _ _ q => q, fun _ _ _ q => q, fun _ ps q => ⟨#[], by rw [q]; simp⟩⟩
theorem Un.refl : Un fs ex H H h h := Un.kept fun _ _ q => q
theorem Un.laid (k : ∀ b u, h.get? b = some u → h'.get? b = some u) (hp : h.objs.size ≤ a) (hn : H a = none) : Un fs ex H (upd H a o) h h' where
  keep := fun b u q _ _ _ => k b u q
  slot := fun b u q _ _ _ => ⟨u.slots, k b u q⟩
  free := fun b u q n _ => by rw [upd_ne (Nat.ne_of_lt (Nat.lt_of_lt_of_le (Heap.lt_size q) hp))]; exact n
  there := fun b u q _ => ⟨u, k b u q⟩
  tups := fun b xs q => by rw [upd_ne (ne_of_none q hn)]; exact q
  frzs := fun b u xs q => by rw [upd_ne (ne_of_none q hn)]; exact q
  tbls := fun b ps q => ⟨#[], by rw [upd_ne (ne_of_none q hn), q]; simp⟩
theorem Un.write (mu : Mut (H x)) (he : e = x ∨ H e = some (.own x)) (k : ∀ b u, b ≠ e → h.get? b = some u → h'.get? b = some u) (heo : ∃ u, h'.get? e = some u) : Un fs ex H (upd H x o) h h' := by
  have hx : ∀ b, H b = none → b ≠ x := fun b n z => by subst z; rw [n] at mu; exact mu
  have hb : ∀ b, H b = none → b ≠ e := fun b n z => by
    subst z
    rcases he with r | r
    · exact hx b n r
    · rw [n] at r; cases r
  have hm : ∀ b u, H b = some u → ¬ Mut (some u) → b ≠ x := fun b u q nm z => by subst z; rw [q] at mu; exact nm mu
  refine ⟨fun b u q n _ _ => k b u (hb b n) q, fun b u q n _ _ => ⟨u.slots, k b u (hb b n) q⟩, fun b u q n _ => by rw [upd_ne (hx b n)]; exact n, fun b u q _ => ?_,
    fun b xs q => by rw [upd_ne (hm b _ q fun z => z)]; exact q, fun b u xs q => by rw [upd_ne (hm b _ q fun z => z)]; exact q, fun b ps q => ⟨#[], by rw [upd_ne (hm b _ q fun z => z), q]; simp⟩⟩
  by_cases hbe : b = e
  · subst hbe; exact heo
  · exact ⟨u, k b u hbe q⟩
end

/-! ### the heap without what is tracked -/
def trk (h : Heap) (H : Hp) : List Addr := (List.range h.objs.size).filter fun a => (H a).isSome
def hidT (h : Heap) (H : Hp) : Heap := PySem.W.hideAll h (trk h H)
theorem hidT_size (h : Heap) (H : Hp) : (hidT h H).objs.size = h.objs.size := PySem.W.hideAll_size _ _
theorem hidT_get {h : Heap} {H : Hp} {b : Addr} {o : Obj} (e : h.get? b = some o) (n : H b = none) : (hidT h H).get? b = some o :=
  PySem.W.hideAll_get _ e fun hm => by
    have q : (H b).isSome = true := (List.mem_filter.mp hm).2
    rw [n] at q; simp at q
theorem of_hidT {h : Heap} {H : Hp} {b : Addr} {o : Obj} (e : (hidT h H).get? b = some o) : h.get? b = some o ∧ H b = none := by
  have e' : h.get? b = some o := PySem.W.of_hideAll (trk h H) e
  refine ⟨e', ?_⟩
  cases q : H b with
  | none => rfl
  | some x =>
    have hm : b ∈ trk h H := List.mem_filter.mpr ⟨List.mem_range.mpr (Heap.lt_size e'), by simp [q]⟩
    have z : (hidT h H).get? b = none := PySem.W.hideAll_none (trk h H) hm
    rw [z] at e; cases e

/-! ### OpenK's ledger, filled with every new object but one -/
end L2

namespace L2
open PySem PySem.Spec PyProof.Rows

/-- the module's facts, over the base: the heap at the law's entry without what is tracked there -/
structure Mod (K : PySem.W.Frag) (mg : Str → Option Value) (base : Heap) : Prop where
  kin : K.In base
  glob : base.Ns mainGlobals mg
  blt : ∃ mb, base.Ns builtinsNs mb ∧ ∀ x : Str, x ≠ "__name__" → mb x = bootBuiltins x
  nolimit : base.NoLimit

/-- the context: a def's body (or a comprehension's block) running. base: fixed through the whole law; s₀, H₀: the entry; outer: the frames whose slots others may change (a def's callers); stack: all frames that run;
   ex: iterators that were made ahead of the entry and are walked here (a comprehension's); fn: the names whose cells were made at the entry (a def: all; a comprehension's block: its own); calm: not within an except suite; pn: pins that every state bears; xe: what is wanted of an exception that leaves the code -/
structure Cx where
  prog : Program
  w : World
  K : PySem.W.Frag
  mg : Str → Option Value
  base : Heap
  A : Around
  N : List Str
  s₀ : Shared
  H₀ : Hp
  env : Env
  outer : List Env
  stack : List Env
  ex : List Addr
  fn : Str → Bool
  calm : Bool
  pn : List (Addr × Obj)
  xe : Value → Shared → Prop
/-- the callers' frames -/
def frs (l : List Env) : List Addr := l.filterMap (·.frame)
abbrev Cx.fs (X : Cx) : List Addr := frs X.outer

def Vis (sc : Scope) (x : Str) : Prop := sc.names.lookup x = some .local ∨ sc.names.lookup x = some .cell ∨ sc.names.lookup x = some .free
def Loc (sc : Scope) (x : Str) : Prop := sc.names.lookup x = some .local ∨ sc.names.lookup x = some .cell
def Look (env : Env) (h : Heap) (m : Str → Option Value) (x : Str) (u : Value) : Prop :=
  (env.kindOf x = some .local ∧ m x = some u) ∨ ((env.kindOf x = some .cell ∨ env.kindOf x = some .free) ∧ ∃ c, env.cells.lookup x = some c ∧ h.IsCell c (some u))

structure Cx.Ok (X : Cx) : Prop where
  mod : Mod X.K X.mg X.base
  kind : X.env.scope.kind = .function
  glob : X.env.globals = mainGlobals
  blt : X.env.builtins = builtinsNs
  above : X.s₀.heap.objs.size ≤ X.env.locals
  inj : ∀ x y c, X.env.cells.lookup x = some c → X.env.cells.lookup y = some c → x = y
  has : ∀ x, (X.env.kindOf x = some .cell ∨ X.env.kindOf x = some .free) → ∃ c, X.env.cells.lookup x = some c
  cab : ∀ x c, X.fn x = true → X.env.cells.lookup x = some c → X.s₀.heap.objs.size ≤ c
  hd : X.calm = true → X.A.handled = none
  frames : X.A.frames = some X.stack
  stk : X.stack = X.outer ∨ (X.stack = X.env :: X.outer ∧ X.env.frame = some X.env.locals)
  exf : ∀ b ∈ X.ex, b ≠ X.env.locals ∧ ∀ x c, X.env.cells.lookup x = some c → c ≠ b
  bs : ∀ b o, X.base.get? b = some o → X.s₀.heap.get? b = some o ∧ X.H₀ b = none
  bsz : X.base.objs.size ≤ X.s₀.heap.objs.size
  noex : ∀ b o, X.base.get? b = some o → b ∉ X.ex
  exfs : ∀ b ∈ X.ex, b ∉ X.fs
  funs : X.s₀.heap.FunFrames X.base X.outer
  frf : ∀ b ∈ X.fs, X.H₀ b = none

structure Inv (X : Cx) (pins : List (Addr × Obj)) (σ : List (Option V)) (H : Hp) (s : Shared) : Prop where
  ok : X.Ok
  os : s.os = X.s₀.os
  bare : AllBare s.gens
  base : Un X.fs X.ex X.H₀ H X.s₀.heap s.heap
  loc : ∃ m, s.heap.Ns X.env.locals m ∧ ∀ (i : Nat) (x : Str) (v : V), X.N[i]? = some x → σ[i]? = some (some v) → Vis X.env.scope x → ∃ u, RelV v u ∧ Look X.env s.heap m x u
  cell : ∀ x c, X.env.cells.lookup x = some c → ∃ v, s.heap.IsCell c v
  free : H X.env.locals = none
  freeC : ∀ x c, X.env.cells.lookup x = some c → H c = none
  pin : ∀ p ∈ X.pn ++ pins, s.heap.get? p.1 = some p.2 ∧ H p.1 = none ∧ p.1 ≠ X.env.locals ∧ p.1 ∉ X.fs ∧ ∀ v, p.2.data ≠ .cell v
  hok : HOk X.prog X.w H s.heap
  len : σ.length = X.N.length

section
variable {X : Cx} {pins : List (Addr × Obj)} {σ : List (Option V)} {H H' : Hp} {s : Shared} {h' : Heap}

theorem Cx.Ok.nofr (ok : X.Ok) {b : Addr} {o : Obj} (e : X.base.get? b = some o) : b ∉ X.fs := fun hb => by
  have := (ok.funs.mem hb).1
  rw [e] at this; cases this
theorem Inv.bs (I : Inv X pins σ H s) : ∀ b o, X.base.get? b = some o → s.heap.get? b = some o ∧ H b = none := fun b o e =>
  ⟨I.base.keep b o (I.ok.bs b o e).1 (I.ok.bs b o e).2 (I.ok.nofr e) (I.ok.noex b o e), I.base.free b o (I.ok.bs b o e).1 (I.ok.bs b o e).2 (I.ok.noex b o e)⟩
theorem Inv.bk (I : Inv X pins σ H s) : ∀ b o, X.base.get? b = some o → s.heap.get? b = some o := fun b o e => (I.bs b o e).1
theorem Inv.mod (I : Inv X pins σ H s) : Mod X.K X.mg X.base := I.ok.mod
theorem Inv.kIn (I : Inv X pins σ H s) : X.K.In s.heap := I.ok.mod.kin.keeps I.bk
theorem Inv.lt (I : Inv X pins σ H s) : X.env.locals < s.heap.objs.size := let ⟨_, hn, _⟩ := I.loc; hn.lt
theorem Inv.sz (I : Inv X pins σ H s) : X.s₀.heap.objs.size ≤ s.heap.objs.size := Nat.le_trans I.ok.above (Nat.le_of_lt I.lt)
theorem Inv.nofs (I : Inv X pins σ H s) {a : Addr} (h : s.heap.objs.size ≤ a) : a ∉ X.fs := fun hb => by
  obtain ⟨_, o, ho, _⟩ := I.ok.funs.mem hb
  exact absurd (Nat.lt_of_lt_of_le (Heap.lt_size ho) (Nat.le_trans I.sz h)) (Nat.lt_irrefl _)
theorem Inv.cne (I : Inv X pins σ H s) : ∀ x c, X.env.cells.lookup x = some c → c ≠ X.env.locals := fun x c e z => by
  obtain ⟨v, o, ho, hd⟩ := I.cell x c e
  obtain ⟨m, ⟨o', es, ep, ho', hd', _⟩, _⟩ := I.loc
  rw [z, ho'] at ho; cases ho; rw [hd'] at hd; cases hd
theorem Inv.funs (I : Inv X pins σ H s) : s.heap.FunFrames X.base X.outer := by
  have all : ∀ (l : List Env), (∀ b ∈ frs l, b ∈ X.fs) → X.s₀.heap.FunFrames X.base l → s.heap.FunFrames X.base l := by
    intro l
    induction l with
    | nil => intro _ _; trivial
    | cons env r ih =>
      intro hs hl
      obtain ⟨hk, ⟨L, o, hf, hn, ho, hd⟩, hr⟩ := hl
      have hL : L ∈ X.fs := hs L (by unfold frs; rw [List.filterMap_cons, hf]; exact List.mem_cons_self)
      obtain ⟨sl, e⟩ := I.base.slot L o ho (I.ok.frf L hL) hL fun z => I.ok.exfs L z hL
      exact ⟨hk, ⟨L, _, hf, hn, e, hd⟩, ih (fun b hb => hs b (by unfold frs; rw [List.filterMap_cons, hf]; exact List.mem_cons_of_mem _ hb)) hr⟩
  exact all X.outer (fun _ hb => hb) I.ok.funs

/-- the frames that run, for a call -/
theorem Inv.stack (I : Inv X pins σ H s) : s.heap.FunFrames X.base X.stack := by
  rcases I.ok.stk with e | ⟨e, hf⟩
  · rw [e]; exact I.funs
  · rw [e]
    obtain ⟨m, hn, _⟩ := I.loc
    refine .cons (by rw [I.ok.kind]; decide) hf hn ?_ I.funs
    exact Heap.get?_none_of_le (Nat.le_trans I.ok.bsz I.ok.above)
theorem Inv.stkSub (I : Inv X pins σ H s) : ∀ b ∈ frs X.stack, b ∈ X.env.locals :: X.fs := fun b hb => by
  rcases I.ok.stk with e | ⟨e, hf⟩
  · rw [e] at hb; exact List.mem_cons_of_mem _ hb
  · rw [e] at hb
    unfold frs at hb
    rw [List.filterMap_cons, hf] at hb
    exact hb
theorem Inv.stkFree (I : Inv X pins σ H s) : ∀ b ∈ frs X.stack, H b = none := fun b hb => by
  rcases List.mem_cons.mp (I.stkSub b hb) with e | hb
  · rw [e]; exact I.free
  · obtain ⟨_, o, ho, _⟩ := I.ok.funs.mem hb
    exact I.base.free b o ho (I.ok.frf b hb) fun z => I.ok.exfs b z hb

/-- THE STEP: the untracked objects but the frame and the records at ch are kept (the callers' frames up to slots), the frame's map is kept, the new abstract heap is held -/
theorem Inv.step {g' : Array GenState} {t' : Nat} {d' : Drawn} {ch : List Addr} (I : Inv X pins σ H s)
    (hch : ∀ b ∈ ch, (b ∈ X.ex ∨ X.s₀.heap.objs.size ≤ b) ∧ b ≠ X.env.locals ∧ (∀ x c, X.env.cells.lookup x = some c → c ≠ b) ∧ ∀ p ∈ X.pn ++ pins, p.1 ≠ b)
    (keep : ∀ b o, b ≠ X.env.locals → b ∉ X.fs → b ∉ ch → s.heap.get? b = some o → H b = none → h'.get? b = some o)
    (slot : ∀ b o, b ≠ X.env.locals → b ∈ X.fs → b ∉ ch → s.heap.get? b = some o → H b = none → ∃ sl, h'.get? b = some { o with slots := sl }) (free : ∀ b o, b ∉ ch → s.heap.get? b = some o → H b = none → H' b = none)
    (there : ∀ b o, b ∉ ch → s.heap.get? b = some o → ∃ o', h'.get? b = some o')
    (tups : ∀ b xs, H b = some (.tup xs) → H' b = some (.tup xs)) (frzs : ∀ b o u, H b = some (.frz o u) → H' b = some (.frz o u)) (tbls : ∀ b ps, H b = some (.tbl ps) → ∃ more, H' b = some (.tbl (ps ++ more)))
    (ns : ∀ m, s.heap.Ns X.env.locals m → h'.Ns X.env.locals m) (hok : HOk X.prog X.w H' h') (hg : AllBare g') :
    Inv X pins σ H' { s with heap := h', gens := g', drawn := d', toks := t' } := by
  have neL : ∀ b o, X.s₀.heap.get? b = some o → b ≠ X.env.locals := fun b o e => Nat.ne_of_lt (Nat.lt_of_lt_of_le (Heap.lt_size e) I.ok.above)
  have neC : ∀ b o, X.s₀.heap.get? b = some o → b ∉ X.ex → b ∉ ch := fun b o e hx hb => by
    rcases (hch b hb).1 with z | z
    · exact hx z
    · exact absurd (Nat.lt_of_lt_of_le (Heap.lt_size e) z) (Nat.lt_irrefl _)
  have cellK : ∀ x c, X.env.cells.lookup x = some c → ∀ v, s.heap.IsCell c v → h'.IsCell c v := fun x c e v ⟨o, ho, hd⟩ => by
    have nch : c ∉ ch := fun z => (hch c z).2.2.1 x c e rfl
    by_cases hc : c ∈ X.fs
    · obtain ⟨sl, q⟩ := slot c o (I.cne x c e) hc nch ho (I.freeC x c e)
      exact ⟨_, q, hd⟩
    · exact ⟨o, keep c o (I.cne x c e) hc nch ho (I.freeC x c e), hd⟩
  refine ⟨I.ok, I.os, hg, ⟨fun b o e n hb hx => ?_, fun b o e n hb hx => ?_, fun b o e n hx => ?_, fun b o e hx => ?_, fun b xs e => tups b xs (I.base.tups b xs e), fun b o xs e => frzs b o xs (I.base.frzs b o xs e), fun b ps e => ?_⟩, ?_, fun x c e => ?_, ?_, fun x c e => ?_, fun p hp => ?_, hok, I.len⟩
  · exact keep b o (neL b o e) hb (neC b o e hx) (I.base.keep b o e n hb hx) (I.base.free b o e n hx)
  · obtain ⟨sl, e1⟩ := I.base.slot b o e n hb hx
    obtain ⟨sl', e2⟩ := slot b _ (neL b o e) hb (neC b o e hx) e1 (I.base.free b o e n hx)
    exact ⟨sl', e2⟩
  · obtain ⟨o', e1⟩ := I.base.there b o e hx
    exact free b o' (neC b o e hx) e1 (I.base.free b o e n hx)
  · obtain ⟨o', e1⟩ := I.base.there b o e hx
    exact there b o' (neC b o e hx) e1
  · obtain ⟨m1, e1⟩ := I.base.tbls b ps e
    obtain ⟨m2, e2⟩ := tbls b _ e1
    exact ⟨m1 ++ m2, by rw [e2, Array.append_assoc]⟩
  · obtain ⟨m, hn, hl⟩ := I.loc
    refine ⟨m, ns m hn, fun i x v e1 e2 e3 => ?_⟩
    obtain ⟨u, r, l⟩ := hl i x v e1 e2 e3
    refine ⟨u, r, ?_⟩
    rcases l with l | ⟨k, c, e, z⟩
    · exact .inl l
    · exact .inr ⟨k, c, e, cellK x c e _ z⟩
  · obtain ⟨v, z⟩ := I.cell x c e
    exact ⟨v, cellK x c e v z⟩
  · obtain ⟨m, ⟨o, _, _, ho, _⟩, _⟩ := I.loc
    exact free _ o (fun z => (hch _ z).2.1 rfl) ho I.free
  · obtain ⟨v, o, ho, hd⟩ := I.cell x c e
    exact free c o (fun z => (hch c z).2.2.1 x c e rfl) ho (I.freeC x c e)
  · obtain ⟨e, n, ne, nf, d⟩ := I.pin p hp
    have nch : p.1 ∉ ch := fun z => (hch p.1 z).2.2.2 p hp rfl
    exact ⟨keep p.1 p.2 ne nf nch e n, free p.1 p.2 nch e n, ne, nf, d⟩
/-- .. where the frame's own object is kept too -/
theorem Inv.un {t' : Nat} (I : Inv X pins σ H s) (u : Un X.fs [] H H' s.heap h') (hok : HOk X.prog X.w H' h') : Inv X pins σ H' { s with heap := h', toks := t' } := by
  obtain ⟨m, ⟨o, es, ep, ho, r⟩, _⟩ := id I.loc
  obtain ⟨sl, hL⟩ := u.any ho I.free (by simp)
  exact I.step (g' := s.gens) (d' := s.drawn) (ch := []) (fun _ z => nomatch z) (fun b o _ hb _ e n => u.keep b o e n hb (by simp)) (fun b o _ hb _ e n => u.slot b o e n hb (by simp)) (fun b o _ e n => u.free b o e n (by simp)) (fun b o _ e => u.there b o e (by simp)) u.tups u.frzs u.tbls (fun m' hm => by
    obtain ⟨o', es', ep', ho', r'⟩ := hm
    rw [ho] at ho'; cases ho'
    exact ⟨_, es', ep', hL, r'⟩) hok I.bare
/-- behind a call (or a comprehension's block): the slots of this frame may have changed too, the records at ch may have turned -/
theorem Inv.call {g' : Array GenState} {t' : Nat} {d' : Drawn} {ch : List Addr} (I : Inv X pins σ H s) (u : Un (frs X.stack) ch H H' s.heap h') (hok : HOk X.prog X.w H' h') (hg : AllBare g')
    (hch : ∀ b ∈ ch, (b ∈ X.ex ∨ X.s₀.heap.objs.size ≤ b) ∧ b ≠ X.env.locals ∧ (∀ x c, X.env.cells.lookup x = some c → c ≠ b) ∧ ∀ p ∈ X.pn ++ pins, p.1 ≠ b) :
    Inv X pins σ H' { s with heap := h', gens := g', drawn := d', toks := t' } := by
  obtain ⟨m, ⟨o, es, ep, ho, r⟩, _⟩ := id I.loc
  obtain ⟨sl, hL⟩ := u.any ho I.free fun z => (hch _ z).2.1 rfl
  exact I.step (ch := ch) hch (fun b o hL hb hc e n => u.keep b o e n (fun z => (List.mem_cons.mp (I.stkSub b z)).elim hL hb) hc) (fun b o _ _ hc e n => u.any e n hc) (fun b o hc e n => u.free b o e n hc) (fun b o hc e => u.there b o e hc) u.tups u.frzs u.tbls (fun m' hm => by
    obtain ⟨o', es', ep', ho', r'⟩ := hm
    rw [ho] at ho'; cases ho'
    exact ⟨_, es', ep', hL, r'⟩) hok hg
/-- an untracked record of ours (an iterator) has turned -/
theorem Inv.turned {t' : Nat} {it : Addr} (I : Inv X pins σ H s) (k : ∀ b o, b ≠ it → s.heap.get? b = some o → h'.get? b = some o) (hn : H it = none) (hL : it ≠ X.env.locals)
    (h1 : it ∈ X.ex ∨ X.s₀.heap.objs.size ≤ it) (h2 : ∀ x c, X.env.cells.lookup x = some c → c ≠ it) (h3 : ∀ p ∈ X.pn ++ pins, p.1 ≠ it) : Inv X pins σ H { s with heap := h', toks := t' } := by
  have nit : ∀ b u, H b = some u → b ≠ it := fun b u e z => by rw [z, hn] at e; cases e
  refine I.step (g' := s.gens) (d' := s.drawn) (ch := [it]) (fun b hb => ?_) (fun b o _ _ hc e _ => k b o (fun z => hc (by simp [z])) e) (fun b o _ _ hc e _ => ⟨o.slots, k b o (fun z => hc (by simp [z])) e⟩) (fun _ _ _ _ n => n)
    (fun b o hc e => ⟨o, k b o (fun z => hc (by simp [z])) e⟩) (fun _ _ e => e) (fun _ _ _ e => e) (fun b ps e => ⟨#[], by rw [e]; simp⟩) (fun m hm => ?_) (fun b u e => ?_) I.bare
  · have e : b = it := by simpa using hb
    subst e
    exact ⟨h1, hL, h2, h3⟩
  · obtain ⟨o, es, ep, ho, r⟩ := hm
    exact ⟨o, es, ep, k _ o (Ne.symm hL) ho, r⟩
  · refine (I.hok b u e).stay (fun c v hc q => k c v ?_ q) (fun _ q => q) fun _ _ q => q
    rcases hc with z | z
    · rw [z]; exact nit b u e
    · exact nit c _ z
theorem Inv.tok (I : Inv X pins σ H s) (t : Nat) : Inv X pins σ H { s with toks := t } := I.un (h' := s.heap) (t' := t) Un.refl I.hok
/-- all objects kept -/
theorem Inv.kept {t' : Nat} (I : Inv X pins σ H s) (k : ∀ b u, s.heap.get? b = some u → h'.get? b = some u) : Inv X pins σ H { s with heap := h', toks := t' } := I.un (Un.kept k) (I.hok.kept k)
/-- a new object laid and tracked -/
theorem Inv.laid {a : Addr} {o : HO} {t' : Nat} (I : Inv X pins σ H s) (k : ∀ b u, s.heap.get? b = some u → h'.get? b = some u) (hp : s.heap.objs.size ≤ a) (new : ObjOk X.prog X.w (upd H a o) h' a o) :
    Inv X pins σ (upd H a o) { s with heap := h', toks := t' } := I.un (Un.laid k hp (I.hok.fresh hp)) (I.hok.laid k hp new)
/-- an object written -/
theorem Inv.write {x e : Addr} {o : HO} {t' : Nat} (I : Inv X pins σ H s) (mu : Mut (H x)) (he : e = x ∨ H e = some (.own x)) (k : ∀ b u, b ≠ e → s.heap.get? b = some u → h'.get? b = some u) (heo : ∃ u, h'.get? e = some u)
    (new : ObjOk X.prog X.w (upd H x o) h' x o) : Inv X pins σ (upd H x o) { s with heap := h', toks := t' } := I.un (Un.write mu he k heo) (I.hok.write mu he k heo new)
theorem Inv.pins_of {pins' : List (Addr × Obj)} (I : Inv X pins σ H s) (h : ∀ p ∈ pins', s.heap.get? p.1 = some p.2 ∧ H p.1 = none ∧ p.1 ≠ X.env.locals ∧ p.1 ∉ X.fs ∧ ∀ v, p.2.data ≠ .cell v) : Inv X pins' σ H s :=
  ⟨I.ok, I.os, I.bare, I.base, I.loc, I.cell, I.free, I.freeC, fun p hp => (List.mem_append.mp hp).elim (fun z => I.pin p (List.mem_append_left _ z)) (h p), I.hok, I.len⟩

theorem nodup_ix {N : List Str} (hN : N.Nodup) {i j : Nat} {x : Str} (a : N[i]? = some x) (b : N[j]? = some x) : i = j := by
  obtain ⟨h1, e1⟩ := List.getElem?_eq_some_iff.mp a
  obtain ⟨h2, e2⟩ := List.getElem?_eq_some_iff.mp b
  exact (List.getElem_inj hN).mp (e1.trans e2.symm)

/-- a name is stored; what changed -/
theorem store_ok2 {M : Model} {A : Around} {E : Value → Shared → Prop} {i : Nat} {x : Str} {v : V} {u : Value} {Q : Unit → Shared → Prop} (I : Inv X pins σ H s) (hN : X.N.Nodup) (hi : X.N[i]? = some x) (hx : Loc X.env.scope x) (r : RelV v u)
    (h : ∀ s', Inv X pins (σ.set i (some v)) H s' → (∃ a, Heap.SameBut a s.heap s'.heap ∧ (a = X.env.locals ∨ X.env.cells.lookup x = some a)) → Q () s') (hf : X.fn x = true ∨ X.env.scope.names.lookup x = some .local := by first | exact .inl rfl | exact .inr rfl | assumption) : wpAny M A (storeName X.env x u) Q E s := by
  obtain ⟨m, hn, hl⟩ := id I.loc
  have hcls : (X.env.scope.kind == .class || (X.env.scope.kind == .module && X.env.locals != X.env.globals)) = false := by rw [I.ok.kind]; rfl
  have hiσ : i < σ.length := by rw [I.len]; exact (List.getElem?_eq_some_iff.mp hi).1
  have cne := I.cne
  have tracked : ∀ {a : Addr} {h' : Heap}, (∃ o, s.heap.get? a = some o ∧ H a = none) → Heap.SameBut a s.heap h' → HOk X.prog X.w H h' := fun {a h'} ha hs b ob e => by
    obtain ⟨_, _, hfree⟩ := ha
    refine (I.hok b ob e).stay (fun c w' hc q => (hs.2 c ?_).trans q) (fun _ q => q) fun _ _ q => q
    rintro rfl
    rcases hc with rfl | hc
    · rw [hfree] at e; cases e
    · rw [hfree] at hc; cases hc
  rcases hx with hk | hk
  · refine wpAny_storeName_local hk hn (fun h' hn' hs => ?_) hcls
    obtain ⟨oL, _, _, hoL, _⟩ := id hn
    refine h _ ⟨I.ok, I.os, I.bare, ⟨fun b o e n hb hx => ?_, fun b o e n hb hx => ?_, I.base.free, fun b o e hx => ?_, I.base.tups, I.base.frzs, I.base.tbls⟩, ⟨_, hn', fun j y v' e1 e2 e3 => ?_⟩, fun y c e => ?_, I.free, I.freeC, fun p hp => ?_, tracked ⟨oL, hoL, I.free⟩ hs, by simpa using I.len⟩ ⟨_, hs, .inl rfl⟩
    · exact (hs.2 b (Nat.ne_of_lt (Nat.lt_of_lt_of_le (Heap.lt_size e) I.ok.above))).trans (I.base.keep b o e n hb hx)
    · obtain ⟨sl, e1⟩ := I.base.slot b o e n hb hx
      exact ⟨sl, (hs.2 b (Nat.ne_of_lt (Nat.lt_of_lt_of_le (Heap.lt_size e) I.ok.above))).trans e1⟩
    · obtain ⟨o', e1⟩ := I.base.there b o e hx
      exact ⟨o', (hs.2 b (Nat.ne_of_lt (Nat.lt_of_lt_of_le (Heap.lt_size e) I.ok.above))).trans e1⟩
    · by_cases hj : j = i
      · subst hj
        rw [hi] at e1; cases e1
        rw [List.getElem?_set_self hiσ] at e2
        cases e2
        exact ⟨u, r, .inl ⟨hk, by simp⟩⟩
      · rw [List.getElem?_set_ne (Ne.symm hj)] at e2
        obtain ⟨u', r', q⟩ := hl j y v' e1 e2 e3
        refine ⟨u', r', ?_⟩
        rcases q with ⟨k, e⟩ | ⟨k, c, e, z⟩
        · refine .inl ⟨k, ?_⟩
          have : y ≠ x := fun e => hj (nodup_ix hN e1 (e ▸ hi))
          simp [this, e]
        · exact .inr ⟨k, c, e, z.sameBut hs (cne y c e)⟩
    · obtain ⟨w', z⟩ := I.cell y c e
      exact ⟨w', z.sameBut hs (cne y c e)⟩
    · obtain ⟨e, n, ne, nf, d⟩ := I.pin p hp
      exact ⟨(hs.2 p.1 ne).trans e, n, ne, nf, d⟩
  · have hfn : X.fn x = true := by
      rcases hf with z | z
      · exact z
      · rw [z] at hk; cases hk
    obtain ⟨c, hc⟩ := I.ok.has x (.inl hk)
    obtain ⟨w', z⟩ := I.cell x c hc
    refine wpAny_storeName_cell I.ok.kind hk hc z (fun h' hc' hs => ?_)
    obtain ⟨oc, hoc, hocd⟩ := id z
    refine h { s with heap := h' } ⟨I.ok, I.os, I.bare, ⟨fun b o e n hb hx => ?_, fun b o e n hb hx => ?_, I.base.free, fun b o e hx => ?_, I.base.tups, I.base.frzs, I.base.tbls⟩, ⟨m, hn.sameBut hs (Ne.symm (cne x c hc)), fun j y v' e1 e2 e3 => ?_⟩, fun y c' e => ?_, I.free, I.freeC, fun p hp => ?_, tracked ⟨oc, hoc, I.freeC x c hc⟩ hs, by simpa using I.len⟩ ⟨c, hs, .inr hc⟩
    · exact (hs.2 b (Nat.ne_of_lt (Nat.lt_of_lt_of_le (Heap.lt_size e) (I.ok.cab x c hfn hc)))).trans (I.base.keep b o e n hb hx)
    · obtain ⟨sl, e1⟩ := I.base.slot b o e n hb hx
      exact ⟨sl, (hs.2 b (Nat.ne_of_lt (Nat.lt_of_lt_of_le (Heap.lt_size e) (I.ok.cab x c hfn hc)))).trans e1⟩
    · obtain ⟨o', e1⟩ := I.base.there b o e hx
      exact ⟨o', (hs.2 b (Nat.ne_of_lt (Nat.lt_of_lt_of_le (Heap.lt_size e) (I.ok.cab x c hfn hc)))).trans e1⟩
    · by_cases hj : j = i
      · subst hj
        rw [hi] at e1; cases e1
        rw [List.getElem?_set_self hiσ] at e2
        cases e2
        exact ⟨u, r, .inr ⟨.inl hk, c, hc, hc'⟩⟩
      · rw [List.getElem?_set_ne (Ne.symm hj)] at e2
        obtain ⟨u', r', q⟩ := hl j y v' e1 e2 e3
        refine ⟨u', r', ?_⟩
        rcases q with q | ⟨k, c', e, z'⟩
        · exact .inl q
        · refine .inr ⟨k, c', e, z'.sameBut hs ?_⟩
          rintro rfl
          exact hj (nodup_ix hN e1 (I.ok.inj _ _ _ e hc ▸ hi))
    · by_cases hcc : c' = c
      · subst hcc; exact ⟨_, hc'⟩
      · obtain ⟨w2, z2⟩ := I.cell y c' e
        exact ⟨w2, z2.sameBut hs hcc⟩
    · obtain ⟨e, n, ne, nf, d⟩ := I.pin p hp
      refine ⟨(hs.2 p.1 ?_).trans e, n, ne, nf, d⟩
      intro q
      rw [q, hoc] at e
      have q' : oc = p.2 := Option.some.inj e
      exact d w' (by rw [← q']; exact hocd)
theorem store_ok {M : Model} {A : Around} {E : Value → Shared → Prop} {i : Nat} {x : Str} {v : V} {u : Value} {Q : Unit → Shared → Prop} (I : Inv X pins σ H s) (hN : X.N.Nodup) (hi : X.N[i]? = some x) (hx : Loc X.env.scope x) (r : RelV v u)
    (h : ∀ s', Inv X pins (σ.set i (some v)) H s' → Q () s') (hf : X.fn x = true ∨ X.env.scope.names.lookup x = some .local := by first | exact .inl rfl | exact .inr rfl | assumption) : wpAny M A (storeName X.env x u) Q E s :=
  store_ok2 I hN hi hx r (fun s' I' _ => h s' I') hf
/-- behind a call or a block, the state as it is -/
theorem Inv.call' {s' : Shared} {ch : List Addr} (I : Inv X pins σ H s) (ho : s'.os = s.os) (u : Un (frs X.stack) ch H H' s.heap s'.heap) (hok : HOk X.prog X.w H' s'.heap) (hg : AllBare s'.gens)
    (hch : ∀ b ∈ ch, (b ∈ X.ex ∨ X.s₀.heap.objs.size ≤ b) ∧ b ≠ X.env.locals ∧ (∀ x c, X.env.cells.lookup x = some c → c ≠ b) ∧ ∀ p ∈ X.pn ++ pins, p.1 ≠ b) : Inv X pins σ H' s' := by
  obtain ⟨h', g', d', t', o'⟩ := s'
  have e : o' = s.os := ho
  subst e
  exact I.call (g' := g') (t' := t') (d' := d') u hok hg hch
end

/-! ### the judgements -/
/-- an exception: its class, its own dict's address (where it has one), the abstract heap behind it -/
abbrev XK := Value → Option Addr → Hp → Prop
abbrev St := List (Option V)
abbrev VK := V → Hp → Prop
/-- an expression's reading; a test's; an argument list's -/
abbrev TE := St → Hp → VK → Prop
abbrev TT := St → Hp → (Bool → Hp → Prop) → Prop
abbrev TA := St → Hp → (List V → Hp → Prop) → Prop
/-- what is wanted behind a statement -/
structure Ends where
  nx : St → Hp → Prop
  rt : VK
  bk : St → Hp → Prop := fun _ _ => False
  ct : St → Hp → Prop := fun _ _ => False
abbrev TS := Ends → St → Hp → Prop

def EP (X : Cx) (pins : List (Addr × Obj)) (σ : St) (Q : VK) (u : Value) (s' : Shared) : Prop := ∃ v H', Inv X pins σ H' s' ∧ RelV v u ∧ Q v H'
def TP (X : Cx) (pins : List (Addr × Obj)) (σ : St) (Q : Bool → Hp → Prop) (b : Bool) (s' : Shared) : Prop := ∃ H', Inv X pins σ H' s' ∧ Q b H'
def AP (X : Cx) (pins : List (Addr × Obj)) (σ : St) (Q : List V → Hp → Prop) (us : List Value) (s' : Shared) : Prop := ∃ vs H', Inv X pins σ H' s' ∧ Vals vs us ∧ Q vs H'
def SP (X : Cx) (pins : List (Addr × Obj)) (D : Ends) (f : Flow) (s' : Shared) : Prop :=
  match f with
  | .next => ∃ σ' H', Inv X pins σ' H' s' ∧ D.nx σ' H'
  | .brk => ∃ σ' H', Inv X pins σ' H' s' ∧ D.bk σ' H'
  | .cont => ∃ σ' H', Inv X pins σ' H' s' ∧ D.ct σ' H'
  | .ret u => ∃ v σ' H', Inv X pins σ' H' s' ∧ RelV v u ∧ D.rt v H'

def PE (X : Cx) (e : Expr) (t : TE) : Prop :=
  ∀ (pins : List (Addr × Obj)) (s : Shared) (σ : St) (H : Hp) (Q : VK), Inv X pins σ H s → t σ H Q → wpAny (model X.prog X.w) X.A (eval e X.env) (EP X pins σ Q) X.xe s
def PT (X : Cx) (e : Expr) (t : TT) : Prop :=
  ∀ (pins : List (Addr × Obj)) (s : Shared) (σ : St) (H : Hp) (Q : Bool → Hp → Prop), Inv X pins σ H s → t σ H Q → wpAny (model X.prog X.w) X.A (isTrue e X.env (eval e X.env)) (TP X pins σ Q) X.xe s
/-- a test whatever its 'whole' is (and, or) -/
def PW (X : Cx) (e : Expr) (t : TT) : Prop :=
  ∀ (whole : Sem Value) (pins : List (Addr × Obj)) (s : Shared) (σ : St) (H : Hp) (Q : Bool → Hp → Prop), Inv X pins σ H s → t σ H Q → wpAny (model X.prog X.w) X.A (isTrue e X.env whole) (TP X pins σ Q) X.xe s
theorem PW.pt {X : Cx} {e : Expr} {t : TT} (h : PW X e t) : PT X e t := h _
/-- an argument list (no star), from the left -/
def PA (X : Cx) (es : List Expr) (t : TA) : Prop :=
  ∀ (pos : Pos) (pins : List (Addr × Obj)) (s : Shared) (σ : St) (H : Hp) (Q : List V → Hp → Prop), Inv X pins σ H s → t σ H Q → wpAny (model X.prog X.w) X.A (spliced (backTo pos (starEach es X.env))) (AP X pins σ Q) X.xe s
def PS (X : Cx) (st : Stmt) (t : TS) : Prop :=
  ∀ (pins : List (Addr × Obj)) (s : Shared) (σ : St) (H : Hp) (D : Ends), Inv X pins σ H s → t D σ H → wpAny (model X.prog X.w) X.A (exec st X.env) (SP X pins D) X.xe s
def PSs (X : Cx) (st : List Stmt) (t : TS) : Prop :=
  ∀ (pins : List (Addr × Obj)) (s : Shared) (σ : St) (H : Hp) (D : Ends), Inv X pins σ H s → t D σ H → wpAny (model X.prog X.w) X.A (execs st X.env) (SP X pins D) X.xe s
/-- weaken the end -/
theorem thn {α : Type} {t : Sem α} {Q Q' : α → Shared → Prop} {M : Model} {A : Around} {E : Value → Shared → Prop} {s : Shared} (h : wpAny M A t Q E s) (hQ : ∀ a s, Q a s → Q' a s) : wpAny M A t Q' E s := wpAny_mono h hQ fun _ _ x => x
end L2

namespace L2
open PySem PySem.Spec PyProof.Rows
section
variable {X : Cx}


/-! ### names and constants -/
def tVar (i : Nat) : TE := fun σ H Q => ∃ v, σ[i]? = some (some v) ∧ Q v H
def tC (v : V) : TE := fun _ H Q => Q v H
theorem pe_var {i : Nat} {x : Str} {pos : Pos} (hN : X.N[i]? = some x) (hv : Vis X.env.scope x) (hd : (x == ("__debug__" : Str)) = false := by decide) (hcd : (x == ("__classdict__" : Str)) = false := by decide) : PE X (.Name x pos) (tVar i) := by
  intro pins s σ H Q I h
  obtain ⟨v, e, h⟩ := h
  obtain ⟨m, hn, hl⟩ := I.loc
  obtain ⟨u, r, l⟩ := hl i x v hN e hv
  have fin : EP X pins σ Q u s := ⟨v, H, I, r, h⟩
  rcases l with ⟨hk, hm⟩ | ⟨hk, c, hc, hcell⟩
  · exact wpAny_Name (wpAny_loadName_local I.ok.kind hk hn hm fin) hd
  · rcases hk with hk | hk
    · exact wpAny_Name (wpAny_loadName_cell I.ok.kind hk hc hcell fin) hd
    · exact wpAny_Name (wpAny_loadName_free I.ok.kind hk hc hcell fin hcd) hd
theorem pe_int {i j pos} : PE X (.Constant (.int i) j pos) (tC (.int i)) := fun _ _ _ H _ I h => wpAny_Constant_int ⟨.int i, H, I.tok _, ⟨_, rfl⟩, h⟩
theorem pe_bl {b j pos} : PE X (.Constant (.bool b) j pos) (tC (.bl b)) := fun _ _ _ H _ I h => Constant_bool ⟨.bl b, H, I, rfl, h⟩
theorem pe_non {j pos} : PE X (.Constant .none j pos) (tC .non) := fun _ _ _ H _ I h => Constant_none ⟨.non, H, I, rfl, h⟩
theorem pe_str {x j pos} : PE X (.Constant (.str x) j pos) (tC (.str x)) := fun _ _ _ H _ I h => Calls.Constant_str ⟨.str x, H, I.tok _, ⟨_, rfl⟩, h⟩

/-- a global name of the def -/
def Gl (X : Cx) (x : Str) : Prop := X.env.kindOf x = some .globalImplicit
theorem ld_glob {E : Value → Shared → Prop} {pins : List (Addr × Obj)} {s : Shared} {σ : St} {H : Hp} {x : Str} {u : Value} {pos : Pos} {Q : Value → Shared → Prop} (I : Inv X pins σ H s) (hg : Gl X x) (hm : X.mg x = some u) (h : Q u s)
    (hd : (x == ("__debug__" : Str)) = false := by decide) : wpAny (model X.prog X.w) X.A (eval (.Name x pos) X.env) Q E s :=
  Calls.Name_function_global I.ok.kind hg (Calls.loadGlobal_global (by rw [I.ok.glob]; exact I.mod.glob.keeps I.bk) hm h) hd
theorem ld_blt {E : Value → Shared → Prop} {pins : List (Addr × Obj)} {s : Shared} {σ : St} {H : Hp} {x : Str} {u : Value} {pos : Pos} {Q : Value → Shared → Prop} (I : Inv X pins σ H s) (hg : Gl X x) (hm : X.mg x = none) (hv : bootBuiltins x = some u) (h : Q u s)
    (hn : x ≠ "__name__" := by decide) (hd : (x == ("__debug__" : Str)) = false := by decide) : wpAny (model X.prog X.w) X.A (eval (.Name x pos) X.env) Q E s := by
  obtain ⟨mb, h1, h2⟩ := I.mod.blt
  exact Calls.Name_function_global I.ok.kind hg (Calls.loadGlobal_builtin (by rw [I.ok.glob]; exact I.mod.glob.keeps I.bk) hm (by rw [I.ok.blt]; exact h1.keeps I.bk) ((h2 x hn).trans hv) h) hd
/-- a module's constant, a class, a function, as a value -/
theorem pe_glob {x : Str} {v : V} {u : Value} {pos : Pos} (hg : Gl X x) (hm : X.mg x = some u) (r : RelV v u) (hd : (x == ("__debug__" : Str)) = false := by decide) : PE X (.Name x pos) (tC v) :=
  fun _ _ _ H _ I h => ld_glob I hg hm ⟨v, H, I, r, h⟩ hd
theorem pe_bltn {x : Str} {v : V} {u : Value} {pos : Pos} (hg : Gl X x) (hm : X.mg x = none) (hv : bootBuiltins x = some u) (r : RelV v u) (hn : x ≠ "__name__" := by decide) (hd : (x == ("__debug__" : Str)) = false := by decide) : PE X (.Name x pos) (tC v) :=
  fun _ _ _ H _ I h => ld_blt I hg hm hv ⟨v, H, I, r, h⟩ hn hd

/-! ### arithmetic -/
variable {a b : Expr} {ta tb : TE} {pos : Pos}

/-! ### comparisons -/
/-- a comparison as a value, as a test -/
def tB (t : TE) : TT := fun σ H Q => t σ H fun x H1 => ∃ c, x = .bl c ∧ Q c H1
/-- an expression whose value is a bool, as a test -/
theorem pt_val {e : Expr} {t : TE} (h : PE X e t) (he : ∀ whole, isTrue e X.env whole = (do let v ← whole; standAt e.pos; holding [v] (truthy v)) := by intro _; rfl) : PT X e (tB t) := by
  intro pins s σ H Q I hw
  refine isTrue_plain (thn (h pins s σ H _ I hw) fun v s1 ⟨x, H1, I1, r1, q1⟩ => ?_) (he _)
  obtain ⟨d, rfl, q⟩ := q1
  cases r1
  exact wpAny_truthy_bool ⟨H1, I1, q⟩

/-! ### and, or, not -/
variable {tA tB' : TT} {rest : List Expr}
def tAnd (t u : TT) : TT := fun σ H Q => t σ H fun c H1 => if c = true then u σ H1 Q else Q false H1
def tOr (t u : TT) : TT := fun σ H Q => t σ H fun c H1 => if c = true then Q true H1 else u σ H1 Q
def tNot (t : TT) : TT := fun σ H Q => t σ H fun c H1 => Q (!c) H1
theorem pw_and1 (ha : PT X a tA) : PW X (.BoolOp .And [a] pos) tA := by
  intro wh pins s σ H Q I h
  refine isTrue_and (thn (ha pins s σ H Q I h) fun c s1 e => ?_)
  cases c with
  | true => exact isTrue_and_nil e
  | false => exact e
theorem pw_or1 (ha : PT X a tA) : PW X (.BoolOp .Or [a] pos) tA := by
  intro wh pins s σ H Q I h
  refine isTrue_or (thn (ha pins s σ H Q I h) fun c s1 e => ?_)
  cases c with
  | false => exact isTrue_or_nil e
  | true => exact e
theorem pw_and (ha : PT X a tA) (hb : PW X (.BoolOp .And (b :: rest) pos) tB') : PW X (.BoolOp .And (a :: b :: rest) pos) (tAnd tA tB') := by
  intro wh pins s σ H Q I h
  refine isTrue_and (thn (ha pins s σ H _ I h) fun c s1 ⟨H1, I1, q1⟩ => ?_)
  cases c with
  | true => exact hb wh pins s1 σ H1 Q I1 q1
  | false => exact ⟨H1, I1, q1⟩
theorem pw_or (ha : PT X a tA) (hb : PW X (.BoolOp .Or (b :: rest) pos) tB') : PW X (.BoolOp .Or (a :: b :: rest) pos) (tOr tA tB') := by
  intro wh pins s σ H Q I h
  refine isTrue_or (thn (ha pins s σ H _ I h) fun c s1 ⟨H1, I1, q1⟩ => ?_)
  cases c with
  | true => exact ⟨H1, I1, q1⟩
  | false => exact hb wh pins s1 σ H1 Q I1 q1
theorem pt_not (ha : PT X a tA) : PT X (.UnaryOp .Not a pos) (tNot tA) := by
  intro pins s σ H Q I h
  exact isTrue_not (ha pins s σ H (fun c H1 => Q (!c) H1) I h)
/-- .. as values (bools) -/
def tAndV (ta tb : TE) : TE := fun σ H Q => ta σ H fun x H1 => ∃ c, x = .bl c ∧ if c = true then tb σ H1 Q else Q (.bl false) H1
def tNotV (ta : TE) : TE := fun σ H Q => ta σ H fun x H1 => ∃ c, x = .bl c ∧ Q (.bl (!c)) H1
theorem pe_one {op} {t : TE} (h : PE X a t) : PE X (.BoolOp op [a] pos) t := fun pins s σ H Q I hw => BoolOp_one (h pins s σ H Q I hw)
theorem pe_and (ha : PE X a ta) (hb : PE X (.BoolOp .And (b :: rest) pos) tb) : PE X (.BoolOp .And (a :: b :: rest) pos) (tAndV ta tb) := by
  intro pins s σ H Q I h
  refine BoolOp_and (thn (ha pins s σ H _ I h) fun v s1 ⟨x, H1, I1, r1, q1⟩ => ?_)
  obtain ⟨c, rfl, q1⟩ := q1
  cases r1
  refine wpAny_truthy_bool ?_
  cases c with
  | true => exact hb pins s1 σ H1 Q I1 q1
  | false => exact ⟨.bl false, H1, I1, rfl, q1⟩
theorem pe_not (ha : PE X a ta) : PE X (.UnaryOp .Not a pos) (tNotV ta) := by
  intro pins s σ H Q I h
  refine UnaryOp_ (thn (ha pins s σ H _ I h) fun v s1 ⟨x, H1, I1, r1, q1⟩ => ?_)
  obtain ⟨c, rfl, q1⟩ := q1
  cases r1
  exact not_of (wpAny_truthy_bool ⟨.bl (!c), H1, I1, rfl, q1⟩)
end
end L2

namespace L2
open PySem PySem.Spec PyProof.Rows

/-! ### a list, a tuple that is read: tracked, frozen, or an object of the module -/
def SqL (K : PySem.W.Frag) (H : Hp) (a : Addr) (xs : List V) : Prop :=
  Rd H a (.lst xs) ∨
    ∃ (o : Obj) (its : Array Value) (n : Nat), K.lookup a = some o ∧ o.cls = .type "list" ∧ o.dict = none ∧ o.data = .seq its n ∧ its.size ≤ sizeLine ∧ Vals xs its.toList
def SqT (K : PySem.W.Frag) (H : Hp) (a : Addr) (xs : List V) : Prop :=
  Rd H a (.tup xs) ∨
    ∃ (o : Obj) (its : Array Value) (n : Nat), K.lookup a = some o ∧ o.cls = .type "tuple" ∧ o.data = .seq its n ∧ its.size ≤ sizeLine ∧ Vals xs its.toList
def absV : Value → Option V
  | .none => some .non
  | .bool b => some (.bl b)
  | .int i _ => some (.int i)
  | .str x _ => some (.str x)
  | .bytes b _ => some (.byt b)
  | .float b _ => some (.flt b)
  | .ref a => some (.ref a)
  | .type n => some (.ty n)
  | _ => none
theorem RelV.abs {x : V} {u : Value} (r : RelV x u) : absV u = some x := by
  cases x with
  | non => cases r; rfl
  | bl _ => cases r; rfl
  | int _ => obtain ⟨t, rfl⟩ := r; rfl
  | str _ => obtain ⟨t, rfl⟩ := r; rfl
  | byt _ => obtain ⟨t, rfl⟩ := r; rfl
  | flt _ => obtain ⟨t, rfl⟩ := r; rfl
  | ref _ => cases r; rfl
  | ty _ => cases r; rfl
theorem RelV.inj {x y : V} {u : Value} (r : RelV x u) (q : RelV y u) : x = y := Option.some.inj (r.abs.symm.trans q.abs)
theorem Vals.inj : ∀ {xs ys : List V} {us : List Value}, Vals xs us → Vals ys us → xs = ys
  | _, _, _, .nil, .nil => rfl
  | _, _, _, .cons r t, .cons r' t' => by rw [r.inj r', Vals.inj t t']
section
variable {X : Cx} {pins : List (Addr × Obj)} {σ : St} {H : Hp} {s : Shared} {a : Addr} {xs ys : List V}
theorem SqL.of {K : PySem.W.Frag} (h : H a = some (.lst xs)) : SqL K H a xs := .inl (.inl h)
theorem SqT.of {K : PySem.W.Frag} (h : H a = some (.tup xs)) : SqT K H a xs := .inl (.inl h)
theorem Inv.list (I : Inv X pins σ H s) (h : SqL X.K H a xs) : ∃ its : List Value, Vals xs its ∧ PlainL s.heap a its.toArray ∧ xs.length ≤ sizeLine := by
  rcases h with h | ⟨o, its, n, hk, hc, hd, hs, hz, r⟩
  · obtain ⟨z, its, n, r, e⟩ := h.ok I.hok
    exact ⟨its, r, ⟨_, n, e, rfl, rfl, rfl⟩, z⟩
  · refine ⟨its.toList, r, ⟨o, n, I.kIn a o hk, hc, hd, by simpa using hs⟩, ?_⟩
    have e := r.length
    simp only [Array.length_toList] at e
    omega
theorem Inv.tuple (I : Inv X pins σ H s) (h : SqT X.K H a xs) : ∃ its : List Value, Vals xs its ∧ IsTup s.heap a its.toArray ∧ xs.length ≤ sizeLine := by
  rcases h with h | ⟨o, its, n, hk, hc, hs, hz, r⟩
  · obtain ⟨z, its, r, p⟩ := h.ok I.hok
    exact ⟨its, r, p, z⟩
  · refine ⟨its.toList, r, ⟨o, I.kIn a o hk, hc, n, by simpa using hs⟩, ?_⟩
    have e := r.length
    simp only [Array.length_toList] at e
    omega
theorem Inv.list_inj (I : Inv X pins σ H s) (h : SqL X.K H a xs) (h' : SqL X.K H a ys) : xs = ys := by
  obtain ⟨its, r, ⟨o, n, e, _, _, d⟩, _⟩ := I.list h
  obtain ⟨its', r', ⟨o', n', e', _, _, d'⟩, _⟩ := I.list h'
  rw [e] at e'; cases e'
  rw [d] at d'
  injection d' with d1 _
  have : its = its' := by simpa using congrArg Array.toList d1
  subst this
  exact r.inj r'
end

/-! ### another wish about exceptions -/
abbrev Cx.wish (X : Cx) (E : Value → Shared → Prop) : Cx := { X with xe := E }
/-- no exception leaves -/
abbrev Cx.nox (X : Cx) : Cx := X.wish fun _ _ => False
theorem Cx.Ok.wish {X : Cx} (ok : X.Ok) (E : Value → Shared → Prop) : (X.wish E).Ok :=
  ⟨ok.mod, ok.kind, ok.glob, ok.blt, ok.above, ok.inj, ok.has, ok.cab, ok.hd, ok.frames, ok.stk, ok.exf, ok.bs, ok.bsz, ok.noex, ok.exfs, ok.funs, ok.frf⟩
theorem Cx.Ok.unwish {X : Cx} {E : Value → Shared → Prop} (ok : (X.wish E).Ok) : X.Ok :=
  ⟨ok.mod, ok.kind, ok.glob, ok.blt, ok.above, ok.inj, ok.has, ok.cab, ok.hd, ok.frames, ok.stk, ok.exf, ok.bs, ok.bsz, ok.noex, ok.exfs, ok.funs, ok.frf⟩
section
variable {X : Cx} {pins : List (Addr × Obj)} {σ : St} {H : Hp} {s : Shared} {E : Value → Shared → Prop}
theorem Inv.wish (I : Inv X pins σ H s) (E : Value → Shared → Prop) : Inv (X.wish E) pins σ H s := ⟨I.ok.wish E, I.os, I.bare, I.base, I.loc, I.cell, I.free, I.freeC, I.pin, I.hok, I.len⟩
theorem Inv.unwish (I : Inv (X.wish E) pins σ H s) : Inv X pins σ H s := ⟨I.ok.unwish, I.os, I.bare, I.base, I.loc, I.cell, I.free, I.freeC, I.pin, I.hok, I.len⟩
theorem SP.unwish {D : Ends} {f : Flow} {s' : Shared} (h : SP (X.wish E) pins D f s') : SP X pins D f s' := by
  cases f with
  | next => obtain ⟨σ', H', I, q⟩ := h; exact ⟨σ', H', I.unwish, q⟩
  | brk => obtain ⟨σ', H', I, q⟩ := h; exact ⟨σ', H', I.unwish, q⟩
  | cont => obtain ⟨σ', H', I, q⟩ := h; exact ⟨σ', H', I.unwish, q⟩
  | ret u => obtain ⟨v, σ', H', I, r, q⟩ := h; exact ⟨v, σ', H', I.unwish, r, q⟩
theorem PSs.nox {st : List Stmt} {t : TS} (h : PSs X.nox st t) : PSs X st t := fun pins s σ H D I hw =>
  wpAny_mono (h pins s σ H D (I.wish _) hw) (fun _ _ q => q.unwish) fun _ _ z => False.elim z
end

/-! ### blocks and small statements -/
section
variable {X : Cx} {st : Stmt} {rest : List Stmt} {t u : TS} {e : Expr} {te : TE} {pos : Pos}
def tNext : TS := fun D σ H => D.nx σ H
def tSeq (t u : TS) : TS := fun D σ H => t { D with nx := u D } σ H
theorem pss_nil : PSs X [] tNext := fun _ _ σ H _ I h => wpAny_execs_nil ⟨σ, H, I, h⟩
theorem pss_cons (h1 : PS X st t) (h2 : PSs X rest u) : PSs X (st :: rest) (tSeq t u) := by
  intro pins s σ H D I h
  refine wpAny_execs_cons (thn (h1 pins s σ H { D with nx := u D } I h) fun f s1 q => ?_)
  cases f with
  | next =>
    obtain ⟨σ', H', I', q⟩ := q
    exact h2 pins s1 σ' H' D I' q
  | ret v => exact q
  | brk => exact q
  | cont => exact q
theorem pss_one (h1 : PS X st t) : PSs X [st] t := by
  intro pins s σ H D I h
  refine wpAny_execs_cons (thn (h1 pins s σ H D I h) fun f s1 q => ?_)
  cases f with
  | next => exact wpAny_execs_nil q
  | ret v => exact q
  | brk => exact q
  | cont => exact q
/-- in a def's body nothing is shown -/
theorem Inv.quiet {pins : List (Addr × Obj)} {σ : St} {H : Hp} {s : Shared} (I : Inv X pins σ H s) : interactive X.env = false := by simp [interactive, I.ok.kind]
/-- an expression whose value is dropped -/
def tDrop (te : TE) : TS := fun D σ H => te σ H fun _ H1 => D.nx σ H1
theorem ps_expr (he : PE X e te) (hs : swapsWith e none pos.line X.env = pure false := by rfl) : PS X (.Expr e pos) (tDrop te) := by
  intro pins s σ H D I h
  exact wpAny_Expr_any (thn (he pins s σ H _ I h) fun v s1 ⟨x, H1, I1, r1, q1⟩ => ⟨σ, H1, I1, q1⟩) I.quiet hs
def tRet (te : TE) : TS := fun D σ H => te σ H D.rt
theorem ps_ret (he : PE X e te) : PS X (.Return (some e) pos) (tRet te) := by
  intro pins s σ H D I h
  exact wpAny_Return_some (thn (he pins s σ H _ I h) fun v s1 ⟨x, H1, I1, r1, q1⟩ => ⟨x, σ, H1, I1, r1, q1⟩)
def tIfS (c : TT) (t u : TS) : TS := fun D σ H => c σ H fun b H1 => if b = true then t D σ H1 else u D σ H1
theorem ps_if {c : Expr} {a b : List Stmt} {tc : TT} (hc : PT X c tc) (ha : PSs X a t) (hb : PSs X b u) : PS X (.If c a b pos) (tIfS tc t u) := by
  intro pins s σ H D I h
  refine wpAny_If (thn (hc pins s σ H _ I h) fun d s1 ⟨H1, I1, q1⟩ => ?_)
  cases d with
  | true => exact ha pins s1 σ H1 D I1 q1
  | false => exact hb pins s1 σ H1 D I1 q1
end

/-! ### targets -/
abbrev TG := V → St → Hp → (St → Hp → Prop) → Prop
abbrev TGs := List V → St → Hp → (St → Hp → Prop) → Prop
def PG (X : Cx) (target : Expr) (t : TG) : Prop :=
  ∀ (pins : List (Addr × Obj)) (s : Shared) (σ : St) (H : Hp) (v : V) (u : Value) (Q : St → Hp → Prop), Inv X pins σ H s → RelV v u → t v σ H Q →
    wpAny (model X.prog X.w) X.A (assign target X.env u) (fun _ s' => ∃ σ' H', Inv X pins σ' H' s' ∧ Q σ' H') X.xe s
/-- several targets, one after another -/
def PGs (X : Cx) (ts : List Expr) (t : TGs) : Prop :=
  ∀ (pins : List (Addr × Obj)) (s : Shared) (σ : St) (H : Hp) (vs : List V) (us : List Value) (Q : St → Hp → Prop), Inv X pins σ H s → Vals vs us → t vs σ H Q →
    wpAny (model X.prog X.w) X.A (assignInOrder ((assignEach ts X.env).map (·.2)) us) (fun _ s' => ∃ σ' H', Inv X pins σ' H' s' ∧ Q σ' H') X.xe s
/-- o[i] = v, by values -/
abbrev TSet := V → V → V → Hp → (Hp → Prop) → Prop
def PSet (X : Cx) (t : TSet) : Prop :=
  ∀ (pins : List (Addr × Obj)) (s : Shared) (σ : St) (H : Hp) (o i v : V) (ov iv u : Value) (Q : Hp → Prop), Inv X pins σ H s → RelV o ov → RelV i iv → RelV v u → t o i v H Q →
    wpAny (model X.prog X.w) X.A (setItem ov iv u) (fun _ s' => ∃ H', Inv X pins σ H' s' ∧ Q H') X.xe s
section
variable {X : Cx} {pos : Pos}
def gName (i : Nat) : TG := fun v σ H Q => Q (σ.set i (some v)) H
theorem pg_name {i : Nat} {x : Str} (hN : X.N.Nodup) (hi : X.N[i]? = some x) (hx : Loc X.env.scope x) (hf : X.fn x = true ∨ X.env.scope.names.lookup x = some .local := by first | exact .inl rfl | exact .inr rfl | assumption) : PG X (.Name x pos) (gName i) := by
  intro pins s σ H v u Q I r h
  exact wpAny_assign_Name (store_ok I hN hi hx r (fun s' I' => ⟨_, H, I', h⟩) hf)
def gNil : TGs := fun vs σ H Q => vs = [] ∧ Q σ H
def gCons (t : TG) (u : TGs) : TGs := fun vs σ H Q => ∃ v r, vs = v :: r ∧ t v σ H fun σ' H' => u r σ' H' Q
theorem pgs_nil : PGs X [] gNil := by
  intro pins s σ H vs us Q I r h
  obtain ⟨e, h⟩ := h
  subst e
  cases r
  exact assignInOrder_nil ⟨σ, H, I, h⟩
theorem pgs_cons {e : Expr} {es : List Expr} {t : TG} {u : TGs} (h1 : PG X e t) (h2 : PGs X es u)
    (hs : (assignEach (e :: es) X.env).map (·.2) = assign e X.env :: (assignEach es X.env).map (·.2) := by rfl) : PGs X (e :: es) (gCons t u) := by
  intro pins s σ H vs us Q I r h
  obtain ⟨v, vr, e1, h⟩ := h
  subst e1
  cases r with
  | cons r rr =>
    rw [hs]
    refine assignInOrder_cons (thn (h1 pins s σ H _ _ _ I r h) fun _ s1 ⟨σ1, H1, I1, q1⟩ => ?_)
    exact h2 pins s1 σ1 H1 _ _ Q I1 rr q1
/-- (a, b, ..) = a tuple of that length -/
def gTup (K : PySem.W.Frag) (n : Nat) (t : TGs) : TG := fun v σ H Q => ∃ a xs, v = .ref a ∧ SqT K H a xs ∧ xs.length = n ∧ t xs σ H Q
theorem pg_tup {es : List Expr} {k : Nat} {t : TGs} {n : Nat} (hc : X.calm = true) (h : PGs X es t)
    (hn : (assignEach es X.env).length = n := by rfl) (hst : (assignEach es X.env).findIdx? (·.1) = none := by rfl) : PG X (.Tuple es k pos) (gTup X.K n t) := by
  intro pins s σ H v u Q I r hw
  obtain ⟨a, xs, e1, hq, hl, hw⟩ := hw
  subst e1
  cases r
  obtain ⟨its, rv, ht, hz⟩ := I.tuple hq
  refine assign_Tuple_tuple (I.ok.hd hc) ht (by simp [hn, ← hl, rv.length]) hst fun h' hx => ?_
  have I1 : Inv X pins σ H { s with heap := h' } := I.kept (t' := s.toks) fun b o e => hx b o (Nat.ne_of_lt (Heap.lt_size e)) e
  exact h pins _ σ H xs _ Q I1 (by simpa using rv) hw
/-- o[i] = .. -/
def gSub (to ti : TE) (t : TSet) : TG := fun v σ H Q => to σ H fun o H1 => ti σ H1 fun i H2 => t o i v H2 fun H3 => Q σ H3
theorem pg_sub {o i : Expr} {to ti : TE} {t : TSet} (ho : PE X o to) (hi : PE X i ti) (hs : PSet X t)
    (ha : ∀ v, assign (.Subscript o i pos) X.env v = (do
      let ov ← holding [v] (eval o X.env)
      let iv ← holding [v, ov] (eval i X.env)
      standAt pos
      holding [v, ov, iv] (setItem ov iv v)
      release [v, ov, iv] []) := by intro _; rfl) : PG X (.Subscript o i pos) (gSub to ti t) := by
  intro pins s σ H v u Q I r h
  rw [ha]
  refine wpAny_bind (wpAny_holding (thn (ho pins s σ H _ I h) fun ov s1 ⟨x, H1, I1, r1, q1⟩ => ?_))
  refine wpAny_bind (wpAny_holding (thn (hi pins s1 σ H1 _ I1 q1) fun iv s2 ⟨y, H2, I2, r2, q2⟩ => ?_))
  refine wpAny_bind (wpAny_standAt (wpAny_bind (wpAny_holding (thn (hs pins s2 σ H2 x y v ov iv u _ I2 r1 r2 r q2) fun _ s3 ⟨H3, I3, q3⟩ => ?_))))
  exact wpAny_release ⟨σ, H3, I3, q3⟩
/-- target = value -/
def tAsg (te : TE) (g : TG) : TS := fun D σ H => te σ H fun x H1 => g x σ H1 D.nx
theorem ps_asg {tg e : Expr} {te : TE} {g : TG} (he : PE X e te) (hg : PG X tg g) (hs : swapsWithSole [tg] e pos.line X.env = pure false := by rfl) (hw : swappedStores [tg] e X.env = pure none := by rfl)
    (h1 : (assignEach [tg] X.env).map (·.2) = [assign tg X.env] := by rfl) : PS X (.Assign [tg] e pos) (tAsg te g) := by
  intro pins s σ H D I h
  refine wpAny_Assign_stores (thn (he pins s σ H _ I h) fun v s1 ⟨x, H1, I1, r1, q1⟩ => ?_) hs hw
  rw [h1]
  exact thn (hg pins s1 σ H1 x v _ I1 r1 q1) fun _ s2 q => q
/-- name = value -/
theorem ps_set {i : Nat} {x : Str} {e : Expr} {te : TE} {pos' : Pos} (hN : X.N.Nodup) (hi : X.N[i]? = some x) (hx : Loc X.env.scope x) (he : PE X e te) (hs : swapsWith e (some (.Name x pos')) pos.line X.env = pure false := by rfl) (hf : X.fn x = true ∨ X.env.scope.names.lookup x = some .local := by first | exact .inl rfl | exact .inr rfl | assumption) :
    PS X (.Assign [.Name x pos'] e pos) (tAsg te (gName i)) := by
  intro pins s σ H D I h
  refine wpAny_Assign_Name (thn (he pins s σ H _ I h) fun v s1 ⟨y, H1, I1, r1, q1⟩ => ?_) hs
  exact store_ok I1 hN hi hx r1 (fun s2 I2 => ⟨_, H1, I2, q1⟩) hf
/-- a, b = x, y with plain local names: stored from the right; the pair itself is not tracked (the opening rows as in PyProof/Rows/TupAssign.lean:23) -/
def tPar (i j : Nat) (ta : TA) : TS := fun D σ H => ta σ H fun vs H1 => ∃ v w, vs = [v, w] ∧ D.nx ((σ.set i (some v)).set j (some w)) H1
theorem ps_par {i j : Nat} {x y : Str} {a b : Expr} {ta : TA} {px py pt : Pos} {kt k2 pt2} (hc : X.calm = true) (hN : X.N.Nodup) (hi : X.N[i]? = some x) (hj : X.N[j]? = some y) (hij : i ≠ j)
    (hx : X.env.scope.names.lookup x = some .local) (hy : X.env.scope.names.lookup y = some .local) (ha : PA X [a, b] ta)
    (hw : swappedStores [.Tuple [.Name x px, .Name y py] kt pt] (.Tuple [a, b] k2 pt2) X.env = pure (some [x, y]))
    (hs : swapsWithSole [.Tuple [.Name x px, .Name y py] kt pt] (.Tuple [a, b] k2 pt2) pos.line X.env = pure false := by rfl) :
    PS X (.Assign [.Tuple [.Name x px, .Name y py] kt pt] (.Tuple [a, b] k2 pt2) pos) (tPar i j ta) := by
  intro pins s σ H D I h
  rw [exec_Assign_arm]
  refine wpAny_bind (wpAny_standAt ?_)
  rw [hs]
  refine wpAny_bind (wpAny_pure ?_)
  rw [if_neg (by decide)]
  refine wpAny_bind (Tuple_ (thn (ha _ pins s σ H _ I h) fun us s1 ⟨vs, H1, I1, r1, q1⟩ => ?_))
  obtain ⟨v, w, e1, q1⟩ := q1
  subst e1
  obtain ⟨u1, u2, rfl, rv, rw'⟩ : ∃ u1 u2, us = [u1, u2] ∧ RelV v u1 ∧ RelV w u2 := by
    cases r1 with
    | cons p q =>
      cases q with
      | cons p' q' =>
        cases q'
        exact ⟨_, _, rfl, p, p'⟩
  refine wpAny_newObj_type ?_ (by show 2 ≤ sizeLine; decide)
  have I2 : Inv X pins σ H1 { s1 with heap := s1.heap.push { cls := .type "tuple", data := .seq [u1, u2].toArray } } := I1.kept (t' := s1.toks) fun b o e => Heap.get?_push_of_some _ e
  rw [hw]
  refine wpAny_bind (wpAny_pure ?_)
  show wpAny (model X.prog X.w) X.A (do rule "assign.swapped-stores"; let items ← unpackItems (.ref s1.heap.objs.size) 2 none; assignInOrder [fun v => bindName X.env y v, fun v => bindName X.env x v] items.reverse; pure Flow.next) _ _ _
  refine wpAny_bind (wpAny_rule (wpAny_bind (unpackItems_tuple (items := #[u1, u2]) (I.ok.hd hc) (IsTup.new s1.heap _) fun h' hx' => ?_)))
  have I3 := I2.kept (h' := h') (t' := s1.toks) fun b o e => hx' b o (Nat.ne_of_lt (Heap.lt_size e)) e
  show wpAny _ _ (assignInOrder [fun v => bindName X.env y v, fun v => bindName X.env x v] [u2, u1] >>= fun _ => pure Flow.next) _ _ _
  refine wpAny_bind (assignInOrder_cons (wpAny_bindName (store_ok I3 hN hj (.inl hy) rw' (fun s2 I4 => ?_) (.inr hy))))
  refine assignInOrder_cons (wpAny_bindName (store_ok I4 hN hi (.inl hx) rv (fun s3 I5 => assignInOrder_nil (wpAny_pure ?_)) (.inr hx)))
  rw [List.set_comm _ _ (Ne.symm hij)] at I5
  exact ⟨_, H1, I5, q1⟩
end

/-! ### while -/
section
variable {X : Cx} {pos : Pos}
/-- the invariant W with its measure -/
def tWhile (c : TT) (tb : TS) : TS := fun D σ H => ∃ W : Nat → St → Hp → Prop, (∃ m, W m σ H) ∧ ∀ m σ H, W m σ H →
  c σ H fun b H1 => if b = true then ∃ N : St → Hp → Prop, (∀ σ' H', N σ' H' → ∃ m', m' < m ∧ W m' σ' H') ∧ tb { D with nx := N, ct := N, bk := D.nx } σ H1 else D.nx σ H1
theorem ps_while {c : Expr} {body : List Stmt} {tc : TT} {tb : TS} (hp : PassesOwn (model X.prog X.w) X.A X.env X.xe) (hc : PT X c tc) (hb : PSs X body tb) : PS X (.While c body [] pos) (tWhile tc tb) := by
  intro pins s σ H D I h
  obtain ⟨W, ⟨m0, w0⟩, turn⟩ := h
  refine wpAny_While (codeAny_whileLoop (fun n s' => ∃ σ' H', Inv X pins σ' H' s' ∧ W n σ' H') ?_ m0 ⟨σ, H, I, w0⟩)
  rintro n s1 ⟨σ1, H1, I1, w1⟩
  refine wpAny_passesOwn hp (thn (hc pins s1 σ1 H1 _ I1 (turn n σ1 H1 w1)) fun b s2 ⟨H2, I2, q2⟩ => ?_)
  cases b with
  | true =>
    obtain ⟨N, hN, q2⟩ := q2
    rw [if_pos rfl]
    refine wpAny_passesOwn hp (thn (hb pins s2 σ1 H2 _ I2 q2) fun f s3 q3 => ?_)
    cases f with
    | next =>
      obtain ⟨σ3, H3, I3, n3⟩ := q3
      obtain ⟨m', hm, w3⟩ := hN σ3 H3 n3
      exact ⟨m', hm, σ3, H3, I3, w3⟩
    | cont =>
      obtain ⟨σ3, H3, I3, n3⟩ := q3
      obtain ⟨m', hm, w3⟩ := hN σ3 H3 n3
      exact ⟨m', hm, σ3, H3, I3, w3⟩
    | brk => exact q3
    | ret v => exact q3
  | false =>
    rw [if_neg Bool.false_ne_true]
    exact wpAny_execs_nil ⟨σ1, H2, I2, q2⟩
end

/-! ### what a loop or a comprehension walks -/
/-- at turn i: it yields x (the heap may grow), or it stops -/
structure It where
  go : Nat → Hp → Prop
  yld : Nat → Hp → V → Hp → Prop
  stop : Nat → Hp → Prop
/-- the iterator's own objects may turn: they are not the frame's, not pinned, younger than the entry (or a comprehension's own) -/
def FpOk (X : Cx) (pins : List (Addr × Obj)) (H : Hp) (b : Addr) : Prop :=
  H b = none ∧ b ≠ X.env.locals ∧ b ∉ X.fs ∧ (b ∈ X.ex ∨ X.s₀.heap.objs.size ≤ b) ∧ (∀ x c, X.env.cells.lookup x = some c → c ≠ b) ∧ ∀ p ∈ X.pn ++ pins, p.1 ≠ b
theorem Inv.fpOk {X : Cx} {pins : List (Addr × Obj)} {σ : St} {H H' : Hp} {s : Shared} {b : Addr} (I : Inv X pins σ H s) (hb : s.heap.objs.size ≤ b) (hn : H' b = none) : FpOk X pins H' b := by
  refine ⟨hn, Nat.ne_of_gt (Nat.lt_of_lt_of_le I.lt hb), I.nofs hb, .inr (Nat.le_trans I.sz hb), fun x c e z => ?_, fun p hp z => ?_⟩
  · obtain ⟨v, q⟩ := I.cell x c e
    exact absurd (Nat.lt_of_lt_of_le q.lt (by rw [z]; exact hb)) (Nat.lt_irrefl _)
  · exact absurd (Nat.lt_of_lt_of_le (Heap.lt_size (I.pin p hp).1) (by rw [z]; exact hb)) (Nat.lt_irrefl _)
structure Turn (P : Program) (w : World) (K : PySem.W.Frag) (tg : Expr) (J : It) (fp : List Addr) (it : Addr) (tn : Nat → Heap → Prop) : Prop where
  mem : it ∈ fp
  obj : ∀ i h, tn i h → ∀ b ∈ fp, ∃ o, h.get? b = some o ∧ ∀ v, o.data ≠ .cell v
  keep : ∀ i h h', tn i h → (∀ b ∈ fp, ∀ o, h.get? b = some o → h'.get? b = some o) → tn i h'
  item : ∀ (X : Cx), X.prog = P → X.w = w → X.K = K → X.calm = true → ∀ (i : Nat) (pins : List (Addr × Obj)) (s : Shared) (σ : St) (H : Hp) (E : Value → Shared → Prop), Inv X pins σ H s → (∀ b ∈ fp, FpOk X pins H b) → tn i s.heap → J.go i H →
    wpAny (model P w) X.A (pyNext (.ref it)) (fun r s1 => ∃ u, r = some u ∧
      wpAny (model P w) X.A (letOwnedTupleGo tg (.ref it) u) (fun _ s2 => ∃ x H', Inv X pins σ H' s2 ∧ RelV x u ∧ J.yld i H x H' ∧ tn (i + 1) s2.heap ∧ ∀ b ∈ fp, H' b = none) E s1) E s
  done : ∀ (X : Cx), X.prog = P → X.w = w → X.K = K → X.calm = true → ∀ (i : Nat) (pins : List (Addr × Obj)) (s : Shared) (σ : St) (H : Hp) (E : Value → Shared → Prop), Inv X pins σ H s → (∀ b ∈ fp, FpOk X pins H b) → tn i s.heap → J.stop i H →
    wpAny (model P w) X.A (pyNext (.ref it)) (fun r s1 => r = none ∧ Inv X pins σ H s1) E s
  self : ∀ (A : Around) (i : Nat) (s : Shared) (Q : Value → Shared → Prop) (E : Value → Shared → Prop), tn i s.heap → Q (.ref it) s → wpAny (model P w) A (pyIter (.ref it)) Q E s
abbrev TI := St → Hp → (It → Hp → Prop) → Prop
/-- an iterator has come -/
def PIE (X : Cx) (pins : List (Addr × Obj)) (σ : St) (tg : Expr) (R : It → Hp → Prop) (itv : Value) (s2 : Shared) : Prop :=
  ∃ (it : Addr) (fp : List Addr) (tn : Nat → Heap → Prop) (J : It) (H' : Hp), itv = .ref it ∧ Inv X pins σ H' s2 ∧ Turn X.prog X.w X.K tg J fp it tn ∧ tn 0 s2.heap ∧ (∀ b ∈ fp, FpOk X pins H' b) ∧ R J H'
def PI (X : Cx) (tg iter : Expr) (wi : TI) : Prop :=
  ∀ (pins : List (Addr × Obj)) (s : Shared) (σ : St) (H : Hp) (R : It → Hp → Prop), Inv X pins σ H s → wi σ H R →
    wpAny (model X.prog X.w) X.A (eval iter X.env) (fun v s1 => wpAny (model X.prog X.w) X.A (pyIter v) (PIE X pins σ tg R) X.xe s1) X.xe s

/-- the step ahead of the store is nothing for an iterator that keeps no tuple -/
theorem go_of {M : Model} {A : Around} {E : Value → Shared → Prop} {s : Shared} {tg : Expr} {it : Addr} {u : Value} {o : Obj} {n : String} {vs : Array Value} {Q : Unit → Shared → Prop} (ho : s.heap.get? it = some o) (hc : o.cls = .type n) (hd : o.data = .fields vs)
    (hn : ["enumerate", "zip", "dict_itemiterator", "dict_reverseitemiterator", "odict_iterator", "itertools.zip_longest", "itertools.pairwise"].contains n = false) (hQ : Q () s) : wpAny M A (letOwnedTupleGo tg (.ref it) u) Q E s := by
  unfold letOwnedTupleGo
  cases tg <;> first
    | exact wpAny_pure hQ
    | (cases u <;> first
        | exact wpAny_pure hQ
        | (refine wpAny_bind (wpAny_load ho ?_)
           rw [hc, hd]
           show wpAny M A (if (["enumerate", "zip", "dict_itemiterator", "dict_reverseitemiterator", "odict_iterator", "itertools.zip_longest", "itertools.pairwise"].contains n && vs[0]? == some (rawInt _)) = true then _ else _) Q E s
           rw [if_neg (by intro h; rw [hn, Bool.false_and] at h; cases h)]
           exact wpAny_pure hQ))

/-- the list at a, as it stands at each turn (a loop may append to it) -/
def Itl (K : PySem.W.Frag) (a : Addr) : It :=
  ⟨fun i H => ∃ xs x, SqL K H a xs ∧ xs[i]? = some x, fun i H x H' => H' = H ∧ ∀ xs, SqL K H a xs → xs[i]? = some x, fun i H => ∃ xs, SqL K H a xs ∧ xs.length ≤ i⟩
/-- lo, lo + 1, .. (n of them) -/
def Itr (lo : Int) (n : Nat) : It := ⟨fun i _ => i < n, fun i H x H' => H' = H ∧ x = .int (lo + i), fun i _ => n ≤ i⟩
theorem turn_list {P : Program} {w : World} {K : PySem.W.Frag} {tg : Expr} (a it : Addr) : Turn P w K tg (Itl K a) [it] it (fun i h => h.IsListIter it a i) where
  mem := by simp
  obj := fun i h st b hb => by
    have e : b = it := by simpa using hb
    subst e
    obtain ⟨o, e, c, d⟩ := st
    exact ⟨o, e, fun v z => by rw [d] at z; cases z⟩
  keep := fun i h h' st k => st.at fun o e => k it (by simp) o e
  item := by
    intro X hP hw hK hc i pins s σ H E I hf st hg
    subst hP hw hK
    obtain ⟨xs, x, hq, hx⟩ := hg
    obtain ⟨its, rv, p, hz⟩ := I.list hq
    obtain ⟨u, hu, ru⟩ := rv.get hx
    obtain ⟨f0, f1, f2, f3, f4, f5⟩ := hf it (by simp)
    refine wpAny_pyNext_list_item st p.isList (x := u) (by simpa using hu) fun h' st' sb => ?_
    have I1 : Inv X pins σ H { s with heap := h' } := I.turned (t' := s.toks) (fun b o hb e => (sb.2 b hb).trans e) f0 f1 f3 f4 f5
    obtain ⟨o, e, c, d⟩ := id st'
    exact ⟨u, rfl, go_of (s := { s with heap := h' }) e c d (by decide) ⟨x, H, I1, ru, ⟨rfl, fun ys hy => by rw [I.list_inj hy hq]; exact hx⟩, st', fun b hb => (hf b hb).1⟩⟩
  done := by
    intro X hP hw hK hc i pins s σ H E I hf st hg
    subst hP hw hK
    obtain ⟨xs, hq, hx⟩ := hg
    obtain ⟨its, rv, p, hz⟩ := I.list hq
    obtain ⟨f0, f1, f2, f3, f4, f5⟩ := hf it (by simp)
    have hl := rv.length
    exact wpAny_pyNext_list_end (I.ok.hd hc) st p.isList (by simp; omega) fun h' eb => ⟨rfl, I.turned (t' := s.toks) (fun b o hb e => eb b o hb e) f0 f1 f3 f4 f5⟩
  self := fun _ _ _ _ _ st h => wpAny_pyIter_listiter st h
theorem turn_range {P : Program} {w : World} {K : PySem.W.Frag} {tg : Expr} (it : Addr) (lo : Int) (n : Nat) : Turn P w K tg (Itr lo n) [it] it (fun i h => IsRangeIter h it (lo + (i : Nat) * 1) ((n : Int) - (i : Nat)) 1) where
  mem := by simp
  obj := fun i h st b hb => by
    have e : b = it := by simpa using hb
    subst e
    exact ⟨_, st, fun v z => by
      have z' : Data.fields _ = Data.cell v := z
      cases z'⟩
  keep := fun i h h' st k => k it (by simp) _ st
  item := by
    intro X hP hw hK hc i pins s σ H E I hf st hg
    subst hP hw hK
    obtain ⟨f0, f1, f2, f3, f4, f5⟩ := hf it (by simp)
    have W := Walks.range (prog := X.prog) (w := X.w) (I.ok.hd hc) it lo 1 n
    refine W.item i s _ _ hg st fun v h' tk hv st' kk => ?_
    obtain ⟨t, rfl⟩ := hv
    have I1 : Inv X pins σ H { s with heap := h', toks := tk } := I.turned (fun b o hb e => kk b o (by simpa using hb) e) f0 f1 f3 f4 f5
    refine ⟨_, rfl, go_of (s := { s with heap := h', toks := tk }) (n := "range_iterator") st' rfl rfl (by decide) ⟨.int (lo + i), H, I1, ⟨t, ?_⟩, ⟨rfl, rfl⟩, st', fun b hb => (hf b hb).1⟩⟩
    rw [Int.mul_one]
  done := by
    intro X hP hw hK hc i pins s σ H E I hf st hg
    subst hP hw hK
    obtain ⟨f0, f1, f2, f3, f4, f5⟩ := hf it (by simp)
    exact wpAny_pyNext_range_end (I.ok.hd hc) st (by have : n ≤ i := hg; omega) fun h' eb => ⟨rfl, I.turned (t' := s.toks) (fun b o hb e => eb b o hb e) f0 f1 f3 f4 f5⟩
  self := fun _ _ _ _ _ st h => wpAny_pyIter_rangeiter st h
end L2

namespace L2
open PySem PySem.Spec PyProof.Rows
section
variable {X : Cx} {tg : Expr}
def iList (K : PySem.W.Frag) (tl : TE) : TI := fun σ H R => tl σ H fun x H1 => ∃ a, x = .ref a ∧ (∃ xs, SqL K H1 a xs) ∧ R (Itl K a) H1
theorem pi_list {l : Expr} {tl : TE} (hl : PE X l tl) : PI X tg l (iList X.K tl) := by
  intro pins s σ H R I h
  refine thn (hl pins s σ H _ I h) fun v s1 ⟨x, H1, I1, r1, q1⟩ => ?_
  obtain ⟨a, e, ⟨xs, hq⟩, q⟩ := q1
  subst e
  cases r1
  obtain ⟨its, rv, p, hz⟩ := I1.list hq
  refine wpAny_pyIter_list p.isList ?_
  refine ⟨s1.heap.objs.size, [s1.heap.objs.size], _, _, H1, rfl, I1.kept (t' := s1.toks) fun b o e => Heap.get?_push_of_some _ e, turn_list a _, ⟨_, Heap.get?_push_size _ rfl, rfl, rfl⟩, fun b hb => ?_, q⟩
  have e : b = s1.heap.objs.size := by simpa using hb
  subst e
  exact I1.fpOk (Nat.le_refl _) (I1.hok.fresh (Nat.le_refl _))
/-- a range object just made, walked -/
theorem range_it {pins : List (Addr × Obj)} {σ : St} {H : Hp} {s : Shared} {R : It → Hp → Prop} {E : Value → Shared → Prop} {lo hi : Int} {t u v : Tok} {tk : Nat} (I : Inv X pins σ H s) (h1 : -(2 ^ 62) ≤ lo) (h2 : lo < 2 ^ 62) (h3 : -(2 ^ 62) ≤ hi) (h4 : hi < 2 ^ 62)
    (q : R (Itr lo (hi - lo).toNat) H) : wpAny (model X.prog X.w) X.A (pyIter (.ref s.heap.objs.size)) (PIE X pins σ tg R) E { s with heap := s.heap.push { cls := .type "range", data := .fields #[.int lo t, .int hi u, .int 1 v] }, toks := tk } := by
  refine wpAny_pyIter_range (IsRange.new ..) (small_one h1 h2 h3 h4) ?_
  have I1 : Inv X pins σ H { s with heap := s.heap.push { cls := .type "range", data := .fields #[.int lo t, .int hi u, .int 1 v] }, toks := tk } := I.kept fun b o e => Heap.get?_push_of_some _ e
  refine ⟨(s.heap.push { cls := .type "range", data := .fields #[.int lo t, .int hi u, .int 1 v] }).objs.size, [(s.heap.push { cls := .type "range", data := .fields #[.int lo t, .int hi u, .int 1 v] }).objs.size], _, _, H, rfl,
    I1.kept (t' := tk) fun b o e => Heap.get?_push_of_some _ e, turn_range _ lo (hi - lo).toNat, ?_, fun b hb => ?_, q⟩
  · have e1 : lo + ((0 : Nat) : Int) * 1 = lo := by simp
    have e2 : (((hi - lo).toNat : Nat) : Int) - ((0 : Nat) : Int) = Builtin.Range.rangeSize lo hi 1 := by rw [rangeSize_one]; split <;> omega
    show IsRangeIter _ _ (lo + ((0 : Nat) : Int) * 1) ((((hi - lo).toNat : Nat) : Int) - ((0 : Nat) : Int)) 1
    rw [e1, e2]
    exact Heap.get?_push_size _ rfl
  · have e : b = (s.heap.push { cls := .type "range", data := .fields #[.int lo t, .int hi u, .int 1 v] }).objs.size := by simpa using hb
    subst e
    exact I1.fpOk (Nat.le_refl _) (I1.hok.fresh (Nat.le_refl _))
def iRng1 (ta : TA) : TI := fun σ H R => ta σ H fun vs H1 => ∃ j : Int, vs = [.int j] ∧ -(2 ^ 62) ≤ j ∧ j < 2 ^ 62 ∧ R (Itr 0 j.toNat) H1
def iRng2 (ta : TA) : TI := fun σ H R => ta σ H fun vs H1 => ∃ i j : Int, vs = [.int i, .int j] ∧ (-(2 ^ 62) ≤ i ∧ i < 2 ^ 62 ∧ -(2 ^ 62) ≤ j ∧ j < 2 ^ 62) ∧ R (Itr i (j - i).toNat) H1
theorem pi_range1 {a : Expr} {ta : TA} {p pos : Pos} (hg : Gl X "range") (hm : X.mg "range" = none) (ha : PA X [a] ta) (hs : starEach [a] X.env = [(false, eval a X.env)] := by rfl) : PI X tg (.Call (.Name "range" p) [a] [] pos) (iRng1 ta) := by
  intro pins s σ H R I h
  refine Call_ (ld_blt I hg hm boot_range (PyProof.Rows.callWith_type1 (thn (ha pos pins s σ H _ I h) fun us s1 ⟨vs, H1, I1, r1, q1⟩ => ?_) hs rfl))
  obtain ⟨j, e, q1, q2, q⟩ := q1
  subst e
  cases r1 with
  | cons r rr =>
    cases rr
    obtain ⟨t, rfl⟩ := r
    exact call_range_1 (range_it I1 (by omega) (by omega) q1 q2 (by simpa using q))
theorem pi_range2 {a b : Expr} {ta : TA} {p pos : Pos} (hg : Gl X "range") (hm : X.mg "range" = none) (ha : PA X [a, b] ta) (hs : starEach [a, b] X.env = [(false, eval a X.env), (false, eval b X.env)] := by rfl) (hs2 : starEach [b] X.env = [(false, eval b X.env)] := by rfl) :
    PI X tg (.Call (.Name "range" p) [a, b] [] pos) (iRng2 ta) := by
  intro pins s σ H R I h
  refine Call_ (ld_blt I hg hm boot_range (PyProof.Rows.callWith_type1 (thn (ha pos pins s σ H _ I h) fun us s1 ⟨vs, H1, I1, r1, q1⟩ => ?_) (by rw [hs, hs2]) (by rw [hs2]; rfl)))
  obtain ⟨i, j, e, ⟨q1, q2, q3, q4⟩, q⟩ := q1
  subst e
  cases r1 with
  | cons r rr =>
    cases rr with
    | cons r' rr =>
      cases rr
      obtain ⟨t, rfl⟩ := r
      obtain ⟨t', rfl⟩ := r'
      exact call_range_2 (range_it I1 q1 q2 q3 q4 q)

/-! ### for -/
/-- W: the invariant by the turn and a measure; N: what the body is to reach -/
def tFor (wi : TI) (g : TG) (tb : TS) : TS := fun D σ H => wi σ H fun J H1 => ∃ W : Nat → Nat → St → Hp → Prop, (∃ m, W 0 m σ H1) ∧ ∀ i m σ H, W i m σ H →
  (J.stop i H ∧ D.nx σ H) ∨ (J.go i H ∧ ∃ N : St → Hp → Prop, (∀ σ' H', N σ' H' → ∃ m', m' < m ∧ W (i + 1) m' σ' H') ∧ ∀ x H', J.yld i H x H' → g x σ H' fun σ2 H2 => tb { D with nx := N, ct := N, bk := D.nx } σ2 H2)
/-- the records at fp as they stand -/
def pinsAt (fp : List Addr) (h : Heap) : List (Addr × Obj) := fp.filterMap fun b => (h.get? b).map fun o => (b, o)
theorem mem_pinsAt {fp : List Addr} {h : Heap} {b : Addr} {o : Obj} (hb : b ∈ fp) (e : h.get? b = some o) : (b, o) ∈ pinsAt fp h := List.mem_filterMap.mpr ⟨b, hb, by rw [e]; rfl⟩
theorem of_pinsAt {fp : List Addr} {h : Heap} {p : Addr × Obj} (hp : p ∈ pinsAt fp h) : p.1 ∈ fp ∧ h.get? p.1 = some p.2 := by
  obtain ⟨b, hb, e⟩ := List.mem_filterMap.mp hp
  cases q : h.get? b with
  | none => rw [q] at e; cases e
  | some o =>
    rw [q] at e
    have e' : (b, o) = p := Option.some.inj e
    subst e'
    exact ⟨hb, q⟩
theorem Inv.pinned {pins : List (Addr × Obj)} {σ : St} {H : Hp} {s : Shared} {fp : List Addr} (I : Inv X pins σ H s) (hf : ∀ b ∈ fp, FpOk X pins H b) (ho : ∀ b ∈ fp, ∃ o, s.heap.get? b = some o ∧ ∀ v, o.data ≠ .cell v) : Inv X (pins ++ pinsAt fp s.heap) σ H s :=
  I.pins_of fun p hp => (List.mem_append.mp hp).elim (fun z => I.pin p (List.mem_append_right _ z)) fun z => by
    obtain ⟨hb, e⟩ := of_pinsAt z
    obtain ⟨f0, f1, f2, _⟩ := hf p.1 hb
    obtain ⟨o, e', d⟩ := ho p.1 hb
    rw [e] at e'; cases e'
    exact ⟨e, f0, f1, f2, d⟩
theorem Inv.unpinned {pins pl : List (Addr × Obj)} {σ : St} {H : Hp} {s : Shared} (I : Inv X (pins ++ pl) σ H s) : Inv X pins σ H s := I.pins_of fun p hp => I.pin p (List.mem_append_right _ (List.mem_append_left _ hp))
theorem ps_for {iter : Expr} {body : List Stmt} {wi : TI} {g : TG} {tb : TS} {pos : Pos} (hp : PassesOwn (model X.prog X.w) X.A X.env X.xe) (hc : X.calm = true) (hi : PI X tg iter wi) (hg : PG X tg g) (hb : PSs X body tb)
    (hs : ∀ x, foldedSetIterable iter X.env x = pure x := by intro _; rfl) : PS X (.For tg iter body [] pos) (tFor wi g tb) := by
  intro pins s σ H D I h
  refine wpAny_For (thn (hi pins s σ H _ I h) fun v s1 h1 => thn h1 fun itv s2 h2 => ?_) hs
  obtain ⟨it, fp, tn, J, H2, e, I2, T, st2, f2, W, ⟨m0, w0⟩, turn⟩ := h2
  subst e
  -- what stays true of the iterator's objects through the loop
  have stat : ∀ {H' : Hp}, (∀ b ∈ fp, H' b = none) → ∀ b ∈ fp, FpOk X pins H' b := fun hn b hb => ⟨hn b hb, (f2 b hb).2⟩
  refine codeAny_forLoop_any (fun n s' => ∃ i σ' H', Inv X pins σ' H' s' ∧ tn i s'.heap ∧ (∀ b ∈ fp, H' b = none) ∧ W i n σ' H') ?_ m0 ⟨0, σ, H2, I2, st2, fun b hb => (f2 b hb).1, w0⟩
  rintro n s3 ⟨i, σ3, H3, I3, st3, fr3, w3⟩
  rcases turn i n σ3 H3 w3 with ⟨stop, qn⟩ | ⟨go, N, hN, step⟩
  · refine wpAny_passesOwn hp (thn (T.done X rfl rfl rfl hc i pins s3 σ3 H3 X.xe I3 (stat fr3) st3 stop) fun r s4 ⟨hr, I4⟩ => ?_)
    subst hr
    exact wpAny_execs_nil ⟨σ3, H3, I4, qn⟩
  · refine wpAny_passesOwn hp (thn (T.item X rfl rfl rfl hc i pins s3 σ3 H3 X.xe I3 (stat fr3) st3 go) fun r s4 ⟨u, hr, h4⟩ => ?_)
    subst hr
    refine wpAny_passesOwn hp (thn h4 fun _ s5 ⟨x, H5, I5, r5, y5, st5, fr5⟩ => ?_)
    have I5' := I5.pinned (stat fr5) (T.obj _ _ st5)
    refine wpAny_passesOwn hp (thn (hg _ s5 σ3 H5 x u _ I5' r5 (step x H5 y5)) fun _ s6 ⟨σ6, H6, I6, q6⟩ => ?_)
    refine wpAny_passesOwn hp (thn (hb _ s6 σ6 H6 _ I6 q6) fun f s7 q7 => ?_)
    have again : ∀ {σ7 : St} {H7 : Hp}, Inv X (pins ++ pinsAt fp s5.heap) σ7 H7 s7 → N σ7 H7 → ∃ m, m < n ∧ ∃ i σ' H', Inv X pins σ' H' s7 ∧ tn i s7.heap ∧ (∀ b ∈ fp, H' b = none) ∧ W i m σ' H' := fun {σ7 H7} I7 n7 => by
      obtain ⟨m', hm, w7⟩ := hN σ7 H7 n7
      refine ⟨m', hm, i + 1, σ7, H7, I7.unpinned, T.keep _ _ _ st5 fun b hb o e => (I7.pin (b, o) (List.mem_append_right _ (List.mem_append_right _ (mem_pinsAt hb e)))).1, fun b hb => ?_, w7⟩
      obtain ⟨o, e, d⟩ := T.obj _ _ st5 b hb
      exact (I7.pin (b, o) (List.mem_append_right _ (List.mem_append_right _ (mem_pinsAt hb e)))).2.1
    cases f with
    | next => obtain ⟨σ7, H7, I7, n7⟩ := q7; exact again I7 n7
    | cont => obtain ⟨σ7, H7, I7, n7⟩ := q7; exact again I7 n7
    | brk => obtain ⟨σ7, H7, I7, q7⟩ := q7; exact ⟨σ7, H7, I7.unpinned, q7⟩
    | ret v => obtain ⟨x7, σ7, H7, I7, r7, q7⟩ := q7; exact ⟨x7, σ7, H7, I7.unpinned, r7, q7⟩
end

/-! ### the forms one uses -/
/-- over a list that the body leaves as it is -/
theorem for_list {K : PySem.W.Frag} {a : Addr} {xs : List V} {g : TG} {tb : TS} {D : Ends} {σ : St} {H : Hp} (Pv : Nat → St → Hp → Prop) (h0 : Pv 0 σ H) (hl : ∀ i σ H, i ≤ xs.length → Pv i σ H → SqL K H a xs)
    (hs : ∀ i x σ H, xs[i]? = some x → Pv i σ H → g x σ H fun σ2 H2 => tb { D with nx := Pv (i + 1), ct := Pv (i + 1), bk := D.nx } σ2 H2) (hd : ∀ σ H, Pv xs.length σ H → D.nx σ H) :
    ∃ W : Nat → Nat → St → Hp → Prop, (∃ m, W 0 m σ H) ∧ ∀ i m σ H, W i m σ H →
      ((Itl K a).stop i H ∧ D.nx σ H) ∨ ((Itl K a).go i H ∧ ∃ N : St → Hp → Prop, (∀ σ' H', N σ' H' → ∃ m', m' < m ∧ W (i + 1) m' σ' H') ∧ ∀ x H', (Itl K a).yld i H x H' → g x σ H' fun σ2 H2 => tb { D with nx := N, ct := N, bk := D.nx } σ2 H2) := by
  refine ⟨fun i m σ H => m = xs.length - i ∧ i ≤ xs.length ∧ Pv i σ H, ⟨xs.length, by simp, Nat.zero_le _, h0⟩, ?_⟩
  rintro i m σ H ⟨rfl, hi, p⟩
  have q := hl i σ H hi p
  by_cases hlt : i < xs.length
  · refine .inr ⟨⟨xs, xs[i], q, by simp [hlt]⟩, Pv (i + 1), fun σ' H' p' => ⟨xs.length - (i + 1), by omega, rfl, hlt, p'⟩, fun x H' y => ?_⟩
    obtain ⟨e, y⟩ := y
    subst e
    exact hs i x σ _ (y xs q) p
  · have e : i = xs.length := by omega
    subst e
    exact .inl ⟨⟨xs, q, Nat.le_refl _⟩, hd σ H p⟩
theorem for_range {lo : Int} {n : Nat} {g : TG} {tb : TS} {D : Ends} {σ : St} {H : Hp} (Pv : Nat → St → Hp → Prop) (h0 : Pv 0 σ H)
    (hs : ∀ i σ H, i < n → Pv i σ H → g (.int (lo + i)) σ H fun σ2 H2 => tb { D with nx := Pv (i + 1), ct := Pv (i + 1), bk := D.nx } σ2 H2) (hd : ∀ σ H, Pv n σ H → D.nx σ H) :
    ∃ W : Nat → Nat → St → Hp → Prop, (∃ m, W 0 m σ H) ∧ ∀ i m σ H, W i m σ H →
      ((Itr lo n).stop i H ∧ D.nx σ H) ∨ ((Itr lo n).go i H ∧ ∃ N : St → Hp → Prop, (∀ σ' H', N σ' H' → ∃ m', m' < m ∧ W (i + 1) m' σ' H') ∧ ∀ x H', (Itr lo n).yld i H x H' → g x σ H' fun σ2 H2 => tb { D with nx := N, ct := N, bk := D.nx } σ2 H2) := by
  refine ⟨fun i m σ H => m = n - i ∧ i ≤ n ∧ Pv i σ H, ⟨n, by simp, Nat.zero_le _, h0⟩, ?_⟩
  rintro i m σ H ⟨rfl, hi, p⟩
  by_cases hlt : i < n
  · refine .inr ⟨hlt, Pv (i + 1), fun σ' H' p' => ⟨n - (i + 1), by omega, rfl, hlt, p'⟩, fun x H' y => ?_⟩
    obtain ⟨e, y⟩ := y
    subst e y
    exact hs i σ _ hlt p
  · have e : i = n := by omega
    subst e
    exact .inl ⟨Nat.le_refl _, hd σ H p⟩
/-- while, by a word and a measure of the state -/
theorem while_by {c : TT} {tb : TS} {D : Ends} {σ : St} {H : Hp} (Pv : St → Hp → Prop) (μ : St → Hp → Nat) (h0 : Pv σ H)
    (hs : ∀ σ H, Pv σ H → c σ H fun b H1 => if b = true then tb { D with nx := fun σ' H' => Pv σ' H' ∧ μ σ' H' < μ σ H, ct := fun σ' H' => Pv σ' H' ∧ μ σ' H' < μ σ H, bk := D.nx } σ H1 else D.nx σ H1)
    (mono : ∀ σ H Q Q', (∀ b H1, Q b H1 → Q' b H1) → c σ H Q → c σ H Q') : tWhile c tb D σ H := by
  refine ⟨fun m σ H => m = μ σ H ∧ Pv σ H, ⟨_, rfl, h0⟩, ?_⟩
  rintro m σ H ⟨rfl, p⟩
  refine mono σ H _ _ (fun b H1 q => ?_) (hs σ H p)
  cases b with
  | true => exact ⟨_, fun σ' H' ⟨p', l⟩ => ⟨_, l, rfl, p'⟩, q⟩
  | false => exact q
end L2

namespace L2
open PySem PySem.Spec PyProof.Rows

abbrev R2 := V → V → Hp → VK → Prop
/-- a two-place operation on values: f is binaryOp op, inplaceOp op or compareOp op -/
def OpR (X : Cx) (f : Value → Value → Sem Value) (r : R2) : Prop :=
  ∀ (pins : List (Addr × Obj)) (s : Shared) (σ : St) (H : Hp) (x y : V) (v u : Value) (Q : VK), Inv X pins σ H s → RelV x v → RelV y u → r x y H Q →
    wpAny (model X.prog X.w) X.A (f v u) (EP X pins σ Q) X.xe s
/-- a one-place operation -/
def UnR (X : Cx) (f : Value → Sem Value) (r : V → Hp → VK → Prop) : Prop :=
  ∀ (pins : List (Addr × Obj)) (s : Shared) (σ : St) (H : Hp) (x : V) (v : Value) (Q : VK), Inv X pins σ H s → RelV x v → r x H Q →
    wpAny (model X.prog X.w) X.A (f v) (EP X pins σ Q) X.xe s
/-- a call of a value that is known (a builtin, a type) with values -/
def CallR (X : Cx) (f : Value) (r : List V → Hp → VK → Prop) : Prop :=
  ∀ (pins : List (Addr × Obj)) (s : Shared) (σ : St) (H : Hp) (xs : List V) (us : List Value) (Q : VK), Inv X pins σ H s → Vals xs us → r xs H Q →
    wpAny (model X.prog X.w) X.A (call f us) (EP X pins σ Q) X.xe s

def tOp (r : R2) (ta tb : TE) : TE := fun σ H Q => ta σ H fun x H1 => tb σ H1 fun y H2 => r x y H2 Q
def tUn (r : V → Hp → VK → Prop) (ta : TE) : TE := fun σ H Q => ta σ H fun x H1 => r x H1 Q
/-- ints in, under C, and a value out -/
def rI (C : Int → Int → Prop) (g : Int → Int → V) : R2 := fun x y H Q => ∃ i j, x = .int i ∧ y = .int j ∧ C i j ∧ Q (g i j) H
def rI0 (g : Int → Int → V) : R2 := fun x y H Q => ∃ i j, x = .int i ∧ y = .int j ∧ Q (g i j) H
def rU (g : Int → V) : V → Hp → VK → Prop := fun x H Q => ∃ i, x = .int i ∧ Q (g i) H

section
variable {X : Cx} {a b c : Expr} {ta tb tc : TE} {pos : Pos}

theorem binT (ha : PE X a ta) (hb : PE X b tb) {pins : List (Addr × Obj)} {s : Shared} {σ : St} {H : Hp} {R : V → V → Hp → Prop} (I : Inv X pins σ H s)
    (h : ta σ H fun x H1 => tb σ H1 fun y H2 => R x y H2) {Q : Value → Shared → Prop} {f : Value → Value → Sem Value}
    (hf : ∀ v u s2 x y H2, Inv X pins σ H2 s2 → RelV x v → RelV y u → R x y H2 → wpAny (model X.prog X.w) X.A (f v u) Q X.xe s2) :
    wpAny (model X.prog X.w) X.A (eval a X.env) (fun v s₁ => wpAny (model X.prog X.w) X.A (eval b X.env) (fun u s₂ => wpAny (model X.prog X.w) X.A (f v u) Q X.xe s₂) X.xe s₁) X.xe s := by
  refine thn (ha pins s σ H _ I h) fun v s1 ⟨x, H1, I1, r1, q1⟩ => ?_
  refine thn (hb pins s1 σ H1 _ I1 q1) fun u s2 ⟨y, H2, I2, r2, q2⟩ => ?_
  exact hf v u s2 x y H2 I2 r1 r2 q2

theorem pe_op {op : Operator} {r : R2} (ho : OpR X (binaryOp op) r) (ha : PE X a ta) (hb : PE X b tb) : PE X (.BinOp a op b pos) (tOp r ta tb) := by
  intro pins s σ H Q I h
  exact wpAny_BinOp (binT ha hb I h fun v u s2 x y H2 I2 rx ry q => ho pins s2 σ H2 x y v u Q I2 rx ry q)
theorem pe_un {op : UnaryOp} {r : V → Hp → VK → Prop} (ho : UnR X (unaryOp op) r) (ha : PE X a ta) : PE X (.UnaryOp op a pos) (tUn r ta) := by
  intro pins s σ H Q I h
  exact UnaryOp_ (thn (ha pins s σ H _ I h) fun v s1 ⟨x, H1, I1, r1, q1⟩ => ho pins s1 σ H1 x v Q I1 r1 q1)

/-! ### ints -/
theorem opI {f : Value → Value → Sem Value} {C : Int → Int → Prop} {g : Int → Int → Int}
    (rule : ∀ (i j : Int) (t u : Tok) (s : Shared) (Q : Value → Shared → Prop) (E : Value → Shared → Prop), C i j → Q (.int (g i j) s.toks) { s with toks := s.toks + 1 } → wpAny (model X.prog X.w) X.A (f (.int i t) (.int j u)) Q E s) :
    OpR X f (rI C fun i j => .int (g i j)) := by
  intro pins s σ H x y v u Q I rx ry h
  obtain ⟨i, j, rfl, rfl, hc, q⟩ := h
  obtain ⟨t, rfl⟩ := rx
  obtain ⟨t', rfl⟩ := ry
  exact rule i j t t' s _ _ hc ⟨.int (g i j), H, I.tok _, ⟨_, rfl⟩, q⟩
theorem opI0 {f : Value → Value → Sem Value} {g : Int → Int → Int}
    (rule : ∀ (i j : Int) (t u : Tok) (s : Shared) (Q : Value → Shared → Prop) (E : Value → Shared → Prop), Q (.int (g i j) s.toks) { s with toks := s.toks + 1 } → wpAny (model X.prog X.w) X.A (f (.int i t) (.int j u)) Q E s) :
    OpR X f (rI0 fun i j => .int (g i j)) := by
  intro pins s σ H x y v u Q I rx ry h
  obtain ⟨i, j, rfl, rfl, q⟩ := h
  obtain ⟨t, rfl⟩ := rx
  obtain ⟨t', rfl⟩ := ry
  exact rule i j t t' s _ _ ⟨.int (g i j), H, I.tok _, ⟨_, rfl⟩, q⟩
theorem opB0 {f : Value → Value → Sem Value} {g : Int → Int → Bool}
    (rule : ∀ (i j : Int) (t u : Tok) (s : Shared) (Q : Value → Shared → Prop) (E : Value → Shared → Prop), Q (.bool (g i j)) s → wpAny (model X.prog X.w) X.A (f (.int i t) (.int j u)) Q E s) :
    OpR X f (rI0 fun i j => .bl (g i j)) := by
  intro pins s σ H x y v u Q I rx ry h
  obtain ⟨i, j, rfl, rfl, q⟩ := h
  obtain ⟨t, rfl⟩ := rx
  obtain ⟨t', rfl⟩ := ry
  exact rule i j t t' s _ _ ⟨.bl (g i j), H, I, rfl, q⟩

def CPow (i j : Int) : Prop := 0 ≤ j ∧ j ≤ 1000000 ∧ i.natAbs < 2 ^ 64
def CMul (i j : Int) : Prop := (-(2 ^ 64) < i ∧ i < 2 ^ 64) ∨ (-(2 ^ 64) < j ∧ j < 2 ^ 64)
theorem CMul.ok {i j : Int} (h : CMul i j) : IntMulOk i j := by
  rcases h with ⟨h1, h2⟩ | ⟨h1, h2⟩
  · exact .of_left (intBits_le_64 h1 h2)
  · exact .of_right (intBits_le_64 h1 h2)

theorem op_add : OpR X (binaryOp .Add) (rI0 fun i j => .int (i + j)) := opI0 fun _ _ _ _ _ _ _ q => add_int q
theorem op_sub : OpR X (binaryOp .Sub) (rI0 fun i j => .int (i - j)) := opI0 fun _ _ _ _ _ _ _ q => sub_int q
/-- % by a positive divisor of any size -/
theorem op_mod : OpR X (binaryOp .Mod) (rI (fun _ j => 0 < j) fun i j => .int (i % j)) := opI fun i j _ _ _ _ _ hc q => by
  have h1 : (0 : Int) < j := hc
  exact mod_int' (by omega) (by rw [Int.fmod_eq_emod_of_nonneg i (by omega)]; exact q)
theorem op_pow : OpR X (binaryOp .Pow) (rI CPow fun i j => .int (i ^ j.toNat)) := opI fun _ _ _ _ _ _ _ hc q => pow_int_small hc.1 hc.2.1 hc.2.2 q


theorem unI {f : Value → Sem Value} {g : Int → Int}
    (rule : ∀ (i : Int) (t : Tok) (s : Shared) (Q : Value → Shared → Prop) (E : Value → Shared → Prop), Q (.int (g i) s.toks) { s with toks := s.toks + 1 } → wpAny (model X.prog X.w) X.A (f (.int i t)) Q E s) :
    UnR X f (rU fun i => .int (g i)) := by
  intro pins s σ H x v Q I rx h
  obtain ⟨i, rfl, q⟩ := h
  obtain ⟨t, rfl⟩ := rx
  exact rule i t s _ _ ⟨.int (g i), H, I.tok _, ⟨_, rfl⟩, q⟩
theorem un_neg : UnR X (unaryOp .USub) (rU fun i => .int (-i)) := unI fun _ _ _ _ _ q => neg_int q

/-! ### bools among ints: n += (a < b) -/
end

/-! ### comparisons -/
/-- the scalars that == tells apart as data does -/
def scal : V → V → Bool
  | .non, .non => true | .non, .int _ => true | .int _, .non => true | .non, .bl _ => true | .bl _, .non => true | .non, .str _ => true | .str _, .non => true
  | .int _, .int _ => true | .bl _, .bl _ => true | .str _, .str _ => true | .byt _, .byt _ => true
  | .int _, .str _ => true | .str _, .int _ => true | .bl _, .str _ => true | .str _, .bl _ => true
  | _, _ => false
def rEq : R2 := fun x y H Q => scal x y = true ∧ Q (.bl (decide (x = y))) H
def rNe : R2 := fun x y H Q => scal x y = true ∧ Q (.bl (!decide (x = y))) H

theorem dec_int {i j : Int} : decide (V.int i = V.int j) = (i == j) := by
  rw [Bool.eq_iff_iff]
  simp
theorem dec_bl {i j : Bool} : decide (V.bl i = V.bl j) = (i == j) := by
  rw [Bool.eq_iff_iff]
  simp
theorem dec_str {i j : Str} : decide (V.str i = V.str j) = (i == j) := by
  rw [Bool.eq_iff_iff]
  simp
theorem dec_byt {i j : Array UInt8} : decide (V.byt i = V.byt j) = (i.toList == j.toList) := by
  rw [Bool.eq_iff_iff]
  cases i
  cases j
  simp

section
variable {X : Cx} {a b c : Expr} {ta tb tc : TE} {pos : Pos}
theorem fin_bl {pins : List (Addr × Obj)} {σ : St} {H : Hp} {s : Shared} {Q : VK} {k k' : Bool} (I : Inv X pins σ H s) (q : Q (.bl k) H) (e : k = k') : EP X pins σ Q (.bool k') s := by
  subst e
  exact ⟨.bl k, H, I, rfl, q⟩
theorem op_eq : OpR X (compareOp .Eq) rEq := by
  intro pins s σ H x y v u Q I rx ry h
  obtain ⟨hs, q⟩ := h
  cases x with
  | non =>
    cases rx
    cases y with
    | non => cases ry; exact PySem.EqNone.eq_none_none (fin_bl I q (by simp))
    | bl j => cases ry; exact PySem.EqNone.eq_none_bool (fin_bl I q (by simp))
    | int j => obtain ⟨t', rfl⟩ := ry; exact PySem.EqNone.eq_none_int (fin_bl I q (by simp))
    | str j => obtain ⟨t', rfl⟩ := ry; exact PySem.EqNone.eq_none_str (fin_bl I q (by simp))
    | _ => exact absurd (show false = true from hs) Bool.false_ne_true
  | bl i =>
    cases rx
    cases y with
    | non => cases ry; exact PySem.EqNone.eq_bool_none (fin_bl I q (by simp))
    | bl j => cases ry; exact eq_bool (fin_bl I q dec_bl)
    | str j => obtain ⟨t', rfl⟩ := ry; exact PySem.EqMixed.eq_bool_str (fin_bl I q (by simp))
    | _ => exact absurd (show false = true from hs) Bool.false_ne_true
  | int i =>
    obtain ⟨t, rfl⟩ := rx
    cases y with
    | non => cases ry; exact PySem.EqNone.eq_int_none (fin_bl I q (by simp))
    | int j => obtain ⟨t', rfl⟩ := ry; exact eq_int (fin_bl I q dec_int)
    | str j => obtain ⟨t', rfl⟩ := ry; exact PySem.EqMixed.eq_int_str (fin_bl I q (by simp))
    | _ => exact absurd (show false = true from hs) Bool.false_ne_true
  | str i =>
    obtain ⟨t, rfl⟩ := rx
    cases y with
    | non => cases ry; exact PySem.EqNone.eq_str_none (fin_bl I q (by simp))
    | bl j => cases ry; exact PySem.EqMixed.eq_str_bool (fin_bl I q (by simp))
    | int j => obtain ⟨t', rfl⟩ := ry; exact PySem.EqMixed.eq_str_int (fin_bl I q (by simp))
    | str j => obtain ⟨t', rfl⟩ := ry; exact eq_str (fin_bl I q dec_str)
    | _ => exact absurd (show false = true from hs) Bool.false_ne_true
  | byt i =>
    obtain ⟨t, rfl⟩ := rx
    cases y with
    | byt j => obtain ⟨t', rfl⟩ := ry; exact PySem.W.eq_bytes (fin_bl I q dec_byt)
    | _ => exact absurd (show false = true from hs) Bool.false_ne_true
  | _ => cases y <;> exact absurd (show false = true from hs) Bool.false_ne_true
theorem op_ne : OpR X (compareOp .NotEq) rNe := by
  intro pins s σ H x y v u Q I rx ry h
  obtain ⟨hs, q⟩ := h
  cases x with
  | non =>
    cases rx
    cases y with
    | non => cases ry; exact PySem.EqNone.ne_none_none (fin_bl I q (by simp))
    | bl j => cases ry; exact PySem.EqNone.ne_none_bool (fin_bl I q (by simp))
    | int j => obtain ⟨t', rfl⟩ := ry; exact PySem.EqNone.ne_none_int (fin_bl I q (by simp))
    | str j => obtain ⟨t', rfl⟩ := ry; exact PySem.EqNone.ne_none_str (fin_bl I q (by simp))
    | _ => exact absurd (show false = true from hs) Bool.false_ne_true
  | bl i =>
    cases rx
    cases y with
    | non => cases ry; exact PySem.EqNone.ne_bool_none (fin_bl I q (by simp))
    | bl j => cases ry; exact ne_bool (fin_bl I q (congrArg not dec_bl))
    | str j => obtain ⟨t', rfl⟩ := ry; exact PySem.EqMixed.ne_bool_str (fin_bl I q (by simp))
    | _ => exact absurd (show false = true from hs) Bool.false_ne_true
  | int i =>
    obtain ⟨t, rfl⟩ := rx
    cases y with
    | non => cases ry; exact PySem.EqNone.ne_int_none (fin_bl I q (by simp))
    | int j => obtain ⟨t', rfl⟩ := ry; exact ne_int (fin_bl I q (congrArg not dec_int))
    | str j => obtain ⟨t', rfl⟩ := ry; exact PySem.EqMixed.ne_int_str (fin_bl I q (by simp))
    | _ => exact absurd (show false = true from hs) Bool.false_ne_true
  | str i =>
    obtain ⟨t, rfl⟩ := rx
    cases y with
    | non => cases ry; exact PySem.EqNone.ne_str_none (fin_bl I q (by simp))
    | bl j => cases ry; exact PySem.EqMixed.ne_str_bool (fin_bl I q (by simp))
    | int j => obtain ⟨t', rfl⟩ := ry; exact PySem.EqMixed.ne_str_int (fin_bl I q (by simp))
    | str j => obtain ⟨t', rfl⟩ := ry; exact ne_str (fin_bl I q (congrArg not dec_str))
    | _ => exact absurd (show false = true from hs) Bool.false_ne_true
  | byt i =>
    obtain ⟨t, rfl⟩ := rx
    cases y with
    | byt j => obtain ⟨t', rfl⟩ := ry; exact PySem.W.ne_bytes (fin_bl I q (congrArg not dec_byt))
    | _ => exact absurd (show false = true from hs) Bool.false_ne_true
  | _ => cases y <;> exact absurd (show false = true from hs) Bool.false_ne_true

theorem op_lt : OpR X (compareOp .Lt) (rI0 fun i j => .bl (decide (i < j))) := opB0 fun _ _ _ _ _ _ _ q => lt_int q
theorem op_le : OpR X (compareOp .LtE) (rI0 fun i j => .bl (decide (i ≤ j))) := opB0 fun _ _ _ _ _ _ _ q => le_int q
theorem op_gt : OpR X (compareOp .Gt) (rI0 fun i j => .bl (decide (j < i))) := opB0 fun _ _ _ _ _ _ _ q => gt_int q
theorem op_ge : OpR X (compareOp .GtE) (rI0 fun i j => .bl (decide (j ≤ i))) := opB0 fun _ _ _ _ _ _ _ q => ge_int q

theorem op_notN : OpR X (compareOp .IsNot) (fun x y H Q => y = .non ∧ Q (.bl (!decide (x = .non))) H) := by
  intro pins s σ H x y v u Q I rx ry h
  obtain ⟨rfl, q⟩ := h
  cases ry
  refine isnot_none_gen (fin_bl I q ?_)
  cases x <;> first
    | (cases rx; rfl)
    | (obtain ⟨t, rfl⟩ := rx; rfl)


/-- two rules for one operation: by cases -/
theorem OpR.or {f : Value → Value → Sem Value} {r r' : R2} (h : OpR X f r) (h' : OpR X f r') : OpR X f (fun x y H Q => r x y H Q ∨ r' x y H Q) := by
  intro pins s σ H x y v u Q I rx ry q
  rcases q with q | q
  · exact h pins s σ H x y v u Q I rx ry q
  · exact h' pins s σ H x y v u Q I rx ry q

theorem nomark (b : Expr) {op : CmpOp} (h : op ≠ .In := by decide) (h2 : op ≠ .NotIn := by decide) : behindInMarks op b = false := by
  have e1 : (op == CmpOp.In) = false := by cases op <;> first | rfl | exact absurd rfl h
  have e2 : (op == CmpOp.NotIn) = false := by cases op <;> first | rfl | exact absurd rfl h2
  cases b <;> simp [behindInMarks, e1, e2]
/-- a comparison as a value; hm: nomark b, or (for in, not in) by with_unfolding_all rfl -/
theorem pe_cmpR {op : CmpOp} {r : R2} (ho : OpR X (compareOp op) r) (ha : PE X a ta) (hb : PE X b tb) (hm : behindInMarks op b = false) : PE X (.Compare a [op] [b] pos) (tOp r ta tb) := by
  intro pins s σ H Q I h
  exact wpAny_Compare1 (binT ha hb I h fun v u s2 x y H2 I2 rx ry q => ho pins s2 σ H2 x y v u Q I2 rx ry q) hm
/-- a reading of a value as a test -/
def tTest (t : TE) : TT := fun σ H Q => t σ H fun x H' => ∃ k, x = .bl k ∧ Q k H'
theorem pt_cmpR {op : CmpOp} {r : R2} (ho : OpR X (compareOp op) r) (ha : PE X a ta) (hb : PE X b tb) (hm : behindInMarks op b = false) : PT X (.Compare a [op] [b] pos) (tTest (tOp r ta tb)) := by
  intro pins s σ H Q I h
  refine wpAny_isTrue_Compare1 (thn (ha pins s σ H _ I h) fun v s1 ⟨x, H1, I1, r1, q1⟩ => thn (hb pins s1 σ H1 _ I1 q1) fun u s2 ⟨y, H2, I2, r2, q2⟩ =>
    thn (ho pins s2 σ H2 x y v u _ I2 r1 r2 q2) fun c s3 ⟨z, H3, I3, r3, k, e, q3⟩ => ?_) hm
  subst e
  cases r3
  exact wpAny_truthy_bool ⟨H3, I3, q3⟩
/-- a op1 b op2 c -/
def tChain (r r' : R2) (ta tb tc : TE) : TE := fun σ H Q => ta σ H fun x H1 => tb σ H1 fun y H2 => r x y H2 fun z H3 => ∃ k, z = .bl k ∧
  (if k = true then tc σ H3 fun w' H4 => r' y w' H4 Q else Q (.bl false) H3)
theorem pe_chain {op op' : CmpOp} {r r' : R2} (ho : OpR X (compareOp op) r) (ho' : OpR X (compareOp op') r') (ha : PE X a ta) (hb : PE X b tb) (hc : PE X c tc)
    (hm : lastMarks [op, op'] [b, c] = false := by with_unfolding_all rfl) : PE X (.Compare a [op, op'] [b, c] pos) (tChain r r' ta tb tc) := by
  intro pins s σ H Q I h
  refine Compare_chain (thn (ha pins s σ H _ I h) fun v s1 ⟨x, H1, I1, r1, q1⟩ => chain_link (thn (hb pins s1 σ H1 _ I1 q1) fun u s2 ⟨y, H2, I2, r2, q2⟩ =>
    thn (ho pins s2 σ H2 x y v u _ I2 r1 r2 q2) fun d s3 ⟨z, H3, I3, r3, k, e, q3⟩ => ?_)) hm
  subst e
  cases r3
  refine wpAny_truthy_bool ?_
  cases k with
  | false => exact ite_ff ⟨.bl false, H3, I3, rfl, q3⟩
  | true => exact ite_tt (chain_last (thn (hc pins s3 σ H3 _ I3 q3) fun w' s4 ⟨z', H4, I4, r4, q4⟩ => ho' pins s4 σ H4 y z' u w' Q I4 r2 r4 q4))
theorem pt_chain {op op' : CmpOp} {r r' : R2} (ho : OpR X (compareOp op) r) (ho' : OpR X (compareOp op') r') (ha : PE X a ta) (hb : PE X b tb) (hc : PE X c tc)
    (hm : lastMarks [op, op'] [b, c] = false := by with_unfolding_all rfl) : PT X (.Compare a [op, op'] [b, c] pos) (tTest (tChain r r' ta tb tc)) := by
  intro pins s σ H Q I h
  refine isTrue_chain (thn (ha pins s σ H _ I h) fun v s1 ⟨x, H1, I1, r1, q1⟩ => test_link (thn (hb pins s1 σ H1 _ I1 q1) fun u s2 ⟨y, H2, I2, r2, q2⟩ =>
    thn (ho pins s2 σ H2 x y v u _ I2 r1 r2 q2) fun d s3 ⟨z, H3, I3, r3, k, e, q3⟩ => ?_)) hm
  subst e
  cases r3
  refine wpAny_truthy_bool ?_
  cases k with
  | false =>
    obtain ⟨k', e', q'⟩ := q3
    cases e'
    exact ite_ff ⟨H3, I3, q'⟩
  | true =>
    refine ite_tt (test_last (thn (hc pins s3 σ H3 _ I3 q3) fun w' s4 ⟨z', H4, I4, r4, q4⟩ => thn (ho' pins s4 σ H4 y z' u w' _ I4 r2 r4 q4) fun d' s5 ⟨z2, H5, I5, r5, k2, e2, q5⟩ => ?_))
    subst e2
    cases r5
    exact wpAny_truthy_bool ⟨H5, I5, q5⟩

/-! ### truth -/
theorem line63 : (sizeLine : Nat) < 2 ^ 63 := by rw [sizeLine_eq]; decide

/-! ### strs and bytes -/
theorem op_add_str : OpR X (binaryOp .Add) (fun x y H Q => ∃ i j, x = .str i ∧ y = .str j ∧ i.length + j.length ≤ sizeLine ∧ Q (.str (i ++ j)) H) := by
  intro pins s σ H x y v u Q I rx ry h
  obtain ⟨i, j, rfl, rfl, hz, q⟩ := h
  obtain ⟨t, rfl⟩ := rx
  obtain ⟨t', rfl⟩ := ry
  exact add_str (fun t' tk => ⟨.str (i ++ j), H, I.tok _, ⟨_, rfl⟩, q⟩) hz


/-! ### scalar builtins, by CallR -/
theorem vals1 {x : V} {us : List Value} (r : Vals [x] us) : ∃ u, us = [u] ∧ RelV x u := by
  cases r with
  | cons r1 r2 => cases r2; exact ⟨_, rfl, r1⟩
theorem vals2 {x y : V} {us : List Value} (r : Vals [x, y] us) : ∃ u w', us = [u, w'] ∧ RelV x u ∧ RelV y w' := by
  cases r with
  | cons r1 r2 =>
    cases r2 with
    | cons r3 r4 => cases r4; exact ⟨_, _, rfl, r1, r3⟩
theorem call_abs : CallR X (.builtin "abs") (fun xs H Q => ∃ i, xs = [.int i] ∧ Q (.int (if i < 0 then -i else i)) H) := by
  intro pins s σ H xs us Q I r h
  obtain ⟨i, rfl, q⟩ := h
  obtain ⟨u, rfl, t, rfl⟩ := vals1 r
  exact call_abs_int fun u tk => ⟨.int (if i < 0 then -i else i), H, I.tok _, ⟨_, rfl⟩, q⟩
theorem call_min2 (hc : X.calm = true) : CallR X (.builtin "min") (fun xs H Q => ∃ i j, xs = [.int i, .int j] ∧ Q (.int (if j < i then j else i)) H) := by
  intro pins s σ H xs us Q I r h
  obtain ⟨i, j, rfl, q⟩ := h
  obtain ⟨u, w', rfl, ⟨t, rfl⟩, ⟨t', rfl⟩⟩ := vals2 r
  refine min_two_ints (I.ok.hd hc) fun h' tk k => ⟨_, H, I.kept k, ?_, q⟩
  by_cases hj : j < i
  · rw [if_pos hj, if_pos hj]; exact ⟨_, rfl⟩
  · rw [if_neg hj, if_neg hj]; exact ⟨_, rfl⟩
/-- len of a str, a bytes, a list, a tuple -/
def LenV (K : PySem.W.Frag) (x : V) (H : Hp) (n : Nat) : Prop :=
  match x with
  | .str y => y.length ≤ sizeLine ∧ n = y.length
  | .byt y => y.size ≤ sizeLine ∧ n = y.size
  | .ref p => (∃ xs, SqL K H p xs ∧ n = xs.length) ∨ ∃ xs, SqT K H p xs ∧ n = xs.length
  | _ => False
theorem call_len : CallR X (.builtin "len") (fun xs H Q => ∃ x n, xs = [x] ∧ LenV X.K x H n ∧ Q (.int n) H) := by
  intro pins s σ H xs us Q I r h
  obtain ⟨x, n, rfl, e, q⟩ := h
  obtain ⟨u, rfl, rx⟩ := vals1 r
  have hl := line63
  have hs : sizeLine = 16777216 := sizeLine_eq
  cases x with
  | str y =>
    obtain ⟨t, rfl⟩ := rx
    obtain ⟨hy, e'⟩ : y.length ≤ sizeLine ∧ n = y.length := e
    subst e'
    exact len_str (by omega) ⟨.int _, H, I.tok _, ⟨_, rfl⟩, q⟩
  | byt y =>
    obtain ⟨t, rfl⟩ := rx
    obtain ⟨hy, e'⟩ : y.size ≤ sizeLine ∧ n = y.size := e
    subst e'
    exact PySem.W.len_bytes (by omega) ⟨.int _, H, I.tok _, ⟨_, rfl⟩, q⟩
  | ref p =>
    cases rx
    have e' : (∃ xs, SqL X.K H p xs ∧ n = xs.length) ∨ ∃ xs, SqT X.K H p xs ∧ n = xs.length := e
    rcases e' with ⟨xs, hx, e'⟩ | ⟨xs, hx, e'⟩
    · subst e'
      obtain ⟨its, r', pl, hz⟩ := I.list hx
      have hlen := r'.length
      exact Calls.call_len_list pl.isList (by simp only [List.size_toArray]; omega) ⟨.int xs.length, H, I.tok _, ⟨_, by simp only [List.size_toArray]; rw [hlen]⟩, q⟩
    · subst e'
      obtain ⟨its, r', pl, hz⟩ := I.tuple hx
      have hlen := r'.length
      exact len_tuple pl (by simp only [List.size_toArray]; omega) ⟨.int xs.length, H, I.tok _, ⟨_, by simp only [List.size_toArray]; rw [hlen]⟩, q⟩
  | _ => exact (show False from e).elim
end
end L2

namespace L2
open PySem PySem.Spec PyProof.Rows

/-! ### an instance, its attributes a map -/
structure ObjM (h : Heap) (x dx C : Addr) (mA : Str → Option Value) : Prop where
  obj : h.get? x = some (PySem.W.instObj C dx)
  ns : h.Ns1 dx mA
  ne : dx ≠ x

theorem lookIn_ns {h : Heap} {dx : Addr} {mA : Str → Option Value} (n : h.Ns1 dx mA) : ∃ od, h.get? dx = some od ∧ ∀ name, PySem.W.lookIn name od = some (mA name) := by
  obtain ⟨o, es, ep, ho, hd, hk, _, hm⟩ := n
  refine ⟨o, ho, fun name => ?_⟩
  have e := hm name
  unfold nsFind findBy at e
  rw [← Array.find?_toList] at e
  unfold PySem.W.lookIn
  rw [hd]
  dsimp only
  split
  · rename_i y q
    rw [q] at e
    exact congrArg some e
  · rename_i q
    rw [q] at e
    have a : es.toList.any (·.refKey) = false := by
      rw [List.any_eq_false]
      intro y hy
      obtain ⟨z, t, hkey⟩ := hk y (Array.mem_toList_iff.mp hy)
      simp [DictEntry.refKey, hkey]
    have a' : ¬ es.toList.any (·.refKey) = true := by rw [a]; exact Bool.false_ne_true
    rw [if_neg a']
    exact congrArg some e

theorem ObjM.look {h : Heap} {x dx C : Addr} {mA : Str → Option Value} (I : ObjM h x dx C mA) : ∃ od, PySem.W.InstAt h x (PySem.W.instObj C dx) C (some od) ∧ ∀ name, PySem.W.lookIn name od = some (mA name) :=
  let ⟨od, ho, hl⟩ := lookIn_ns I.ns
  ⟨od, ⟨I.obj, rfl, rfl, ho⟩, hl⟩

section
variable {prog : Program} {w : World} {A : Around} {E : Value → Shared → Prop} {s : Shared} {K : PySem.W.Frag} {x dx C f : Addr} {mA : Str → Option Value} {name : Str} {v : Value}





end

/-! ### the attributes as a list of pairs -/


section
variable {P : Program} {w : World} {H H' : Hp} {h h' : Heap} {a C dx : Addr} {fs fs' : List (Str × V)}
theorem ins_get (hok : HOk P w H h) (e : H a = some (.ins C dx fs)) : ∃ mA, ObjM h a dx C mA ∧ (∀ f, RelO (fs.lookup f) (mA f)) ∧ PySem.Within mA (fs.map (·.1)) ∧ fs.length ≤ 1000 ∧ H dx = some (.own a) := by
  obtain ⟨d, z, ne, ob, mA, n, r, q⟩ := (show ObjOk P w H h a (.ins C dx fs) from hok a _ e)
  exact ⟨mA, ⟨ob, n, ne⟩, r, q, z, d⟩
end

/-! ### what of the text a class must have -/
structure Cls (K : PySem.W.Frag) (C : Addr) : Prop where
  pg : PySem.W.plainGet K C Str.empty = true
  hd : PySem.W.hasDictIn K C = true
  po : PySem.W.plainOver K C = true
  sa : PySem.W.findIn K (.ref C) "__setattr__" = some (some (.builtin "object.__setattr__"))
theorem Cls.get {K : PySem.W.Frag} {C : Addr} (c : Cls K C) (f : Str) : PySem.W.plainGet K C f = true := c.pg

section
variable {X : Cx} {pins : List (Addr × Obj)} {σ : St} {H : Hp} {s : Shared} {a C dx : Addr} {fs : List (Str × V)} {f : Str} {v : V} {A : Around} {E : Value → Shared → Prop}






end

/-! ### readings and rules -/

section
variable {X : Cx} {o e value : Expr} {f : Str} {pos pos' tpos : Pos} {ta tv : TE}

end

/-! ### isinstance -/
section
variable {X : Cx} {pins : List (Addr × Obj)} {σ : St} {H : Hp} {s : Shared} {A : Around} {E : Value → Shared → Prop} {Q : Value → Shared → Prop} {c : Value} {b : Bool}
/-- the type of a value, as the fragment's deciders take it; for an instance its class -/
inductive TyOf (K : PySem.W.Frag) (H : Hp) : V → Value → Prop where
  | non : TyOf K H .non (.type "NoneType")
  | bl (x : Bool) : TyOf K H (.bl x) (.type "bool")
  | int (i : Int) : TyOf K H (.int i) (.type "int")
  | str (x : Str) : TyOf K H (.str x) (.type "str")
  | flt (x : UInt64) : TyOf K H (.flt x) (.type "float")
  | lst {a : Addr} {xs : List V} (e : H a = some (.lst xs)) : TyOf K H (.ref a) (.type "list")
  | frz {a : Addr} {o : Obj} {xs : List V} (e : H a = some (.frz o (.lst xs))) : TyOf K H (.ref a) (.type "list")
  | tup {a : Addr} {xs : List V} (e : H a = some (.tup xs)) : TyOf K H (.ref a) (.type "tuple")
  | dK {a : Addr} {kvs : List (Key × V)} (e : H a = some (.dK kvs)) : TyOf K H (.ref a) (.type "dict")
  | dT {a : Addr} {kvs : List (List Key × V)} (e : H a = some (.dT kvs)) : TyOf K H (.ref a) (.type "dict")
  | ins {a C dx : Addr} {fs : List (Str × V)} (e : H a = some (.ins C dx fs)) (cl : Cls K C) (ha : PySem.W.findIn K (.ref C) "__class__" = some (some (.builtin "object.__class__")))
      (hn : PySem.W.specialIn K (.builtin "object.__class__") "__get__" = some (some (.builtin "getset_descriptor.__get__"))) (htk : PySem.W.takesIn K (.builtin "object.__class__") = some true)
      (hm : PySem.W.mroIn K C (.type "object") = some true) : TyOf K H (.ref a) (.ref C)
/-- isinstance(x, c) for one class c, a built-in or an own one: kitOne's answer -/
theorem isinst_ok {x : V} {u t : Value} (I : Inv X pins σ H s) (rx : RelV x u) (ty : TyOf X.K H x t) (e : PySem.W.kitOne X.K t c = some b) (h : ∀ tk, Q (.bool b) { s with toks := tk }) :
    wpAny (model X.prog X.w) A (call (.builtin "isinstance") [u, c]) Q E s := by
  cases ty with
  | non => cases (show u = Value.none from rx); exact PySem.W.kia_one PySem.W.kitx_none I.kIn True.intro e (fun z => nomatch z) h
  | bl y => cases (show u = Value.bool y from rx); exact PySem.W.kia_one PySem.W.kitx_bool I.kIn True.intro e (fun z => nomatch z) h
  | int i => obtain ⟨t, q⟩ := (show ∃ t, u = Value.int i t from rx); cases q; exact PySem.W.kia_one PySem.W.kitx_int I.kIn True.intro e (fun z => nomatch z) h
  | str y => obtain ⟨t, q⟩ := (show ∃ t, u = Value.str y t from rx); cases q; exact PySem.W.kia_one PySem.W.kitx_str I.kIn True.intro e (fun z => nomatch z) h
  | flt y => obtain ⟨t, q⟩ := (show ∃ t, u = Value.float y t from rx); cases q; exact PySem.W.kia_one PySem.W.kitx_float I.kIn True.intro e (fun z => nomatch z) h
  | @lst a xs ea =>
    cases (show u = Value.ref a from rx)
    obtain ⟨_, _, n, _, h1⟩ := (show ObjOk X.prog X.w H s.heap a (.lst xs) from I.hok a _ ea)
    exact PySem.W.kia_one PySem.W.kitx_list I.kIn ⟨_, h1, rfl⟩ e (fun z => nomatch z) h
  | @frz a ob xs ea =>
    cases (show u = Value.ref a from rx)
    obtain ⟨_, _, _, n, _, h1⟩ := (show ObjOk X.prog X.w H s.heap a (.frz ob (.lst xs)) from I.hok a _ ea)
    exact PySem.W.kia_one PySem.W.kitx_list I.kIn ⟨_, h1, rfl⟩ e (fun z => nomatch z) h
  | @tup a xs ea =>
    cases (show u = Value.ref a from rx)
    obtain ⟨_, _, _, p⟩ := (show ObjOk X.prog X.w H s.heap a (.tup xs) from I.hok a _ ea)
    obtain ⟨o, h1, h2, _⟩ := p
    exact PySem.W.kia_one PySem.W.kitx_tuple I.kIn ⟨o, h1, h2⟩ e (fun z => nomatch z) h
  | @dK a kvs ea =>
    cases (show u = Value.ref a from rx)
    obtain ⟨_, _, vs, _, p⟩ := (show ObjOk X.prog X.w H s.heap a (.dK kvs) from I.hok a _ ea)
    obtain ⟨o, es, ep, h1, h2, _⟩ := p
    exact PySem.W.kia_one PySem.W.kitx_dict I.kIn ⟨o, h1, h2.1⟩ e (fun z => nomatch z) h
  | @dT a kvs ea =>
    cases (show u = Value.ref a from rx)
    obtain ⟨_, _, xs, _, o, es, ep, h1, h2, _⟩ := (show ObjOk X.prog X.w H s.heap a (.dT kvs) from I.hok a _ ea)
    exact PySem.W.kia_one PySem.W.kitx_dict I.kIn ⟨o, h1, h2.1⟩ e (fun z => nomatch z) h
  | @ins a C dx fs ea cl ha hn htk hm =>
    cases (show u = Value.ref a from rx)
    obtain ⟨mA, O, _⟩ := ins_get I.hok ea
    obtain ⟨od, J, _⟩ := O.look
    exact PySem.W.kia_one (PySem.W.kitx_own (cl.get _) cl.hd ha hn htk hm) I.kIn J e (fun z => nomatch z) h
end
end L2

namespace L2
open PySem PySem.Spec PyProof.Rows

/-! ### room -/
structure Room (k : Nat) (A : Around) : Prop where
  hd : A.handled = none
  dp : A.depth + 3 * k + 5 < recursionLimit
  un : A.units + 16 * k + 200 < cLine
theorem Room.mono {j k : Nat} {A : Around} (r : Room k A) (h : j ≤ k) : Room j A := ⟨r.hd, by have := r.dp; omega, by have := r.un; omega⟩
theorem Room.deeper {k : Nat} {A : Around} (r : Room (k + 1) A) (env : Env) : Room k (A.deeper env) :=
  ⟨r.hd, by have := r.dp; show A.depth + 1 + 3 * k + 5 < _; omega, by have := r.un; show A.units + 3 + 16 * k + 200 < _; omega⟩
theorem Room.depth {k : Nat} {A : Around} (r : Room k A) : A.depth < recursionLimit := by have := r.dp; omega
theorem Room.units {k : Nat} {A : Around} (r : Room k A) : A.units + 64 < cLine := by have := r.un; omega

/-! ### argument lists and displays -/
def tNil : TA := fun _ H Q => Q [] H
def tCons (ta : TE) (tr : TA) : TA := fun σ H Q => ta σ H fun x H1 => tr σ H1 fun xs H2 => Q (x :: xs) H2
section
variable {X : Cx} {e : Expr} {es : List Expr} {te : TE} {t : TA} {pos : Pos}
theorem pa_nil : PA X [] tNil := fun _ _ _ _ H Q I h => Calls.spliced_nil ⟨[], H, I, .nil, h⟩
theorem pa_cons (ha : PE X e te) (hr : PA X es t) (hs : starEach (e :: es) X.env = (false, eval e X.env) :: starEach es X.env := by rfl) : PA X (e :: es) (tCons te t) := by
  intro pos pins s σ H Q I h
  rw [hs]
  show wpAny _ _ (spliced ((false, eval e X.env) :: backTo pos (starEach es X.env))) _ _ s
  refine Calls.spliced_cons (thn (ha pins s σ H _ I h) fun u s1 ⟨x, H1, I1, r1, q1⟩ => ?_)
  exact thn (hr pos pins s1 σ H1 _ I1 q1) fun us s2 ⟨xs, H2, I2, r2, q2⟩ => ⟨x :: xs, H2, I2, .cons r1 r2, q2⟩

/-- a tuple, a list of written items -/
def tTup (t : TA) : TE := fun σ H Q => t σ H fun xs H1 => xs.length ≤ sizeLine ∧ ∀ p, H1 p = none → Q (.ref p) (upd H1 p (.tup xs))
def tLst (t : TA) : TE := fun σ H Q => t σ H fun xs H1 => xs.length ≤ sizeLine ∧ ∀ p, H1 p = none → Q (.ref p) (upd H1 p (.lst xs))
theorem pe_tup {x1} (h : PA X es t) : PE X (.Tuple es x1 pos) (tTup t) := by
  intro pins s σ H Q I hq
  refine wpAny_Tuple_spliced (thn (h pos pins s σ H _ I hq) fun us s1 ⟨xs, H1, I1, r, z, q⟩ => ⟨by rw [← r.length]; exact z, ?_⟩)
  have hf : H1 s1.heap.objs.size = none := I1.hok.fresh (Nat.le_refl _)
  refine ⟨.ref s1.heap.objs.size, upd H1 s1.heap.objs.size (.tup xs), I1.laid (t' := s1.toks) (fun b u e => Heap.get?_push_of_some _ e) (Nat.le_refl _) ?_, rfl, q _ hf⟩
  exact ⟨z, us, r, ⟨_, Heap.get?_push_size _ rfl, rfl, _, rfl⟩⟩
theorem pe_lst (h : PA X es t) : PE X (.List es pos) (tLst t) := by
  intro pins s σ H Q I hq
  refine wpAny_List_spliced (thn (h pos pins s σ H _ I hq) fun us s1 ⟨xs, H1, I1, r, z, q⟩ => ⟨by rw [← r.length]; exact z, ?_⟩)
  have hf : H1 s1.heap.objs.size = none := I1.hok.fresh (Nat.le_refl _)
  refine ⟨.ref s1.heap.objs.size, upd H1 s1.heap.objs.size (.lst xs), I1.laid (t' := s1.toks) (fun b u e => Heap.get?_push_of_some _ e) (Nat.le_refl _) ?_, rfl, q _ hf⟩
  exact ⟨z, us, 0, r, Heap.get?_push_size _ rfl⟩
end

/-! ### what a def promises -/
/-- a def's promise: the bound arguments in the parameters' order, the heap, the wanted end, the wanted exception -/
abbrev Sp := List V → Hp → VK → XK → Prop
/-- how an exception lies behind a call (file 08 gives it): the callers' frames, abstract heap and state ahead of the call, the wish, the exception, the state -/
abbrev CXT := List Env → Hp → Shared → XK → Value → Shared → Prop

/-- the state at a call -/
structure Env0 (P : Program) (w : World) (K : PySem.W.Frag) (mg : Str → Option Value) (base : Heap) (A : Around) (outer : List Env) (s : Shared) (H : Hp) : Prop where
  frames : A.frames = some outer
  mod : Mod K mg base
  bs : ∀ b o, base.get? b = some o → s.heap.get? b = some o ∧ H b = none
  bsz : base.objs.size ≤ s.heap.objs.size
  funs : s.heap.FunFrames base outer
  frf : ∀ b ∈ frs outer, H b = none
  hok : HOk P w H s.heap
  bare : AllBare s.gens
/-- a call's end -/
def CE (outer : List Env) (P : Program) (w : World) (H : Hp) (s : Shared) (Q : VK) (u : Value) (s' : Shared) : Prop :=
  ∃ v H', s'.os = s.os ∧ AllBare s'.gens ∧ Un (frs outer) [] H H' s.heap s'.heap ∧ HOk P w H' s'.heap ∧ RelV v u ∧ Q v H'
def CR (CX : CXT) (outer : List Env) (P : Program) (w : World) (H : Hp) (s : Shared) (Q : VK) (E : XK) (r : Result) (s' : Shared) : Prop :=
  match r with
  | .ok (.ret u) => CE outer P w H s Q u s'
  | .ok _ => False
  | .error e => CX outer H s E e s'
structure FnOk (P : Program) (w : World) (K : PySem.W.Frag) (mg : Str → Option Value) (base : Heap) (CX : CXT) (k : Nat) (f : Addr) (fd : FuncData) (ps : List Str) (sp : Sp) : Prop where
  len : ∀ vs H Q E, sp vs H Q E → vs.length = ps.length
  run : ∀ (A : Around) (outer : List Env) (s : Shared) (H : Hp) (args : Args) (us : List Value) (vs : List V) (Q : VK) (E : XK), Room k A → Env0 P w K mg base A outer s H → BindsTo s fd args (ps.zip us) → Vals vs us → sp vs H Q E →
    codeAny (model P w) A (.call (.ref f) args) (CR CX outer P w H s Q E) s


section
variable {X : Cx} {pins : List (Addr × Obj)} {σ : St} {H : Hp} {s s' : Shared}
/-- from a body: what a callee wants -/
theorem Inv.env0 (I : Inv X pins σ H s) : Env0 X.prog X.w X.K X.mg X.base X.A X.stack s H :=
  ⟨I.ok.frames, I.ok.mod, I.bs, Nat.le_trans I.ok.bsz I.sz, I.stack, I.stkFree, I.hok, I.bare⟩
/-- behind a call -/
theorem Inv.after {Q : VK} {u : Value} (I : Inv X pins σ H s) (h : CE X.stack X.prog X.w H s Q u s') : EP X pins σ Q u s' := by
  obtain ⟨v, H', os, bare, un, hok, r, q⟩ := h
  obtain ⟨hh, g, d, t, os'⟩ := s'
  obtain rfl : os' = s.os := os
  exact ⟨v, H', I.call (h' := hh) (g' := g) (d' := d) (t' := t) (ch := []) un hok bare (fun b z => absurd z (by simp)), r, q⟩
end

/-! ### calls -/
/-- f(..): the written arguments, then the defaults dvs; E: what is wanted of an exception -/
def tCall (sp : Sp) (dvs : List V) (E : XK) (t : TA) : TE := fun σ H Q => t σ H fun vs H1 => sp (vs ++ dvs) H1 Q E

/-- how the parameters are bound: us the positional arguments, kw the keywords' values by name, ds the defaults that fill up -/
def Binds (K : PySem.W.Frag) (fd : FuncData) (ps : List Str) (ds : List Value) : Prop :=
  ∀ (s : Shared) (us : List Value), K.In s.heap → (us ++ ds).length = ps.length → BindsTo s fd ⟨us, []⟩ (ps.zip (us ++ ds))
/-- every parameter is given -/
theorem Binds.all {K : PySem.W.Frag} {fd : FuncData} {ps : List Str} (h : ∀ us : List Value, us.length = ps.length → bindArgs fd ⟨us, []⟩ = pure (ps.zip us)) : Binds K fd ps [] := fun s us _ hl => by
  rw [List.append_nil] at hl ⊢
  exact .of_eq (h us hl)

/-- an exception of a callee reaches what this body wants of exceptions -/
def Passes (CX : CXT) (X : Cx) (E : XK) : Prop := ∀ (pins : List (Addr × Obj)) (σ : St) (H : Hp) (s : Shared) (e : Value) (s' : Shared), Inv X pins σ H s → CX X.stack H s E e s' → X.xe e s'

section
variable {X : Cx} {CX : CXT} {k : Nat} {f C : Addr} {fd : FuncData} {ps : List Str} {sp : Sp} {dvs : List V} {ds : List Value} {E : XK} {x m : Str} {p pos apos : Pos} {e o : Expr} {es : List Expr} {ta : TE} {t : TA}

/-- the callee runs -/
theorem run_fn {pins : List (Addr × Obj)} {σ : St} {H : Hp} {s : Shared} {Q : VK} {us : List Value} {vs : List V} (F : FnOk X.prog X.w X.K X.mg X.base CX k f fd ps sp) (hr : Room k X.A) (hb : Binds X.K fd ps ds) (hd : Vals dvs ds) (hx : Passes CX X E)
    (I : Inv X pins σ H s) (r : Vals vs us) (h : sp (vs ++ dvs) H Q E) : wpAny (model X.prog X.w) X.A (call (.ref f) us) (EP X pins σ Q) X.xe s := by
  have r2 : Vals (vs ++ dvs) (us ++ ds) := r.append hd
  have hl : (us ++ ds).length = ps.length := by rw [← r2.length]; exact F.len _ _ _ _ h
  refine wpAny_call (codeAny_mono (F.run X.A X.stack s H ⟨us, []⟩ (us ++ ds) (vs ++ dvs) Q E hr I.env0 (hb s us I.kIn hl) r2 h) fun r s' hq => ?_)
  cases r with
  | error e => exact hx pins σ H s e s' I hq
  | ok fl =>
    cases fl with
    | ret u => exact I.after hq
    | next => exact False.elim hq
    | brk => exact False.elim hq
    | cont => exact False.elim hq

theorem pe_call (F : FnOk X.prog X.w X.K X.mg X.base CX k f fd ps sp) (hr : Room k X.A) (hg : Gl X x) (hm : X.mg x = some (.ref f)) (hk : PySem.W.keepIn X.K (.ref f) = true) (hb : Binds X.K fd ps ds) (hd : Vals dvs ds) (hx : Passes CX X E)
    (ha : PA X (e :: es) t) (hdb : (x == ("__debug__" : Str)) = false := by decide) (he : starEach (e :: es) X.env = (false, eval e X.env) :: starEach es X.env := by rfl) (hpl : (backTo pos (starEach es X.env)).any (·.1) = false := by rfl) :
    PE X (.Call (.Name x p) (e :: es) [] pos) (tCall sp dvs E t) := by
  intro pins s σ H Q I h
  refine wpAny_Call_Name_kw (ld_glob I hg hm ?_ hdb)
  refine PySem.W.callWith_K (h₀ := X.base) I.ok.mod.kin hk (thn (ha pos pins s σ H _ I h) fun us s1 ⟨vs, H1, I1, r, q⟩ => ⟨I1.kIn, ?_⟩) he hpl
  exact run_fn F hr hb hd hx I1 r q



end

/-! ### keywords -/
section
variable {X : Cx} {CX : CXT} {k : Nat} {f C : Addr} {fd : FuncData} {ps ks : List Str} {sp : Sp} {E : XK} {x m : Str} {p pos apos kpos : Pos} {e o : Expr} {es : List Expr} {kws : List Keyword} {te ta : TE} {t tk : TA} {nm : Option Str}

variable {g : List Value → List Value → List Value} {gV : List V → List V → List V}
end

/-! ### a def's body keeps its promise -/
/-- names: the parameters first -/
structure FnScope (N P : List Str) (sc : Scope) : Prop where
  kind : sc.kind = .function
  co : sc.isCoroutine = false
  gen : sc.isGenerator = false
  nd : N.Nodup
  pre : N.take P.length = P
  par : ∀ x ∈ P, sc.names.lookup x = some .local ∨ sc.names.lookup x = some .cell
  nofree : ∀ y ∈ sc.names, y.2 ≠ .free

theorem bindL_out {kindOf : Str → Option NameKind} {x : Str} : ∀ {binds : List (Str × Value)} {m : Str → Option Value}, (∀ v, (x, v) ∉ binds) → bindL kindOf binds m x = m x
  | [], _, _ => rfl
  | (n, v) :: r, m, h => by
    unfold bindL
    rw [bindL_out fun w hw => h w (List.mem_cons_of_mem _ hw)]
    split
    · have : x ≠ n := by rintro rfl; exact h v List.mem_cons_self
      simp [this]
    · rfl
theorem bindC_out {kindOf : Str → Option NameKind} {x : Str} : ∀ {binds : List (Str × Value)} {m : Str → Option Value}, (∀ v, (x, v) ∉ binds) → bindC kindOf binds m x = m x
  | [], _, _ => rfl
  | (n, v) :: r, m, h => by
    unfold bindC
    rw [bindC_out fun w hw => h w (List.mem_cons_of_mem _ hw)]
    split
    · rfl
    · have : x ≠ n := by rintro rfl; exact h v List.mem_cons_self
      simp [this]
theorem bindL_get {kindOf : Str → Option NameKind} {x : Str} {v : Value} : ∀ {P : List Str} {vs : List Value} {i : Nat} {m : Str → Option Value}, P.Nodup → P[i]? = some x → vs[i]? = some v → kindOf x = some .local →
    bindL kindOf (P.zip vs) m x = some v
  | [], _, _, _, _, h, _, _ => by simp at h
  | _ :: _, [], _, _, _, _, h, _ => by simp at h
  | p :: P, w :: vs, 0, m, nd, h1, h2, hk => by
    simp at h1 h2; subst h1; subst h2
    show bindL kindOf ((p, w) :: P.zip vs) m p = _
    unfold bindL
    rw [bindL_out fun v hv => (List.nodup_cons.mp nd).1 (List.of_mem_zip hv).1, if_pos hk]
    simp
  | p :: P, w :: vs, i + 1, m, nd, h1, h2, hk => by
    show bindL kindOf ((p, w) :: P.zip vs) m x = _
    unfold bindL
    exact bindL_get (i := i) (List.nodup_cons.mp nd).2 (by simpa using h1) (by simpa using h2) hk
theorem bindC_get {kindOf : Str → Option NameKind} {x : Str} {v : Value} : ∀ {P : List Str} {vs : List Value} {i : Nat} {m : Str → Option Value}, P.Nodup → P[i]? = some x → vs[i]? = some v → kindOf x ≠ some .local →
    bindC kindOf (P.zip vs) m x = some v
  | [], _, _, _, _, h, _, _ => by simp at h
  | _ :: _, [], _, _, _, _, h, _ => by simp at h
  | p :: P, w :: vs, 0, m, nd, h1, h2, hk => by
    simp at h1 h2; subst h1; subst h2
    show bindC kindOf ((p, w) :: P.zip vs) m p = _
    unfold bindC
    rw [bindC_out fun v hv => (List.nodup_cons.mp nd).1 (List.of_mem_zip hv).1, if_neg hk]
    simp
  | p :: P, w :: vs, i + 1, m, nd, h1, h2, hk => by
    show bindC kindOf ((p, w) :: P.zip vs) m x = _
    unfold bindC
    exact bindC_get (i := i) (List.nodup_cons.mp nd).2 (by simpa using h1) (by simpa using h2) hk

/-- the names' values at the entry -/
def start (N : List Str) (vs : List V) : St := vs.map some ++ List.replicate (N.length - vs.length) none

/-- the context of a def's body, at its entry; an exception leaves the frame, then lies as CX says -/
def cxOf (CX : CXT) (P : Program) (w : World) (K : PySem.W.Frag) (mg : Str → Option Value) (base : Heap) (N : List Str) (qual : Str) (scope : Scope) (f : Addr) (cd : Value) (A : Around) (outer : List Env) (s : Shared) (H : Hp) (E : XK) : Cx where
  prog := P
  w := w
  K := K
  mg := mg
  base := base
  A := A.deeper (envOfC qual scope s.heap.objs.size f cd)
  N := N
  s₀ := s
  H₀ := H
  env := envOfC qual scope s.heap.objs.size f cd
  outer := outer
  stack := envOfC qual scope s.heap.objs.size f cd :: outer
  ex := []
  calm := true
  fn := fun _ => true
  pn := []
  xe := fun e s' => wpAny (model P w) (A.deeper (envOfC qual scope s.heap.objs.size f cd)) (leaving (envOfC qual scope s.heap.objs.size f cd) e) (fun _ s'' => CX outer H s E e s'') (fun e' s'' => CX outer H s E e' s'') s'

theorem cell_has {sc : Scope} {n : Nat} {x : Str} (h : sc.names.lookup x = some .cell) : ∃ c, (cellsFrom n sc.names []).lookup x = some c := by
  have q := PySem.W.cellsFrom_some sc.names n [] (.inl h)
  exact Option.isSome_iff_exists.mp q

theorem inv_start {CX : CXT} {P : Program} {w : World} {K : PySem.W.Frag} {mg : Str → Option Value} {base : Heap} {N ps : List Str} {qual : Str} {scope : Scope} {f : Addr} {cd : Value} {A : Around} {outer : List Env} {s s1 : Shared} {H : Hp} {E : XK} {us : List Value} {vs : List V}
    (S : FnScope N ps scope) (hd : A.handled = none) (e0 : Env0 P w K mg base A outer s H) (hl : vs.length = ps.length) (r : Vals vs us)
    (x : InCallC s s.heap.objs.size (bindL (envOfC qual scope s.heap.objs.size f cd).kindOf (ps.zip us) fun _ => none) (cellsFrom (s.heap.objs.size + 1) scope.names []) (bindC (envOfC qual scope s.heap.objs.size f cd).kindOf (ps.zip us) fun _ => none) s1) :
    Inv (cxOf CX P w K mg base N qual scope f cd A outer s H E) [] (start N vs) H s1 := by
  have hpl : ps.length ≤ N.length := by have := congrArg List.length S.pre; rw [List.length_take] at this; omega
  obtain ⟨h1, tk, rfl, hk⟩ := x.done
  have noA : ∀ b : Addr, b ∉ (cxOf CX P w K mg base N qual scope f cd A outer s H E).ex := fun b z => absurd (show b ∈ ([] : List Addr) from z) (by simp)
  refine ⟨⟨e0.mod, S.kind, rfl, rfl, Nat.le_refl _, fun y z c h1 h2 => ?_, fun y hy => ?_, fun y c _ h => ?_, fun _ => hd, Around.frames_deeper e0.frames, .inr ⟨rfl, rfl⟩, fun b z => absurd z (noA b), e0.bs, e0.bsz, fun b _ _ => noA b, fun b z => absurd z (noA b), e0.funs, e0.frf⟩,
    rfl, e0.bare, Un.kept hk, ⟨_, x.toInCall.ns, fun i y v h1 h2 h3 => ?_⟩, fun y c h => ⟨_, x.cell y c h⟩, e0.hok.fresh (Nat.le_refl _), fun y c h => ?_, fun p hp => absurd (show p ∈ ([] : List (Addr × Obj)) from hp) (by simp), e0.hok.kept hk, ?_⟩
  · exact name_of_addr x.apart (PySem.mem_of_lookup h1) (PySem.mem_of_lookup h2)
  · have hy : scope.names.lookup y = some .cell ∨ scope.names.lookup y = some .free := hy
    rcases hy with hy | hy
    · exact cell_has hy
    · exact absurd rfl (S.nofree _ (PySem.mem_of_lookup hy))
  · exact Nat.le_of_lt (x.above y c (PySem.mem_of_lookup h))
  · have hi : i < vs.length := by
      unfold start at h2
      by_cases hi : i < vs.length
      · exact hi
      · rw [List.getElem?_append_right (by simpa using hi)] at h2
        rw [List.getElem?_replicate] at h2
        split at h2 <;> cases h2
    have ha : vs[i]? = some v := by
      unfold start at h2
      rw [List.getElem?_append_left (by simpa using hi), List.getElem?_map] at h2
      cases e : vs[i]? with
      | none => rw [e] at h2; cases h2
      | some a => rw [e] at h2; cases h2; rfl
    obtain ⟨u, hu, rv⟩ := r.get ha
    have hp : ps[i]? = some y := by
      rw [← S.pre, List.getElem?_take_of_lt (by omega)]; exact h1
    have ndP : ps.Nodup := by rw [← S.pre]; exact S.nd.sublist (List.take_sublist _ _)
    refine ⟨u, rv, ?_⟩
    rcases S.par y (List.mem_of_getElem? hp) with k | k
    · exact .inl ⟨k, bindL_get ndP hp hu k⟩
    · obtain ⟨c, e⟩ := cell_has (n := s.heap.objs.size + 1) k
      refine .inr ⟨.inl k, c, e, ?_⟩
      have q := x.cell y c e
      rw [bindC_get ndP hp hu (by show scope.names.lookup y ≠ _; rw [k]; decide)] at q
      exact q
  · exact e0.hok.fresh (Nat.le_of_lt (x.above y c (PySem.mem_of_lookup h)))
  · unfold start
    show _ = N.length
    rw [List.length_append, List.length_map, List.length_replicate]
    omega

/-- THE RULE: a def (or a method) of the text, by its body. The body's reading t is chosen for each entry; it is run at the parameters' values -/
theorem fn_of {CX : CXT} {P : Program} {w : World} {K : PySem.W.Frag} {mg : Str → Option Value} {base : Heap} {k : Nat} {f : Addr} {name qual : Str} {params : Arguments} {body : List Stmt} {scope : Scope} {dV kV doc pm cdv ct oc : Value} {an od : Option Addr}
    {osl : Array (Option Value)} {N ps : List Str} {sp : Sp} (lk : K.lookup f = some ⟨oc, od, .func (PySem.W.fnOf name qual params body scope dV kV doc pm an cdv ct), osl⟩) (hcd : PySem.W.codeIn K cdv qual = true) (S : FnScope N ps scope)
    (len : ∀ vs H Q E, sp vs H Q E → vs.length = ps.length)
    (hbody : ∀ (A : Around) (outer : List Env) (s : Shared) (H : Hp) (vs : List V) (Q : VK) (E : XK), Room k (A.deeper (envOfC qual scope s.heap.objs.size f cdv)) → sp vs H Q E →
      ∃ t, PSs (cxOf CX P w K mg base N qual scope f cdv A outer s H E) body t ∧ t { nx := fun _ H' => Q .non H', rt := Q } (start N vs) H) :
    FnOk P w K mg base CX (k + 1) f (PySem.W.fnOf name qual params body scope dV kV doc pm an cdv ct) ps sp := by
  refine ⟨len, fun A outer s H args us vs Q E hr e0 hb r hsp => ?_⟩
  have hl := len _ _ _ _ hsp
  have KX : K.In s.heap := e0.mod.kin.keeps fun b o e => (e0.bs b o e).1
  have lim : s.heap.NoLimit := e0.mod.nolimit.keeps fun b o e => (e0.bs b o e).1
  have hkind : ∀ y ∈ ps.zip us, scope.names.lookup y.1 = some .local ∨ (scope.names.lookup y.1 = some .cell ∧ ((cellsFrom (s.heap.objs.size + 1) scope.names []).lookup y.1).isSome = true) := fun ⟨n, v⟩ hy => by
    rcases S.par n (List.of_mem_zip hy).1 with q | q
    · exact .inl q
    · exact .inr ⟨q, PySem.W.cellsFrom_some _ _ _ (.inl q)⟩
  refine codeAny_call_function hr.depth (KX _ _ lk) rfl S.co S.gen rfl (PySem.W.codeRec_of KX hcd) (hb _ _ _ _ ?_)
  refine wpAny_newFunctionEnv_cells S.kind hkind fun env he s1 x => ?_
  subst he
  refine ⟨lim.keeps x.toInCall.keep, codeAny_func ?_⟩
  obtain ⟨t, ht, hq⟩ := hbody A outer s H vs Q E (hr.deeper _) hsp
  have I : Inv (cxOf CX P w K mg base N qual scope f cdv A outer s H E) [] (start N vs) H s1 := inv_start S hr.hd e0 hl r x
  refine wpAny_mono (ht [] s1 (start N vs) H _ I hq) (fun fl s' hs => ?_) fun e s' hs => hs
  have fin : ∀ {σ' : St} {H' : Hp} {v : V} {u : Value}, Inv (cxOf CX P w K mg base N qual scope f cdv A outer s H E) [] σ' H' s' → RelV v u → Q v H' → CE outer P w H s Q u s' :=
    fun {σ' H' v u} J rv q => ⟨v, H', J.os, J.bare, J.base, J.hok, rv, q⟩
  cases fl with
  | ret u =>
    obtain ⟨v, σ', H', J, rv, q⟩ := hs
    exact fin J rv q
  | next =>
    obtain ⟨σ', H', J, q⟩ := hs
    exact fin (v := V.non) (u := Value.none) J rfl q
  | brk =>
    obtain ⟨_, _, _, q⟩ := hs
    exact False.elim q
  | cont =>
    obtain ⟨_, _, _, q⟩ := hs
    exact False.elim q
end L2

namespace L2
open PySem PySem.Spec PyProof.Rows
section
variable {X : Cx} {x : Str} {p pos : Pos} {e : Expr} {es : List Expr} {t : TA} {id T : String} {r : List V → Hp → VK → Prop}

def tCB (r : List V → Hp → VK → Prop) (t : TA) : TE := fun σ H Q => t σ H fun vs H1 => r vs H1 Q
/-- f(e, ..), f a built-in function -/
theorem pe_callB (hc : CallR X (.builtin id) r) (hg : Gl X x) (hm : X.mg x = none) (hv : bootBuiltins x = some (.builtin id)) (ha : PA X (e :: es) t) (hn : x ≠ "__name__" := by decide) (hdb : (x == ("__debug__" : Str)) = false := by decide)
    (he : starEach (e :: es) X.env = (false, eval e X.env) :: starEach es X.env := by rfl) (hpl : (backTo pos (starEach es X.env)).any (·.1) = false := by rfl) : PE X (.Call (.Name x p) (e :: es) [] pos) (tCB r t) := by
  intro pins s σ H Q I h
  refine wpAny_Call_Name_kw (ld_blt I hg hm hv ?_ hn hdb)
  exact PyProof.Rows.callWith_builtin1 (thn (ha pos pins s σ H _ I h) fun us s1 ⟨vs, H1, I1, r1, q1⟩ => hc pins s1 σ H1 vs us Q I1 r1 q1) he hpl
/-- T(e, ..), T a built-in type -/
theorem pe_callTy (hc : CallR X (.type T) r) (hg : Gl X x) (hm : X.mg x = none) (hv : bootBuiltins x = some (.type T)) (ha : PA X (e :: es) t) (hn : x ≠ "__name__" := by decide) (hdb : (x == ("__debug__" : Str)) = false := by decide)
    (he : starEach (e :: es) X.env = (false, eval e X.env) :: starEach es X.env := by rfl) (hpl : (backTo pos (starEach es X.env)).any (·.1) = false := by rfl) : PE X (.Call (.Name x p) (e :: es) [] pos) (tCB r t) := by
  intro pins s σ H Q I h
  refine wpAny_Call_Name_kw (ld_blt I hg hm hv ?_ hn hdb)
  exact PyProof.Rows.callWith_type1 (thn (ha pos pins s σ H _ I h) fun us s1 ⟨vs, H1, I1, r1, q1⟩ => hc pins s1 σ H1 vs us Q I1 r1 q1) he hpl
end
end L2

namespace HT
open PySem PyProof.Rows



section
open PySem.SeqAt
open PySem.AutoSeq1 (wpAny_loadPart')
open PySem.MeetsSeq PySem.MeetsSeq2 PySem.MeetsSeq3

end

section
variable {prog : Program} {w : World} {A : Around} {E : Value → Shared → Prop} {s : Shared}


/-- t + u, t not empty -/
theorem cat_tup {t b : Addr} {vs ws : List Value} {Q : Value → Shared → Prop} (ht : IsTup s.heap t vs.toArray) (hb : IsTup s.heap b ws.toArray) (hv : vs ≠ [])
    (h1 : ws = [] → Q (.ref t) s) (h2 : ws ≠ [] → Q (.ref s.heap.objs.size) { s with heap := s.heap.push { cls := .type "tuple", data := .seq (vs ++ ws).toArray } })
    (hsz : vs.length + ws.length ≤ sizeLine) : wpAny (model prog w) A (binaryOp .Add (.ref t) (.ref b)) Q E s := by
  obtain ⟨⟨cls, dd, data, sl⟩, ho, hc, n, hd⟩ := id ht
  obtain ⟨⟨cls2, dd2, data2, sl2⟩, ho2, hc2, n2, hd2⟩ := id hb
  simp only at hc hd hc2 hd2
  subst hc hd hc2 hd2
  have e : vs.toArray ++ ws.toArray = (vs ++ ws).toArray := by simp
  by_cases hw : ws = []
  · exact concat_meets ⟨_, ho, rfl⟩ ⟨_, ho2, rfl⟩ noFill_tuple_add seq_tuple_add PySem.F.slot_tuple_add PySem.F.entry_tuple_add (PySem.F.args_tuple_add_2 _ _)
      (tuple_addW1 t b vs.toArray ws.toArray n n2 dd dd2 sl sl2 (by simpa using hv) (by simp [hw])) ⟨ho, ho2, h1 hw⟩
  · refine concat_meets ⟨_, ho, rfl⟩ ⟨_, ho2, rfl⟩ noFill_tuple_add seq_tuple_add PySem.F.slot_tuple_add PySem.F.entry_tuple_add (PySem.F.args_tuple_add_2 _ _)
      (tuple_addW2 t b vs.toArray ws.toArray n n2 dd dd2 sl sl2 (by simpa using hv) (by simpa using hw) (by rw [List.size_toArray, List.size_toArray]; exact hsz)) ⟨ho, ho2, ?_⟩
    rw [e]
    exact h2 hw

/-! ### t[a:b], not the whole -/
/-- a slice's bound as a place among n (d where it is left out) -/
def sIx (n d : Nat) : Option Int → Nat
  | none => d
  | some v => if v < 0 then (v + (n : Int)).toNat else min v.toNat n
theorem sIx_none (n d : Nat) : sIx n d none = d := rfl
theorem sIx_nat (n d k : Nat) : sIx n d (some (k : Int)) = min k n := by
  show (if (k : Int) < 0 then ((k : Int) + (n : Int)).toNat else min (k : Int).toNat n) = min k n
  rw [if_neg (by omega), Int.toNat_natCast]
theorem sIx_le (n d : Nat) (hd : d ≤ n) (o : Option Int) : sIx n d o ≤ n := by
  cases o with
  | none => exact hd
  | some v =>
    show (if v < 0 then (v + (n : Int)).toNat else min v.toNat n) ≤ n
    by_cases hv : v < 0
    · rw [if_pos hv]; omega
    · rw [if_neg hv]; exact Nat.min_le_right _ _
theorem clip_eq (v : Int) (n d : Nat) : (if v < 0 then max (v + (n : Int)) 0 else min v (n : Int)) = ((sIx n d (some v) : Nat) : Int) := by
  show (if v < 0 then max (v + (n : Int)) 0 else min v (n : Int)) = (((if v < 0 then (v + (n : Int)).toNat else min v.toNat n) : Nat) : Int)
  by_cases hv : v < 0
  · simp only [if_pos hv]; omega
  · simp only [if_neg hv]; omega
theorem adjust_gen (lo hi : Option Int) (n : Nat) : Builtin.Slice.sliceAdjust lo hi 1 (n : Int) = (((sIx n 0 lo : Nat) : Int), ((sIx n n hi : Nat) : Int)) := by
  have h1 : ¬ ((1 : Int) < 0) := by omega
  unfold Builtin.Slice.sliceAdjust
  simp only [h1, if_false]
  refine Prod.ext ?_ ?_
  · cases lo with
    | none => rfl
    | some v => exact clip_eq v n 0
  · cases hi with
    | none => rfl
    | some v => exact clip_eq v n n
theorem places_gen (i j : Nat) : Builtin.Slice.slicePlaces (i : Int) (j : Int) 1 = j - i := by
  unfold Builtin.Slice.slicePlaces
  have h1 : (1 : Int) > 0 := by omega
  simp only [h1, if_true, Int.ediv_one]
  split <;> omega
theorem slicePart_ {v : Value} {o : Option Int} {Q : Option Int → Shared → Prop} (p : IsPart v o) (h : Q o s) : wpAny (model prog w) A (Builtin.Slice.slicePartIndex v) Q E s := by
  cases p with
  | none => exact slicePart_none h
  | int i t => exact slicePart_int h
theorem sliceApplied_gen {sl : Addr} {vl vu : Value} {lo hi : Option Int} {n : Nat} {Q : Int × Int × Nat → Shared → Prop} (hs : s.heap.IsSliceOf sl vl vu .none) (pl : IsPart vl lo) (pu : IsPart vu hi)
    (h : Q (((sIx n 0 lo : Nat) : Int), 1, sIx n n hi - sIx n 0 lo) s) : wpAny (model prog w) A (Builtin.Slice.sliceApplied (.ref sl) (pure (n : Int))) Q E s := by
  obtain ⟨os, hos, hcs, hds⟩ := id hs
  unfold Builtin.Slice.sliceApplied Builtin.Slice.sliceFields
  refine wpAny_bind (wpAny_bind (wpAny_field hos hds (x := vl) rfl (wpAny_bind (wpAny_field hos hds (x := vu) rfl (wpAny_bind (wpAny_field hos hds (x := .none) rfl (wpAny_pure ?_)))))))
  refine wpAny_bind (slicePart_none ?_)
  show wpAny _ _ (if ((1 : Int) == 0) = true then _ else _) _ _ s
  rw [if_neg (by decide)]
  refine wpAny_bind (slicePart_ pl (wpAny_bind (slicePart_ pu (wpAny_bind (wpAny_pure ?_)))))
  show wpAny _ _ (match Builtin.Slice.sliceAdjust lo hi 1 (n : Int) with | (lo, hi) => pure (lo, (1 : Int), Builtin.Slice.slicePlaces lo hi 1)) _ _ s
  rw [adjust_gen lo hi n]
  show wpAny _ _ (pure (((sIx n 0 lo : Nat) : Int), (1 : Int), Builtin.Slice.slicePlaces ((sIx n 0 lo : Nat) : Int) ((sIx n n hi : Nat) : Int) 1)) _ _ s
  rw [places_gen]
  exact wpAny_pure h
theorem pick_gen (xs : Array Value) (i k : Nat) : ((List.range k).filterMap fun (m : Nat) => xs[((i : Int) + (m : Int) * 1).toNat]?).toArray = ((xs.toList.drop i).take k).toArray := by
  have e : (fun (m : Nat) => xs[((i : Int) + (m : Int) * 1).toNat]?) = fun m => xs[i + m]? := by
    funext m
    have : ((i : Int) + (m : Int) * 1).toNat = i + m := by omega
    rw [this]
  rw [e]
  have := pick_run xs i k
  rw [List.filterMap_map] at this
  have e2 : ((fun x => xs[x]?) ∘ fun x => i + x) = fun m => xs[i + m]? := rfl
  rw [e2] at this
  rw [this]

theorem getItem_tuple_cut {t sl : Addr} {items : Array Value} {vl vu : Value} {lo hi : Option Int} {Q : Value → Shared → Prop} (ht : IsTup s.heap t items) (hs : s.heap.IsSliceOf sl vl vu .none) (pl : IsPart vl lo) (pu : IsPart vu hi)
    (hw : ¬ (sIx items.size 0 lo = 0 ∧ sIx items.size items.size hi = items.size))
    (h : Q (.ref s.heap.objs.size) { s with heap := s.heap.push { cls := .type "tuple", data := .seq ((items.toList.drop (sIx items.size 0 lo)).take (sIx items.size items.size hi - sIx items.size 0 lo)).toArray } })
    (hsz : items.size ≤ sizeLine) : wpAny (model prog w) A (getItem (.ref t) (.ref sl)) Q E s := by
  have htake : sizeOk (.seq ((items.toList.drop (sIx items.size 0 lo)).take (sIx items.size items.size hi - sIx items.size 0 lo)).toArray) := by
    show ((items.toList.drop (sIx items.size 0 lo)).take (sIx items.size items.size hi - sIx items.size 0 lo)).toArray.size ≤ sizeLine
    rw [List.size_toArray, List.length_take, List.length_drop, Array.length_toList]
    omega
  have hj : sIx items.size items.size hi ≤ items.size := sIx_le _ _ (Nat.le_refl _) hi
  obtain ⟨os, hos, hcs, hds⟩ := id hs
  have hTs : s.TypeIs (.ref sl) "slice" := ⟨os, hos, hcs⟩
  unfold getItem
  try with_reducible refine wpAny_holding ?_
  first | refine wpAny_bind (wpAny_pure ?_) | skip
  refine wpAny_bind (wpAny_sequenceKey ht.typeIs (by decide) ?_)
  refine wpAny_bind (wpAny_callSpecial?_slot (name := Str.ofString "__getitem__") ht.typeIs PyProof.Rows.slot_tuple_getitem
    (wpAny_call_entry PyProof.Rows.slot_tuple_getitem ht.typeIs entry_tuple_getitem ?_ (args_tuple_getitem _ _)))
  show wpAny _ _ (Builtin.Tuple.tupleItemsOf (.ref t) >>= _) _ _ s
  refine wpAny_bind (tupleItemsOf_ ht ?_)
  refine wpAny_bind (wpAny_typeOf hTs ?_)
  rw [if_pos (by decide)]
  refine wpAny_bind (sliceApplied_gen hs pl pu ?_)
  have hno : ¬ ((((sIx items.size 0 lo : Nat) : Int) == 0 && (1 : Int) == 1 && (sIx items.size items.size hi - sIx items.size 0 lo) == items.size) = true) := by
    intro q
    rw [Bool.and_eq_true, Bool.and_eq_true] at q
    have q1 : ((sIx items.size 0 lo : Nat) : Int) = 0 := eq_of_beq q.1.1
    have q2 : sIx items.size items.size hi - sIx items.size 0 lo = items.size := eq_of_beq q.2
    exact hw ⟨by omega, by omega⟩
  show wpAny _ _ (if (((sIx items.size 0 lo : Nat) : Int) == 0 && (1 : Int) == 1 && (sIx items.size items.size hi - sIx items.size 0 lo) == items.size) = true then _ else _) _ _ s
  rw [if_neg hno, pick_gen]
  first
    | exact wpAny_bind (m := Builtin.Tuple.tupleExact _) (wpAny_newObj_type (wpAny_pure ⟨_, rfl, wpAny_pure h⟩) htake)
    | exact wpAny_bind (m := Builtin.Tuple.tupleExact _) (wpAny_newObj_type (wpAny_bind (wpAny_pure (wpAny_pure ⟨_, rfl, wpAny_pure h⟩))) htake)
    | exact wpAny_bind (wpAny_bind (m := Builtin.Tuple.tupleExact _) (wpAny_newObj_type (wpAny_pure (wpAny_pure ⟨_, rfl, wpAny_pure h⟩)) htake))
    | exact wpAny_bind (wpAny_bind (m := Builtin.Tuple.tupleExact _) (wpAny_newObj_type (wpAny_pure ⟨_, rfl, wpAny_pure h⟩) htake))
end
end HT

namespace L2
open PySem PySem.Spec PyProof.Rows

/-! ### the parts of a slice -/
abbrev TO := St → Hp → (Option Int → Hp → Prop) → Prop
/-- a slice's part (left out, or an int) -/
def PO (X : Cx) (e : Option Expr) (t : TO) : Prop :=
  ∀ (pins : List (Addr × Obj)) (s : Shared) (σ : St) (H : Hp) (Q : Option Int → Hp → Prop), Inv X pins σ H s → t σ H Q →
    wpAny (model X.prog X.w) X.A (evalPart e X.env) (fun u s' => ∃ o H', Inv X pins σ H' s' ∧ IsPart u o ∧ Q o H') X.xe s
def tNoPart : TO := fun _ H Q => Q none H
def tPart (t : TE) : TO := fun σ H Q => t σ H fun x H1 => ∃ i, x = .int i ∧ Q (some i) H1


section
variable {X : Cx} {e : Expr} {te : TE} {lo hi : Option Expr} {tl th : TO} {pos p2 : Pos}

theorem po_none : PO X none tNoPart := by
  intro pins s σ H Q I h
  rw [evalPart_none]
  exact wpAny_pure ⟨none, H, I, .none, h⟩
theorem po_some (h : PE X e te) : PO X (some e) (tPart te) := by
  intro pins s σ H Q I hw
  rw [evalPart_some]
  refine thn (h pins s σ H _ I hw) fun u s1 ⟨x, H1, I1, r1, q1⟩ => ?_
  obtain ⟨i, rfl, q⟩ := q1
  obtain ⟨t, rfl⟩ := r1
  exact ⟨some i, H1, I1, .int i t, q⟩

/-- what a slice of a value is, by values: the slice object stands at sl -/
def SlR (X : Cx) (r : V → Option Int → Option Int → Hp → VK → Prop) : Prop :=
  ∀ (pins : List (Addr × Obj)) (s : Shared) (σ : St) (H : Hp) (x : V) (v vl vu : Value) (lo hi : Option Int) (sl : Addr) (Q : VK), Inv X pins σ H s → RelV x v → s.heap.IsSliceOf sl vl vu .none → IsPart vl lo → IsPart vu hi → r x lo hi H Q →
    ∃ T id, typeLookup (.type T) "__getitem__" = pure (some (.builtin id)) ∧ s.TypeIs v T ∧ wpAny (model X.prog X.w) X.A (getItem v (.ref sl)) (EP X pins σ Q) X.xe s
def tSl (r : V → Option Int → Option Int → Hp → VK → Prop) (te : TE) (tl th : TO) : TE := fun σ H Q => te σ H fun x H1 => tl σ H1 fun l H2 => th σ H2 fun u H3 => r x l u H3 Q
/-- a[lo:hi], any a -/
theorem pe_slice {r : V → Option Int → Option Int → Hp → VK → Prop} (hr : SlR X r) (he : PE X e te) (hl : PO X lo tl) (hu : PO X hi th) : PE X (.Subscript e (.Slice lo hi none p2) pos) (tSl r te tl th) := by
  intro pins s σ H Q I h
  refine Subscript_ (thn (he pins s σ H _ I h) fun v s1 ⟨x, H1, I1, r1, q1⟩ => ?_)
  refine wpAny_Slice (thn (hl pins s1 σ H1 _ I1 q1) fun vl s2 ⟨l, H2, I2, pl, q2⟩ => thn (hu pins s2 σ H2 _ I2 q2) fun vu s3 ⟨u, H3, I3, pu, q3⟩ => ?_)
  rw [evalPart_none]
  refine wpAny_pure ?_
  have I4 : Inv X pins σ H3 { s3 with heap := s3.heap.push { cls := .type "slice", data := .fields #[vl, vu, .none] } } := I3.kept (t' := s3.toks) fun b ob q => Heap.get?_push_of_some _ q
  obtain ⟨T, id, hT, ht, hg⟩ := hr pins { s3 with heap := s3.heap.push { cls := .type "slice", data := .fields #[vl, vu, .none] } } σ H3 x v vl vu l u s3.heap.objs.size Q I4 r1 (Heap.IsSliceOf.new ..) pl pu q3
  show wpAny (model X.prog X.w) X.A (subscriptTail e (.Slice lo hi none p2) v (.ref s3.heap.objs.size)) (EP X pins σ Q) X.xe { s3 with heap := s3.heap.push { cls := .type "slice", data := .fields #[vl, vu, .none] } }
  exact tail_any (ops := [.ref s3.heap.objs.size, v]) ht hT hg (by with_unfolding_all rfl)

/-- the items of xs[lo:hi] -/
def cutV (xs : List V) (lo hi : Option Int) : List V := (xs.drop (HT.sIx xs.length 0 lo)).take (HT.sIx xs.length xs.length hi - HT.sIx xs.length 0 lo)
theorem cutV_length (xs : List V) (lo hi : Option Int) : (cutV xs lo hi).length ≤ xs.length := by
  unfold cutV
  rw [List.length_take, List.length_drop]
  omega
/-- t[lo:hi], not the whole of it (the whole would be t itself) -/
def rSlT (K : PySem.W.Frag) : V → Option Int → Option Int → Hp → VK → Prop := fun x lo hi H Q => ∃ a xs, x = .ref a ∧ SqT K H a xs ∧
  ¬ (HT.sIx xs.length 0 lo = 0 ∧ HT.sIx xs.length xs.length hi = xs.length) ∧ ∀ p, H p = none → Q (.ref p) (upd H p (.tup (cutV xs lo hi)))
theorem sl_tup : SlR X (rSlT X.K) := by
  intro pins s σ H x v vl vu lo hi sl Q I rx hs pl pu h
  obtain ⟨a, xs, rfl, hx, hw, q⟩ := h
  cases rx
  obtain ⟨its, r, ht, hz⟩ := I.tuple hx
  have hlen : its.toArray.size = xs.length := by rw [List.size_toArray]; exact r.length.symm
  refine ⟨"tuple", _, PyProof.Rows.slot_tuple_getitem.lookup, ht.typeIs, ?_⟩
  refine HT.getItem_tuple_cut ht hs pl pu (by rw [hlen]; exact hw) ?_ (by rw [hlen]; exact hz)
  rw [hlen]
  refine ⟨.ref s.heap.objs.size, _, I.laid (t' := s.toks) (o := .tup (cutV xs lo hi)) (fun b ob q => Heap.get?_push_of_some _ q) (Nat.le_refl _) ?_, rfl, q _ (I.hok.fresh (Nat.le_refl _))⟩
  exact ⟨Nat.le_trans (cutV_length xs lo hi) hz, _, (r.drop (HT.sIx xs.length 0 lo)).take (HT.sIx xs.length xs.length hi - HT.sIx xs.length 0 lo), IsTup.new _ _⟩

/-! ### t < u, t + u -/
/-- t + u, t not empty: u empty gives t itself -/
def rCatT (K : PySem.W.Frag) : R2 := fun x y H Q => ∃ a b xs ys, x = .ref a ∧ y = .ref b ∧ SqT K H a xs ∧ SqT K H b ys ∧ xs ≠ [] ∧ xs.length + ys.length ≤ sizeLine ∧
  (ys = [] → Q (.ref a) H) ∧ (ys ≠ [] → ∀ p, H p = none → Q (.ref p) (upd H p (.tup (xs ++ ys))))
theorem Vals.nil_iff {xs : List V} {us : List Value} (r : Vals xs us) : us = [] ↔ xs = [] := by
  cases r with
  | nil => simp
  | cons _ _ => simp
theorem op_catT : OpR X (binaryOp .Add) (rCatT X.K) := by
  intro pins s σ H x y v u Q I rx ry h
  obtain ⟨a, b, xs, ys, rfl, rfl, ha, hb, hx, hz, q1, q2⟩ := h
  cases rx
  cases ry
  obtain ⟨its, r1, p1, _⟩ := I.tuple ha
  obtain ⟨its2, r2, p2, _⟩ := I.tuple hb
  refine HT.cat_tup p1 p2 (fun z => hx (r1.nil_iff.mp z)) (fun z => ⟨.ref a, H, I, rfl, q1 (r2.nil_iff.mp z)⟩) (fun z => ?_) (by rw [← r1.length, ← r2.length]; exact hz)
  refine ⟨.ref s.heap.objs.size, _, I.laid (t' := s.toks) (o := .tup (xs ++ ys)) (fun b ob q => Heap.get?_push_of_some _ q) (Nat.le_refl _) ?_, rfl, q2 (fun w => z (r2.nil_iff.mpr w)) _ (I.hok.fresh (Nat.le_refl _))⟩
  exact ⟨by rw [List.length_append]; exact hz, _, r1.append r2, IsTup.new _ _⟩
end
end L2

namespace L2
open PySem PySem.Spec PyProof.Rows

/-! ### places -/
/-- the place that an index of any sign means -/
def ixN (n : Nat) (i : Int) : Option Nat := if 0 ≤ i then (if i < n then some i.toNat else none) else if -(n : Int) ≤ i then some (i + n).toNat else none
def atI {α : Type} (xs : List α) (i : Int) : Option α := (ixN xs.length i).bind fun j => xs[j]?
theorem ixN_seq {n : Nat} {i : Int} {j : Nat} (h : ixN n i = some j) : seqIndex? i n = some j ∧ j < n ∧ -(n : Int) ≤ i ∧ i < n := by
  unfold ixN at h
  by_cases h0 : 0 ≤ i
  · rw [if_pos h0] at h
    by_cases h1 : i < n
    · rw [if_pos h1] at h
      have e : i.toNat = j := Option.some.inj h
      exact ⟨by rw [seqIndex_of h0 h1, e], by omega, by omega, h1⟩
    · rw [if_neg h1] at h; cases h
  · rw [if_neg h0] at h
    by_cases h1 : -(n : Int) ≤ i
    · rw [if_pos h1] at h
      have e : (i + n).toNat = j := Option.some.inj h
      exact ⟨by rw [seqIndex_neg (by omega) h1, e], by omega, h1, by omega⟩
    · rw [if_neg h1] at h; cases h
theorem atI_get {α : Type} {xs : List α} {i : Int} {v : α} (h : atI xs i = some v) : ∃ j, seqIndex? i xs.length = some j ∧ xs[j]? = some v ∧ j < xs.length ∧ -(xs.length : Int) ≤ i ∧ i < xs.length := by
  unfold atI at h
  cases e : ixN xs.length i with
  | none => rw [e] at h; cases h
  | some j =>
    rw [e] at h
    obtain ⟨h1, h2, h3, h4⟩ := ixN_seq e
    exact ⟨j, h1, h, h2, h3, h4⟩
theorem atI_nat {α : Type} {xs : List α} {j : Nat} {v : α} (h : xs[j]? = some v) : atI xs (j : Int) = some v := by
  have hj : j < xs.length := (List.getElem?_eq_some_iff.mp h).1
  have e : ixN xs.length (j : Int) = some j := by
    unfold ixN
    rw [if_pos (by omega), if_pos (by omega)]; simp
  unfold atI; rw [e]; exact h

/-! ### what may be subscripted -/
/-- what stands as an index of a plain subscript -/
def PlainIx (b : Expr) : Prop := ∀ o i, subscripted b false o i = operate [o, i] (getItem o i)
/-- a subscript by values -/
def IxR (X : Cx) (r : R2) : Prop :=
  ∀ (value slice : Expr) (pins : List (Addr × Obj)) (s : Shared) (σ : St) (H : Hp) (x y : V) (v u : Value) (Q : VK), Inv X pins σ H s → RelV x v → RelV y u → r x y H Q →
    subscripted slice false v u = operate [v, u] (getItem v u) → wpAny (model X.prog X.w) X.A (subscriptTail value slice v u) (EP X pins σ Q) X.xe s
/-- a call of a builtin's method by values: the receiver, the arguments -/
def MtR (X : Cx) (id : String) (r : V → List V → Hp → VK → Prop) : Prop :=
  ∀ (pins : List (Addr × Obj)) (s : Shared) (σ : St) (H : Hp) (x : V) (xs : List V) (v : Value) (us : List Value) (Q : VK), Inv X pins σ H s → RelV x v → Vals xs us → r x xs H Q →
    wpAny (model X.prog X.w) X.A (call (.builtin id) (v :: us)) (EP X pins σ Q) X.xe s
section
variable {X : Cx} {a b : Expr} {ta tb : TE} {pos : Pos}
theorem IxR.or {r r' : R2} (h : IxR X r) (h' : IxR X r') : IxR X (fun x y H Q => r x y H Q ∨ r' x y H Q) := by
  intro value slice pins s σ H x y v u Q I rx ry q hs
  rcases q with q | q
  · exact h value slice pins s σ H x y v u Q I rx ry q hs
  · exact h' value slice pins s σ H x y v u Q I rx ry q hs
/-- a[b] -/
theorem pe_ix {r : R2} (hr : IxR X r) (ha : PE X a ta) (hb : PE X b tb) (hs : PlainIx b) : PE X (.Subscript a b pos) (tOp r ta tb) := by
  intro pins s σ H Q I h
  exact Subscript_ (binT ha hb I h fun v u s2 x y H2 I2 rx ry q => hr a b pins s2 σ H2 x y v u Q I2 rx ry q (hs _ _))

def rIxL (K : PySem.W.Frag) : R2 := fun x y H Q => ∃ p xs i v, x = .ref p ∧ y = .int i ∧ SqL K H p xs ∧ atI xs i = some v ∧ Q v H
def rIxT (K : PySem.W.Frag) : R2 := fun x y H Q => ∃ p xs i v, x = .ref p ∧ y = .int i ∧ SqT K H p xs ∧ atI xs i = some v ∧ Q v H
def rIxS : R2 := fun x y H Q => ∃ z i c, x = .str z ∧ y = .int i ∧ z.length ≤ sizeLine ∧ atI z.cps.toList i = some c ∧ Q (.str ⟨#[c]⟩) H
theorem ix_list : IxR X (rIxL X.K) := by
  intro value slice pins s σ H x y v u Q I rx ry h hs
  obtain ⟨p, xs, i, z, rfl, rfl, hq, he, q⟩ := h
  cases rx
  obtain ⟨t, rfl⟩ := ry
  obtain ⟨its, r, pl, hz⟩ := I.list hq
  obtain ⟨j, h1, h2, h3, h4, h5⟩ := atI_get he
  obtain ⟨w, ew, rw'⟩ := r.get h2
  have hl := r.length
  have hn := line63
  have fin : EP X pins σ Q w s := ⟨z, H, I, rw', q⟩
  by_cases h0 : 0 ≤ i
  · have hj : i.toNat = j := by
      rw [seqIndex_of h0 h5] at h1
      exact Option.some.inj h1
    exact item_listR pl.isList h0 (by omega) (by rw [hj]; simpa using ew) fin hs
  · have hj : (i + (its.toArray.size : Int)).toNat = j := by
      rw [seqIndex_neg (by omega) h4] at h1
      rw [List.size_toArray, ← hl]
      exact Option.some.inj h1
    exact subscriptTail_builtinR (x := w) pl.isList.typeIs slot_list_getitem.lookup
      (wpAny_getItem_list_neg (Q := fun r s' => r = w ∧ EP X pins σ Q r s') pl.isList (by omega) (by rw [List.size_toArray] <;> omega) (by omega) (by rw [hj]; simpa using ew) ⟨rfl, fin⟩) hs
theorem ix_tup : IxR X (rIxT X.K) := by
  intro value slice pins s σ H x y v u Q I rx ry h hs
  obtain ⟨p, xs, i, z, rfl, rfl, hq, he, q⟩ := h
  cases rx
  obtain ⟨t, rfl⟩ := ry
  obtain ⟨its, r, pl, hz⟩ := I.tuple hq
  obtain ⟨j, h1, h2, h3, h4, h5⟩ := atI_get he
  obtain ⟨w, ew, rw'⟩ := r.get h2
  have hl := r.length
  have hn := line63
  have fin : EP X pins σ Q w s := ⟨z, H, I, rw', q⟩
  exact subscriptTail_builtinR (x := w) pl.typeIs slot_tuple_getitem.lookup
    (getItem_tuple (j := j) (Q := fun r s' => r = w ∧ EP X pins σ Q r s') pl (by omega) (by omega) (by rw [List.size_toArray, ← hl]; exact h1) (by simpa using ew) ⟨rfl, fin⟩) hs
theorem ix_str : IxR X rIxS := by
  intro value slice pins s σ H x y v u Q I rx ry h hs
  obtain ⟨z, i, c, rfl, rfl, hz, he, q⟩ := h
  obtain ⟨t, rfl⟩ := rx
  obtain ⟨t', rfl⟩ := ry
  obtain ⟨j, h1, h2, h3, h4, h5⟩ := atI_get he
  have hl : z.cps.toList.length = z.length := by simp [Str.length]
  rw [hl] at h1 h4 h5
  have hn := line63
  exact tail_any (typeIs_str s z t) slot_str_getitem.lookup (getItem_str (c := c) (by
    have e1 : decide (i < -(2 ^ 63 : Int)) = false := decide_eq_false (by omega)
    have e2 : decide (i ≥ 2 ^ 63) = false := decide_eq_false (by omega)
    rw [e1, e2, Bool.or_false]) (by rw [h1]; simpa using h2) ⟨.str ⟨#[c]⟩, H, I.tok _, ⟨_, rfl⟩, q⟩) hs
/-- list, tuple or str -/
def rIx (K : PySem.W.Frag) : R2 := fun x y H Q => rIxL K x y H Q ∨ rIxT K x y H Q ∨ rIxS x y H Q
theorem ix_seq : IxR X (rIx X.K) := ix_list.or (ix_tup.or ix_str)

/-! ### xs[i] = v, any sign -/
/-- the list's object behind a store -/
theorem mapSeq_set (its : List Value) (n j : Nat) (u : Value) : Obj.mapSeq (·.setIfInBounds j u) { cls := .type "list", data := .seq its.toArray n } = { cls := .type "list", data := .seq (its.set j u).toArray n } := by
  simp [Obj.mapSeq]
theorem Inv.lst {pins : List (Addr × Obj)} {σ : St} {H : Hp} {s : Shared} {p : Addr} {xs : List V} (I : Inv X pins σ H s) (h : H p = some (.lst xs)) :
    ∃ (its : List Value) (n : Nat), Vals xs its ∧ s.heap.get? p = some { cls := .type "list", data := .seq its.toArray n } ∧ xs.length ≤ sizeLine := by
  obtain ⟨z, its, n, r, e⟩ := I.hok p _ h
  exact ⟨its, n, r, e, z⟩
/-- the list at p is written by an update of its object -/
theorem Inv.lstUpd {pins : List (Addr × Obj)} {σ : St} {H : Hp} {s : Shared} {p : Addr} {xs ys : List V} {its its' : List Value} {n n' : Nat} {f : Obj → Obj} (I : Inv X pins σ H s) (h : H p = some (.lst xs))
    (ho : s.heap.get? p = some { cls := .type "list", data := .seq its.toArray n }) (hf : f { cls := .type "list", data := .seq its.toArray n } = { cls := .type "list", data := .seq its'.toArray n' }) (r : Vals ys its') (hz : ys.length ≤ sizeLine) (t : Nat) :
    Inv X pins σ (upd H p (.lst ys)) { s with heap := s.heap.update p f, toks := t } := by
  have e : (s.heap.update p f).get? p = some { cls := .type "list", data := .seq its'.toArray n' } := by
    rw [Heap.get?_update_self f ho (by rw [hf] <;> rfl), hf]
  refine I.write (x := p) (e := p) (by rw [h]; trivial) (.inl rfl) (fun b u hb q => (Heap.get?_update_other _ _ (Ne.symm hb)).trans q) ⟨_, e⟩ ?_
  exact ⟨hz, its', n', r, e⟩
def rSetL : V → V → V → Hp → (Hp → Prop) → Prop := fun o i v H Q => ∃ p xs k j, o = .ref p ∧ i = .int k ∧ H p = some (.lst xs) ∧ ixN xs.length k = some j ∧ Q (upd H p (.lst (xs.set j v)))
theorem set_list : PSet X rSetL := by
  intro pins s σ H o i v ov iv u Q I ro ri rv h
  obtain ⟨p, xs, k, j, rfl, rfl, hp, hj, q⟩ := h
  cases ro
  obtain ⟨t, rfl⟩ := ri
  obtain ⟨its, n, r, ho, hz⟩ := I.lst hp
  obtain ⟨h1, h2, h3, h4⟩ := ixN_seq hj
  have hl := r.length
  have hn := line63
  have I' : Inv X pins σ (upd H p (.lst (xs.set j v))) { s with heap := s.heap.update p (Obj.mapSeq (·.setIfInBounds j u)) } :=
    I.lstUpd hp ho (mapSeq_set its n j u) (r.set rv j) (by rw [List.length_set]; exact hz) s.toks
  by_cases h0 : 0 ≤ k
  · have hk : k.toNat = j := by
      rw [seqIndex_of h0 h4] at h1
      exact Option.some.inj h1
    exact PySem.W.ki_setAt ho h0 (by omega) (by rw [List.size_toArray, ← hl]; exact h4) (by rw [hk]; exact ⟨_, I', q⟩)
  · have hk : (k + (its.toArray.size : Int)).toNat = j := by
      rw [seqIndex_neg (by omega) h3] at h1
      rw [List.size_toArray, ← hl]
      exact Option.some.inj h1
    exact PySem.W.ki_setBack ho (by omega) (by rw [List.size_toArray, ← hl]; exact h3) (by omega) (by rw [hk]; exact ⟨_, I', q⟩)

/-! ### slices -/
theorem slice_bounds (lo hi : Option Int) (n : Nat) : (sliceBounds lo hi none n).1 = ((HT.sIx n 0 lo : Nat) : Int) ∧ (sliceBounds lo hi none n).2.1 = ((HT.sIx n n hi : Nat) : Int) ∧ (sliceBounds lo hi none n).2.2 = 1 := by
  refine ⟨?_, ?_, rfl⟩
  · cases lo with
    | none => simp [sliceBounds, HT.sIx]
    | some i =>
      simp only [sliceBounds, HT.sIx, Option.getD_none, show (1 : Int) > 0 by decide, if_true]
      by_cases h : i < 0
      · simp only [h, if_true] <;> omega
      · simp only [h, if_false] <;> omega
  · cases hi with
    | none => simp [sliceBounds, HT.sIx]
    | some i =>
      simp only [sliceBounds, HT.sIx, Option.getD_none, show (1 : Int) > 0 by decide, if_true]
      by_cases h : i < 0
      · simp only [h, if_true] <;> omega
      · simp only [h, if_false] <;> omega
theorem slicePick_cut (its : List Value) (lo hi : Option Int) : slicePick its.toArray lo hi none = ((its.drop (HT.sIx its.length 0 lo)).take (HT.sIx its.length its.length hi - HT.sIx its.length 0 lo)).toArray := by
  obtain ⟨h1, h2, h3⟩ := slice_bounds lo hi its.toArray.size
  unfold slicePick
  rw [h1, h2, h3]
  simp only [sliceRange_one, pick_run, List.size_toArray] <;> rfl
/-- xs[lo:hi] of a list: a new list -/
def rSlL (K : PySem.W.Frag) : V → Option Int → Option Int → Hp → VK → Prop := fun x lo hi H Q => ∃ a xs, x = .ref a ∧ SqL K H a xs ∧ ∀ p, H p = none → Q (.ref p) (upd H p (.lst (cutV xs lo hi)))
theorem sl_list : SlR X (rSlL X.K) := by
  intro pins s σ H x v vl vu lo hi sl Q I rx hs pl pu h
  obtain ⟨a, xs, rfl, hx, q⟩ := h
  cases rx
  obtain ⟨its, r, ht, hz⟩ := I.list hx
  have hlen := r.length
  refine ⟨"list", _, slot_list_getitem.lookup, ht.isList.typeIs, ?_⟩
  refine wpAny_getItem_list_slice ht.isList hs pl pu .none (by simp) ?_ (by rw [List.size_toArray] <;> omega)
  rw [slicePick_cut, ← hlen]
  refine ⟨.ref s.heap.objs.size, _, I.laid (t' := s.toks) (o := .lst (cutV xs lo hi)) (fun b ob q => Heap.get?_push_of_some _ q) (Nat.le_refl _) ?_, rfl, q _ (I.hok.fresh (Nat.le_refl _))⟩
  exact ⟨Nat.le_trans (cutV_length xs lo hi) hz, _, 0, (r.drop (HT.sIx xs.length 0 lo)).take (HT.sIx xs.length xs.length hi - HT.sIx xs.length 0 lo), Heap.get?_push_size _ rfl⟩

/-! ### in, not in: flat items -/

/-! ### len, list(x), tuple(x) of any list or tuple that is read -/
theorem call_list_of : CallR X (.type "list") (fun xs H Q => ∃ p ys, xs = [.ref p] ∧ (SqL X.K H p ys ∨ SqT X.K H p ys) ∧ ∀ l, H l = none → Q (.ref l) (upd H l (.lst ys))) := by
  intro pins s σ H xs us Q I r h
  obtain ⟨p, ys, rfl, hq, q⟩ := h
  obtain ⟨u, rfl, rx⟩ := vals1 r
  cases rx
  have fin : ∀ (its : List Value), Vals ys its → ys.length ≤ sizeLine → ∀ (h' : Heap) (c' : Nat), (∀ b o', s.heap.get? b = some o' → h'.get? b = some o') →
      h'.get? s.heap.objs.size = some { cls := .type "list", dict := none, data := .seq its.toArray c', slots := #[] } → EP X pins σ Q (.ref s.heap.objs.size) { s with heap := h' } := fun its r' hz h' c' kp e =>
    ⟨.ref s.heap.objs.size, _, I.laid (t' := s.toks) kp (Nat.le_refl _) (show ObjOk X.prog X.w _ h' _ (.lst ys) from ⟨hz, its, c', r', e⟩), rfl, q _ (I.hok.fresh (Nat.le_refl _))⟩
  rcases hq with hq | hq
  · obtain ⟨its, r', pl, hz⟩ := I.list hq
    have hlen := r'.length
    obtain ⟨o, ho, hc, n, hd⟩ := pl.isList
    exact call_list_seq p (.inl rfl) ho hc hd (fun h' c' kp e => fin its r' hz h' c' kp e) (by simp only [List.size_toArray] <;> omega)
  · obtain ⟨its, r', pl, hz⟩ := I.tuple hq
    have hlen := r'.length
    obtain ⟨o, ho, hc, n, hd⟩ := pl
    exact call_list_seq p (.inr rfl) ho hc hd (fun h' c' kp e => fin its r' hz h' c' kp e) (by simp only [List.size_toArray] <;> omega)
theorem call_tuple_of : CallR X (.type "tuple") (fun xs H Q => ∃ p ys, xs = [.ref p] ∧ ((SqL X.K H p ys ∧ ∀ l, H l = none → Q (.ref l) (upd H l (.tup ys))) ∨ (SqT X.K H p ys ∧ Q (.ref p) H))) := by
  intro pins s σ H xs us Q I r h
  obtain ⟨p, ys, rfl, h⟩ := h
  obtain ⟨u, rfl, rx⟩ := vals1 r
  cases rx
  rcases h with ⟨hq, q⟩ | ⟨hq, q⟩
  · obtain ⟨its, r', pl, hz⟩ := I.list hq
    have hlen := r'.length
    refine call_tuple_list pl.isList (fun h' kp => ?_) (by simp only [List.size_toArray] <;> omega)
    have I1 : Inv X pins σ H { s with heap := h' } := I.kept (t' := s.toks) kp
    have I2 : Inv X pins σ (upd H h'.objs.size (.tup ys)) { s with heap := h'.push { cls := .type "tuple", data := .seq its.toArray } } :=
      I1.laid (t' := s.toks) (fun b o e => Heap.get?_push_of_some _ e) (Nat.le_refl _) (show ObjOk X.prog X.w _ _ _ (.tup ys) from ⟨hz, its, r', IsTup.new _ _⟩)
    exact ⟨.ref h'.objs.size, _, I2, rfl, q _ (I1.hok.fresh (Nat.le_refl _))⟩
  · obtain ⟨its, r', pl, hz⟩ := I.tuple hq
    exact call_tuple_same pl ⟨.ref p, H, I, rfl, q⟩

/-! ### the call of a builtin's method: o.m(..) -/
/-- the value is of that builtin type -/
def tyV (K : PySem.W.Frag) (T : String) (x : V) (H : Hp) : Prop := match x with
  | .str _ => T = "str"
  | .int _ => T = "int"
  | .ref p => (T = "list" ∧ ∃ xs, SqL K H p xs) ∨ (T = "tuple" ∧ ∃ o, K.lookup p = some o ∧ o.cls = .type "tuple" ∧ o.dict = none) ∨
      (T = "dict" ∧ ((∃ kvs, H p = some (.dK kvs)) ∨ ∃ kvs, H p = some (.dT kvs))) ∨ (T = "set" ∧ ∃ S n, H p = some (.set S n))
  | _ => False
theorem tyV_is {pins : List (Addr × Obj)} {σ : St} {H : Hp} {s : Shared} {T : String} {x : V} {v : Value} (I : Inv X pins σ H s) (r : RelV x v) (ty : tyV X.K T x H) :
    s.TypeIs v T ∧ ∀ a, v = .ref a → ∃ ob, s.heap.get? a = some ob ∧ ob.dict = none := by
  cases x with
  | str z =>
    obtain ⟨t, rfl⟩ := r
    cases (show T = "str" from ty)
    exact ⟨typeIs_str s z t, fun _ e => nomatch e⟩
  | int i =>
    obtain ⟨t, rfl⟩ := r
    cases (show T = "int" from ty)
    exact ⟨typeIs_int s i t, fun _ e => nomatch e⟩
  | ref p =>
    cases r
    rcases ty with ⟨rfl, xs, hq⟩ | ⟨rfl, o, hk, hc, hd⟩ | ⟨rfl, hk⟩ | ⟨rfl, S, n, hk⟩
    · obtain ⟨its, _, pl, _⟩ := I.list hq
      refine ⟨pl.isList.typeIs, fun a e => ?_⟩
      cases e
      obtain ⟨o, n, e, c, hd, _⟩ := pl
      exact ⟨o, e, hd⟩
    · refine ⟨⟨o, I.kIn p o hk, hc⟩, fun a e => ?_⟩
      cases e
      exact ⟨o, I.kIn _ o hk, hd⟩
    · have z : ∃ o, s.heap.get? p = some o ∧ o.ExactDict := by
        rcases hk with ⟨kvs, hk⟩ | ⟨kvs, hk⟩
        · obtain ⟨_, _, _, _, o, _, _, e, ex, _⟩ := I.hok p _ hk
          exact ⟨o, e, ex⟩
        · obtain ⟨_, _, _, _, o, _, _, e, ex, _⟩ := I.hok p _ hk
          exact ⟨o, e, ex⟩
      obtain ⟨o, e, ex⟩ := z
      refine ⟨⟨o, e, ex.1⟩, fun a e2 => ?_⟩
      cases e2
      exact ⟨o, e, ex.2.1⟩
    · obtain ⟨o, _, _, _, e, ex, _⟩ := I.hok p _ hk
      refine ⟨⟨o, e, ex.1⟩, fun a e2 => ?_⟩
      cases e2
      exact ⟨o, e, ex.2.1⟩
  | _ => exact False.elim ty
def tBM0 (K : PySem.W.Frag) (T : String) (r : V → List V → Hp → VK → Prop) (to : TE) : TE := fun σ H Q => to σ H fun x H1 => tyV K T x H1 ∧ r x [] H1 Q
def tBM (K : PySem.W.Frag) (T : String) (r : V → List V → Hp → VK → Prop) (to : TE) (t : TA) : TE := fun σ H Q => to σ H fun x H1 => tyV K T x H1 ∧ t σ H1 fun xs H2 => r x xs H2 Q
variable {o e : Expr} {es : List Expr} {to : TE} {t : TA} {name : Str} {apos cpos : Pos} {T id : String} {r : V → List V → Hp → VK → Prop}
theorem pe_bm0 (pa : PlainAttrs T) (slot : Slot T name id) (hty : typeOf (.builtin id) = pure (.type "method_descriptor")) (hm : MtR X id r) (ho : PE X o to)
    (hbase : attributeBase o name X.env (eval o X.env) = eval o X.env := by rfl) (hline : (apos.endLine == cpos.line) = true := by rfl) : PE X (.Call (.Attribute o name apos) [] [] cpos) (tBM0 X.K T r to) := by
  intro pins s σ H Q I h
  refine wpAny_Call_method0_late hbase hline (thn (ho pins s σ H _ I h) fun v s1 ⟨x, H1, I1, r1, ty, q1⟩ => ?_)
  obtain ⟨h1, h2⟩ := tyV_is I1 r1 ty
  exact ⟨T, id, pa, slot, hty, h1, h2, Calls.callWith_builtin rfl (PySem.evalArgs_none (hm pins s1 σ H1 x [] v [] Q I1 r1 .nil q1))⟩
theorem pe_bm (pa : PlainAttrs T) (slot : Slot T name id) (hty : typeOf (.builtin id) = pure (.type "method_descriptor")) (hm : MtR X id r) (ho : PE X o to) (ha : PA X (e :: es) t)
    (hbase : attributeBase o name X.env (eval o X.env) = eval o X.env := by rfl)
    (hfew : ((backTo cpos (starEach (e :: es) X.env)).all (fun x => !x.1) && (backToKw cpos (keywordEach [] X.env)).all (fun x => x.1.isSome)
      && decide ((e :: es).length + ([] : List Keyword).length + (if ([] : List Keyword).isEmpty then 0 else 1) < 30)) = true := by rfl)
    (hline : (apos.endLine == cpos.line) = true := by rfl) (hs : starEach (e :: es) X.env = (false, eval e X.env) :: starEach es X.env := by rfl) (hplain : (backTo cpos (starEach es X.env)).any (·.1) = false := by rfl) :
    PE X (.Call (.Attribute o name apos) (e :: es) [] cpos) (tBM X.K T r to t) := by
  intro pins s σ H Q I h
  refine wpAny_Call_method_late hbase hfew hline rfl (thn (ho pins s σ H _ I h) fun v s1 ⟨x, H1, I1, r1, ty, q1⟩ => ?_)
  obtain ⟨h1, h2⟩ := tyV_is I1 r1 ty
  refine ⟨T, id, pa, slot, hty, h1, h2, ?_⟩
  have hA := ha cpos pins s1 σ H1 _ I1 q1
  rw [hs] at hA ⊢
  refine Calls.callWith_builtin (by show (false || (backTo cpos (starEach es X.env)).any (·.1)) = false; rw [hplain] <;> rfl) (Calls.evalArgs_plain ?_)
  exact thn hA fun us s2 ⟨vs, H2, I2, r2, q2⟩ => hm pins s2 σ H2 x vs v us Q I2 r1 r2 q2
/- xs.append(e), list.index on a module's tuple .. are MtR facts of 06m -/
end
end L2

namespace L2
open PySem PySem.Spec PyProof.Rows

def MtM (X : Cx) (id : String) (r : V → List V → Hp → VK → Prop) : Prop :=
  ∀ (pins : List (Addr × Obj)) (s : Shared) (σ : St) (H : Hp) (x : V) (xs : List V) (v : Value) (us : List Value) (Q : VK), Inv X pins σ H s → RelV x v → Vals xs us → r x xs H Q →
    wpAny (model X.prog X.w) X.A (call (.builtin id) (v :: us)) (EP X pins σ Q) X.xe s

/-! ### lists of values -/
theorem Vals.one : ∀ {x : V} {us : List Value}, Vals [x] us → ∃ u, us = [u] ∧ RelV x u
  | _, _, .cons r .nil => ⟨_, rfl, r⟩
theorem Vals.two : ∀ {x y : V} {us : List Value}, Vals [x, y] us → ∃ u v, us = [u, v] ∧ RelV x u ∧ RelV y v
  | _, _, _, .cons r (.cons q .nil) => ⟨_, _, rfl, r, q⟩
theorem Vals.zero : ∀ {us : List Value}, Vals [] us → us = []
  | _, .nil => rfl

section
variable {X : Cx} {pins : List (Addr × Obj)} {σ : St} {H : Hp} {s : Shared} {l b : Addr} {xs ys zs : List V}

/-! ### the two steps: a tracked list is rewritten, a new list is laid -/
theorem Inv.lset {its its' : List Value} {n : Nat} {f : Array Value → Array Value} {t' : Nat} (I : Inv X pins σ H s) (hH : H l = some (.lst xs))
    (e : s.heap.get? l = some { cls := .type "list", data := .seq its.toArray n }) (hf : f its.toArray = its'.toArray) (hv : Vals ys its') (hz : ys.length ≤ sizeLine) :
    Inv X pins σ (upd H l (.lst ys)) { s with heap := s.heap.update l (Obj.mapSeq f), toks := t' } := by
  have q := PySem.IsL.update e f
  rw [hf] at q
  refine I.write (x := l) (e := l) (by rw [hH]; exact trivial) (.inl rfl) (fun b' u hb hu => (Heap.get?_update_other s.heap (Obj.mapSeq f) (Ne.symm hb)).trans hu) ⟨_, q⟩ ?_
  exact ⟨hz, its', _, hv, q⟩
theorem Inv.lnew {its : List Value} {t' : Nat} (I : Inv X pins σ H s) (hv : Vals ys its) (hz : ys.length ≤ sizeLine) :
    Inv X pins σ (upd H s.heap.objs.size (.lst ys)) { s with heap := s.heap.push { cls := .type "list", data := .seq its.toArray }, toks := t' } :=
  I.laid (fun _ _ q => Heap.get?_push_of_some _ q) (Nat.le_refl _) ⟨hz, its, 0, hv, Heap.get?_push_size _ rfl⟩
theorem Inv.fresh (I : Inv X pins σ H s) : H s.heap.objs.size = none := I.hok.fresh (Nat.le_refl _)
theorem Inv.lstM (I : Inv X pins σ H s) (hH : H l = some (.lst xs)) : xs.length ≤ sizeLine ∧ ∃ (its : List Value) (n : Nat), Vals xs its ∧ xs.length = its.length ∧ s.heap.get? l = some { cls := .type "list", data := .seq its.toArray n } := by
  obtain ⟨z, its, n, r, e⟩ := I.hok l _ hH
  exact ⟨z, its, n, r, r.length, e⟩

end

section
variable {X : Cx}

/-! ### methods -/
def rAppend : V → List V → Hp → VK → Prop := fun x vs H Q => ∃ l xs y, x = .ref l ∧ vs = [y] ∧ H l = some (.lst xs) ∧ xs.length < sizeLine ∧ Q .non (upd H l (.lst (xs ++ [y])))
theorem mt_append : MtM X "list.append" rAppend := by
  intro pins s σ H x vs v us Q I rx rv h
  obtain ⟨l, xs, y, rfl, rfl, hH, hz, q⟩ := h
  cases rx
  obtain ⟨u, rfl, ru⟩ := rv.one
  obtain ⟨z, its, n, r, hl, e⟩ := I.lstM hH
  refine call_meets F.slot_list_append ⟨_, e, rfl⟩ F.entry_list_append (F.args_list_append_2 _ _) (PySem.list_append l its.toArray n u (by rw [List.size_toArray]; omega)) ⟨e, ?_⟩
  refine ⟨.non, _, I.lset (its' := its ++ [u]) hH e (by simp) (r.append (.cons ru .nil)) ?_, rfl, q⟩
  rw [List.length_append, List.length_singleton]
  omega





def rClear : V → List V → Hp → VK → Prop := fun x vs H Q => ∃ l xs, x = .ref l ∧ vs = [] ∧ H l = some (.lst xs) ∧ Q .non (upd H l (.lst []))
theorem mt_clear : MtM X "list.clear" rClear := by
  intro pins s σ H x vs v us Q I rx rv h
  obtain ⟨l, xs, rfl, rfl, hH, q⟩ := h
  cases rx
  have hus := rv.zero
  subst hus
  obtain ⟨z, its, n, r, hl, e⟩ := I.lstM hH
  refine call_meets F.slot_list_clear ⟨_, e, rfl⟩ F.entry_list_clear (F.args_list_clear_1 _) (AutoSeq1.list_clear_list_0 l its.toArray n (by rw [List.size_toArray]; omega)) ⟨e, ?_⟩
  exact ⟨.non, _, I.lset (its' := []) (ys := []) hH e rfl .nil (Nat.zero_le _), rfl, q⟩

/-! ### list + list, list += list, list * int -/

/-! ### del xs[i] -/
end

/-! ### xs[a:b] = ys -/
section
variable {prog : Program} {w : World} {A : Around} {E : Value → Shared → Prop} {s : Shared}
set_option maxRecDepth 100000 in
end

section
variable {X : Cx}
end
end L2

namespace Att
open PySem PySem.W PySem.Calls PyProof.Rows

/-! ### the script -/
theorem ints_of_wellAll {P : Params} {h : Heap} : ∀ (ns : List Int) (vs : List Value), WellAll P h vs (ns.map WData.int) → IntsAre vs ns := by
  intro ns
  induction ns with
  | nil =>
    intro vs w
    rw [List.map_nil] at w
    cases w
    exact .nil
  | cons n ns ih =>
    intro vs w
    rw [List.map_cons] at w
    cases w with
    | cons a b =>
      cases a
      exact .cons _ _ (ih _ b)

theorem script_of {l : OpenLaw} {n : Nat} (hn : l.most = some n) {P : Params} {h : Heap} {args : List WData} {vals : List Value}
    (hpre : l.row.toRowW.claim.pre args = true) (hwl : WellAll P h vals args) :
    ∃ a vs ns, vals = [Value.ref a] ∧ args = [WData.list (ns.map WData.int)] ∧ h.get? a = some { cls := .type "list", data := .seq vs.toArray } ∧ IntsAre vs ns ∧ ns.length ≤ n := by
  have hsh : WShape.hasAll [] args [.list .int] = true := (pre_splitW hpre).1
  have hc : l.pre.holds [] { args := args } = true := (pre_splitW hpre).2
  obtain ⟨d, r, rfl, h1, h2⟩ := hasAllW_cons hsh
  obtain rfl := hasAllW_nil h2
  obtain ⟨xs, rfl, h3⟩ := hasW_list h1
  obtain ⟨ns, rfl⟩ := items_int h3
  have hlen : ns.length ≤ n := by
    unfold OpenLaw.pre at hc
    have h4 : (WTm.not (.lt (.lit (.int (n : Int))) (.len (.arg 0)))).holds [] { args := [.list (ns.map .int)] } = true := by
      have h4 := (holds_andW hc).1
      rw [hn] at h4
      exact h4
    have h5 := condW_of h4 (w_not (w_lt w_lit (w_len_list (w_arg rfl))))
    rw [List.length_map] at h5
    refine Nat.le_of_not_lt fun q => ?_
    have q' : (n : Int) < ((ns.length : Nat) : Int) := by omega
    first
      | (rw [decide_eq_true q'] at h5; exact absurd h5 (by decide))
      | (simp at h5; omega)
  cases hwl with
  | cons w1 w2 =>
    cases w2
    cases w1 with
    | list ho hall => exact ⟨_, _, ns, rfl, rfl, ho, ints_of_wellAll ns _ hall, hlen⟩

theorem post_true (l : OpenLaw) (args : List WData) : l.row.toRowW.claim.post args (.bool true) args = true :=
  postW_of (r := l.row.toRowW) (X := (true == true))
    (show WShape.has [] (.bool true) .bool = true by first | rfl | decide | simp [WShape.has, WShape.arms, WShape.armsAll])
    (show (WTm.eq .res (.lit (.bool true))).value [] { args := args, res := some (.bool true), after := args } = some (.bool (true == true)) from w_eq_bool (w_res rfl) w_lit) rfl

/-! ### the attachment: holds_open's last premise (the goal 'hc' behind k_head) from a wpAny of the law's body -/

/-- the same from a codeAny of the CALL (for a layer whose function contracts speak of calls) -/
theorem attach_call {l : OpenLaw} {n : Nat} {q : Program} {loose : List Str} {XP : (Str → Option Value) → Heap → Prop} {YP : World → Heap → Prop} {d : DefRec}
    (hn : l.most = some n) (hdf : d.params.defaults = [])
    (call : ∀ (w : World) (s₀ s₁ : Shared) (mg mb : Str → Option Value) (fa : Addr) (o : Obj) (pm cd doc : Value) (a : Addr) (vs : List Value) (ns : List Int),
      Ground q loose [] XP w s₀ mg mb s₁.heap → YP w s₁.heap →
      s₁.heap.get? fa = some o → o.data = .func (docDef d.name d.params d.body d.scope pm cd doc) → s₁.heap.CodeRec cd d.name → mg d.name = some (.ref fa) →
      s₁.heap.get? a = some { cls := .type "list", data := .seq vs.toArray } → IntsAre vs ns → ns.length ≤ n → s₁.gens = #[] →
      codeAny (model l.prog w) callerA (.call (.ref fa) ⟨[.ref a], []⟩) (fun r s' => r = .ok (.ret (.bool true)) ∧ OldK s₁.heap s'.heap ∧ s'.os = s₁.os ∧ AllBare s'.gens) s₁) :
    WalkO q loose XP YP l.row.toRowW d [] (fun f vs => PySem.call f vs) := by
  intro w s₀ s₁ mg mb G Y fa o pm cd doc dV kV ho hd hcd hD hmg hg args vals as hpre hlay hrd hwl hlo
  obtain rfl : dV = .none := Dflts.none hD hdf
  obtain rfl : kV = .none := Dflts.noKw hD
  obtain ⟨a, vs, ns, rfl, rfl, hobj, hints, hlen⟩ := script_of hn hpre hwl
  refine enter_call (codeAny_mono (call w s₀ s₁ mg mb fa o pm cd doc a vs ns G Y ho (fd_plain hd) hcd hmg hobj hints hlen hg) fun r s' hq => ?_)
  obtain ⟨rfl, h2, h3, h4⟩ := hq
  exact ⟨.inl ⟨.bool true, .bool true, [], rfl, fun _ => rfl, .bool true, post_true l _, fun _ => ⟨List.Pairwise.nil, fun _ hm => (nomatch hm)⟩⟩, h2, h3, h4⟩


/-! ### rules over ANY heap (no ledger) from facts about the written part K: the library's own take a ledger (News) for what they write -/
section
variable {prog : Program} {w : World} {A : Around} {E : Value → Shared → Prop} {s : Shared} {K : Frag}





/-! the whole heap as the ledger: makes every rule that writes through a ledger a rule over any heap -/

end
end Att

namespace L2
open PySem PySem.Spec PyProof.Rows

theorem vals_ints : ∀ {vs : List Value} {ns : List Int}, IntsAre vs ns → Vals (ns.map V.int) vs
  | _, _, .nil => .nil
  | _, _, .cons n t h => .cons ⟨t, rfl⟩ (vals_ints h)

/-- nothing is tracked but the script, known to the object (or it is an object of the module) -/
def Only (H : Hp) : Prop := ∀ b, H b = none ∨ ∃ o xs, H b = some (.frz o (.lst xs))

/-- THE HEAD: the law's promise, at the heap behind the top. F, the promise of the law's def, may use that base is part of the heap (so K.In base, base.Ns mainGlobals mg stand in Mod) -/
theorem law_call {P : Program} {w : World} {K : PySem.W.Frag} {mg mb : Str → Option Value} {CX : CXT} {k : Nat} {fa a : Addr} {fd : FuncData} {x : Str} {sp : Sp} {s₁ : Shared} {vs : List Value} {ns : List Int}
    (KX : K.In s₁.heap) (hns : s₁.heap.Ns mainGlobals mg) (hb : s₁.heap.Ns builtinsNs mb) (hbb : ∀ x : Str, x ≠ "__name__" → mb x = bootBuiltins x) (hlim : s₁.heap.NoLimit) (hg : s₁.gens = #[])
    (ha : s₁.heap.get? a = some { cls := .type "list", data := .seq vs.toArray }) (hi : IntsAre vs ns) (hl : ns.length ≤ sizeLine) (hr : Room k callerA)
    (F : ∀ base : Heap, K.In base → base.Ns mainGlobals mg → FnOk P w K mg base CX k fa fd [x] sp) (hbind : ∀ (s : Shared) (u : Value), BindsTo s fd ⟨[u], []⟩ [(x, u)])
    (hsp : ∀ H : Hp, Only H → SqL K H a (ns.map V.int) → sp [.ref a] H (fun v _ => v = .bl true) fun _ _ _ => False)
    (hCX : ∀ H e s', CX [] H s₁ (fun _ _ _ => False) e s' → False) :
    codeAny (model P w) callerA (.call (.ref fa) ⟨[.ref a], []⟩) (fun r s' => r = .ok (.ret (.bool true)) ∧ OldK s₁.heap s'.heap ∧ s'.os = s₁.os ∧ AllBare s'.gens) s₁ := by
  have rv := vals_ints hi
  have lenV := hi.length
  -- from an abstract heap in which nothing but the script may be tracked
  have core : ∀ H : Hp, Only H → SqL K H a (ns.map V.int) → HOk P w H s₁.heap → (∀ b, H b ≠ none → b = a) → (H a ≠ none → K.lookup a = none) →
      codeAny (model P w) callerA (.call (.ref fa) ⟨[.ref a], []⟩) (fun r s' => r = .ok (.ret (.bool true)) ∧ OldK s₁.heap s'.heap ∧ s'.os = s₁.os ∧ AllBare s'.gens) s₁ := by
    intro H hO hS hok hA hK
    have base_of : ∀ {b : Addr} {o : Obj}, s₁.heap.get? b = some o → H b = none → (hidT s₁.heap H).get? b = some o := fun e n => hidT_get e n
    have noA : ∀ {b : Addr} {o : Obj} {es : Array DictEntry} {ep : Nat}, s₁.heap.get? b = some o → o.data = .dict es ep → H b = none := fun {b o es ep} e d => by
      cases q : H b with
      | none => rfl
      | some u =>
        have e' : b = a := hA b (by rw [q]; simp)
        subst e'
        rw [ha] at e; cases e
        have d' : Data.seq vs.toArray _ = Data.dict es ep := d
        cases d'
    have nsK : ∀ {b : Addr} {m : Str → Option Value}, s₁.heap.Ns b m → (hidT s₁.heap H).Ns b m := fun {b m} ⟨o, es, ep, e, d, r⟩ => ⟨o, es, ep, base_of e (noA e d), d, r⟩
    have hKb : K.In (hidT s₁.heap H) := fun b o e => base_of (KX b o e) (by
      cases q : H b with
      | none => rfl
      | some u =>
        have e' : b = a := hA b (by rw [q]; simp)
        subst e'
        rw [hK (by rw [q]; simp)] at e; cases e)
    have hM : Mod K mg (hidT s₁.heap H) := ⟨hKb, nsK hns, ⟨mb, nsK hb, hbb⟩, let ⟨mc, h1, h2⟩ := hlim; ⟨mc, nsK h1, h2⟩⟩
    have e0 : Env0 P w K mg (hidT s₁.heap H) callerA [] s₁ H := ⟨rfl, hM, fun b o e => of_hidT e, Nat.le_of_eq (hidT_size _ _), trivial, fun b hb => absurd (show b ∈ ([] : List Addr) from hb) (by simp), hok, .of_eq hg⟩
    refine codeAny_mono ((F _ hKb (nsK hns)).run callerA [] s₁ H ⟨[.ref a], []⟩ [.ref a] [.ref a] _ _ hr e0 (hbind s₁ (.ref a)) (.cons rfl .nil) (hsp H hO hS)) fun r s' h => ?_
    cases r with
    | error e => exact (hCX H e s' h).elim
    | ok fl =>
      cases fl with
      | next => exact False.elim h
      | brk => exact False.elim h
      | cont => exact False.elim h
      | ret u =>
        obtain ⟨v, H', os, bare, un, hok', r', q⟩ := h
        have q' : v = .bl true := q
        subst q'
        obtain rfl : u = Value.bool true := r'
        refine ⟨rfl, OldK.of_keep fun b o e => ?_, os, bare⟩
        cases q : H b with
        | none => exact un.keep b o e q (by intro z; exact absurd (show b ∈ ([] : List Addr) from z) (by simp)) (by simp)
        | some u =>
          rcases hO b with z | ⟨ob, xs, z⟩
          · rw [q] at z; cases z
          · have z2 := un.frzs b ob _ z
            obtain ⟨e1, _⟩ := hok b _ z
            obtain ⟨e2, _⟩ := hok' b _ z2
            rw [e] at e1; cases e1
            exact e2
  cases hk : K.lookup a with
  | some o =>
    -- the script is one of the module's own objects
    have e := KX a o hk
    rw [ha] at e
    cases e
    refine core (fun _ => none) (fun _ => .inl rfl) (.inr ⟨_, vs.toArray, _, hk, rfl, rfl, rfl, by rw [List.size_toArray, lenV]; exact hl, by simpa using rv⟩) (fun b u z => by have z' : (none : Option HO) = some u := z; cases z') (fun b z => absurd rfl z) fun z => absurd rfl z
  | none =>
    refine core (fun b => if b = a then some (.frz { cls := .type "list", data := .seq vs.toArray } (.lst (ns.map V.int))) else none) (fun b => ?_) (.inl (.inr ⟨{ cls := .type "list", data := .seq vs.toArray }, if_pos rfl⟩)) (fun b u z => ?_) (fun b z => ?_) fun _ => hk
    · by_cases hb : b = a
      · exact .inr ⟨_, _, if_pos hb⟩
      · exact .inl (if_neg hb)
    · by_cases hb : b = a
      · have z' := (if_pos hb).symm.trans z
        cases z'
        subst hb
        exact ⟨ha, by rw [List.length_map]; exact hl, vs, _, rv, ha⟩
      · have z' := (if_neg hb).symm.trans z
        cases z'
    · by_cases hb : b = a
      · exact hb
      · exact absurd (if_neg hb) z
end L2

namespace L2
open PySem PySem.Spec PyProof.Rows


/-- the goal that k_head leaves (case hc), from the law's promise. F gives the function object fd (K's own) once, then the promise over every base -/
theorem walk_of {l : PySem.W.OpenLaw} {n k : Nat} {q : Program} {loose : List Str} {XP : (Str → Option Value) → Heap → Prop} {YP : World → Heap → Prop} {d : DefRec} {K : Params → PySem.W.Frag} {CX : World → CXT} {sp : World → Sp} {x : Str}
    (hn : l.most = some n) (hn2 : n ≤ sizeLine) (hdf : d.params.defaults = []) (hr : Room k callerA)
    (hY : ∀ (w : World) (h : Heap), YP w h → (K w.params).In h)
    (F : ∀ (w : World) (mg : Str → Option Value) (fa : Addr) (h : Heap), (K w.params).In h → h.Ns mainGlobals mg → mg d.name = some (.ref fa) →
      ∃ fd : FuncData, (∀ (s : Shared) (u : Value), BindsTo s fd ⟨[u], []⟩ [(x, u)]) ∧
        ∀ base : Heap, (K w.params).In base → base.Ns mainGlobals mg → FnOk l.prog w (K w.params) mg base (CX w) k fa fd [x] (sp w))
    (hsp : ∀ (w : World) (H : Hp) (a : Addr) (ns : List Int), ns.length ≤ n → Only H → SqL (K w.params) H a (ns.map V.int) → sp w [.ref a] H (fun v _ => v = .bl true) fun _ _ _ => False)
    (hCX : ∀ (w : World) (H : Hp) (s : Shared) (e : Value) (s' : Shared), CX w [] H s (fun _ _ _ => False) e s' → False) :
    PySem.W.WalkO q loose XP YP l.row.toRowW d [] (fun f vs => PySem.call f vs) := by
  refine Att.attach_call hn hdf fun w s₀ s₁ mg mb fa o pm cd doc a vs ns G Y ho hd hcd hmg hobj hints hlen hg => ?_
  have KX := hY w _ Y
  obtain ⟨fd, hb, hF⟩ := F w mg fa _ KX G.T.g hmg
  exact law_call KX G.T.g G.T.b G.T.builtins G.T.nolimit hg hobj hints (Nat.le_trans hlen hn2) hr hF hb (fun H hO hS => hsp w H a ns hlen hO hS) fun H e s' => hCX w H s₁ e s'
end L2

/- THE LAST THEOREM (shape; LID, My.* are yours):
   My.Adr: a structure of the addresses that your layer names (classes, functions); My.Txt K t: a structure (Prop) of the equations over K;
   My.txt_mk : {K} {implicit addresses ..} (e1 : nsIn K mainGlobals "law" = some (some (.ref f))) (e2 : K.lookup f = some ⟨oc, od, .func (fnOf "law" "law" params body scope dV kV doc pm an cdv ct), sl⟩) (e3 : codeIn K cdv "law" = true) .. : ∃ t, My.Txt K t

set_option maxRecDepth 100000 in
set_option maxHeartbeats 0 in
theorem PySem.Challenge.cw_LID_holds : PySem.Challenge.rw_LID.Holds := by
  w_on; o_law; k_head; (case hw => w_witness2)
  k_fill
  refine L2.walk_of (l := PySem.Challenge.rw_LID) (n := 63) (k := 40) (x := "script") (CX := fun w => ..) (sp := fun _ => My.sp_law) rfl (by decide) rfl ⟨rfl, by decide, by decide⟩ (fun w h Y => PySem.W.kIn_of Y) ?F ?S ?C
  case F =>
    intro w mg fa h KX G hmg
    have T : ∃ t, My.Txt (L2.KOf KX) t := by
      dsimp only [L2.KOf]                          -- K must stand as «<heap const> w.params» for k_is
      refine' My.txt_mk ?e1 ?e2 ?e3 ..
      (case e1 => PySem.W.k_is)                    -- in the order: a name -> its address -> its object -> its parts
      (case e2 => PySem.W.k_is)
      ..
    obtain ⟨t, T⟩ := T
    have e0 := hmg.symm.trans (PySem.W.mg_of KX G T.law)
    cases e0                                       -- fa is the law's own address
    exact ⟨_, fun s u => .of_eq rfl, fun base kb nb => My.law_fn T kb nb⟩     -- if «.of_eq rfl» comes too early: refine' ⟨_, ?b, fun base kb nb => My.law_fn T kb nb⟩; exact fun s u => .of_eq rfl
  case S => exact fun w H a ns hl hO hS => ..
  case C => exact ..
(the tactic k_is has no namespace: write k_is) -/

/-! SHORT WORDS over the layer: a def of the text, its body, what a loop and a test want. -/
namespace L2
open PySem PySem.Spec PyProof.Rows

/-! ### the text by places -/
def defArgs (s : Stmt) : Arguments := match s with
  | .FunctionDef _ a _ _ _ _ _ _ _ _ => a
  | _ => { posonlyargs := [], args := [], vararg := none, kwonlyargs := [], kw_defaults := [], kwarg := none, defaults := [] }
def defBody (s : Stmt) : List Stmt := match s with
  | .FunctionDef _ _ b _ _ _ _ _ _ _ => b
  | _ => []
def defScope (s : Stmt) : Scope := match s with
  | .FunctionDef _ _ _ _ _ _ sc _ _ _ => sc
  | _ => { kind := .function, names := [], isGenerator := false, isCoroutine := false }

/-! ### no exception leaves a def -/
abbrev CX0 : CXT := fun _ _ _ _ _ _ => False
abbrev E0 : XK := fun _ _ _ => False
theorem pass0 {X : Cx} : Passes CX0 X E0 := fun _ _ _ _ _ _ _ h => h.elim

/-! ### a def (or method) of the text as it stands behind the top -/
structure Fun (K : PySem.W.Frag) (x qual : Str) (st : Stmt) (f : Addr) (fd : FuncData) : Prop where
  ex : ∃ (oc : Value) (od : Option Addr) (kV doc pm : Value) (an : Option Addr) (cdv ct : Value) (osl : Array (Option Value)),
    fd = PySem.W.fnOf x qual (defArgs st) (defBody st) (defScope st) .none kV doc pm an cdv ct ∧ K.lookup f = some ⟨oc, od, .func fd, osl⟩ ∧ PySem.W.codeIn K cdv qual = true
  kp : PySem.W.keepIn K (.ref f) = true
section
variable {P : Program} {w : World} {K : PySem.W.Frag} {mg : Str → Option Value} {base : Heap}
/-- THE RULE for a def: its body as a term of rules, and the reading of that term -/
theorem Fun.ok {x qual : Str} {st : Stmt} {f : Addr} {fd : FuncData} {N ps : List Str} {k : Nat} {sp : Sp} (F : Fun K x qual st f fd) (S : FnScope N ps (defScope st)) (len : ∀ vs H Q E, sp vs H Q E → vs.length = ps.length)
    (hbody : ∀ (cdv : Value) (A : Around) (outer : List Env) (s : Shared) (H : Hp) (vs : List V) (Q : VK) (E : XK), Room k (A.deeper (envOfC qual (defScope st) s.heap.objs.size f cdv)) → sp vs H Q E →
      ∃ t, PSs (cxOf CX0 P w K mg base N qual (defScope st) f cdv A outer s H E).nox (defBody st) t ∧ t { nx := fun _ H' => Q .non H', rt := Q } (start N vs) H) : FnOk P w K mg base CX0 (k + 1) f fd ps sp := by
  obtain ⟨oc, od, kV, doc, pm, an, cdv, ct, osl, rfl, lk, hcd⟩ := F.ex
  refine fn_of lk hcd S len fun A outer s H vs Q E hr hsp => ?_
  obtain ⟨t, h, q⟩ := hbody cdv A outer s H vs Q E hr hsp
  exact ⟨t, h.nox, q⟩
/-- how its arguments bind (no defaults): h is «fun _ _ _ _ _ _ us hl => match us, hl with | [_, _], _ => rfl», one _ a parameter -/
theorem Fun.binds {x qual : Str} {st : Stmt} {f : Addr} {fd : FuncData} {ps : List Str} (F : Fun K x qual st f fd)
    (h : ∀ (kV doc pm : Value) (an : Option Addr) (cdv ct : Value) (us : List Value), us.length = ps.length → bindArgs (PySem.W.fnOf x qual (defArgs st) (defBody st) (defScope st) .none kV doc pm an cdv ct) ⟨us, []⟩ = pure (ps.zip us)) : Binds K fd ps [] := by
  obtain ⟨oc, od, kV, doc, pm, an, cdv, ct, osl, rfl, lk, hcd⟩ := F.ex
  exact .all (h kV doc pm an cdv ct)
theorem fun_mk {x qual : Str} {st : Stmt} {f : Addr} {oc : Value} {od an : Option Addr} {osl : Array (Option Value)} {kV doc pm cdv ct : Value} (l : K.lookup f = some ⟨oc, od, .func (PySem.W.fnOf x qual (defArgs st) (defBody st) (defScope st) .none kV doc pm an cdv ct), osl⟩)
    (c : PySem.W.codeIn K cdv qual = true) (k : PySem.W.keepIn K (.ref f) = true) : Fun K x qual st f (PySem.W.fnOf x qual (defArgs st) (defBody st) (defScope st) .none kV doc pm an cdv ct) := ⟨⟨oc, od, kV, doc, pm, an, cdv, ct, osl, rfl, l, c⟩, k⟩
end

/-! ### expressions in short: the name that stands in the i-th slot -/
section
variable {X : Cx}
theorem pv (i : Nat) {x : Str} {pos : Pos} (hN : X.N[i]? = some x := by rfl) (hv : Vis X.env.scope x := by first | exact Or.inl rfl | exact Or.inr (Or.inl rfl) | exact Or.inr (Or.inr rfl)) (hd : (x == ("__debug__" : Str)) = false := by decide)
    (hcd : (x == ("__classdict__" : Str)) = false := by decide) : PE X (.Name x pos) (tVar i) := pe_var hN hv hd hcd
end

/-! ### tests -/
theorem iteF {A B : Prop} (h : B) : if false = true then A else B := by
  rw [if_neg Bool.false_ne_true]
  exact h
theorem iteT {A B : Prop} (h : A) : if true = true then A else B := by
  rw [if_pos rfl]
  exact h
theorem ite2 {c A B : Prop} [Decidable c] (h1 : c → A) (h2 : ¬ c → B) : if c then A else B := by
  by_cases h : c
  · rw [if_pos h]
    exact h1 h
  · rw [if_neg h]
    exact h2 h

/-! ### heaps -/
/-- all that was tracked is as it was -/
def Same (H H' : Hp) : Prop := ∀ b o, H b = some o → H' b = some o
theorem Same.refl (H : Hp) : Same H H := fun _ _ h => h
theorem Same.trans {H H1 H2 : Hp} (a : Same H H1) (b : Same H1 H2) : Same H H2 := fun c o h => b c o (a c o h)
theorem Same.free {H H' : Hp} (e : Same H H') {l : Addr} (h : H' l = Option.none) : H l = Option.none := by
  cases q : H l with
  | none => rfl
  | some o =>
    rw [e l o q] at h
    cases h
theorem Same.seq {K : PySem.W.Frag} {H H' : Hp} {a : Addr} {xs : List V} (e : Same H H') (h : SqL K H a xs) : SqL K H' a xs := by
  rcases h with (h | ⟨o, h⟩) | h
  · exact .inl (.inl (e _ _ h))
  · exact .inl (.inr ⟨o, e _ _ h⟩)
  · exact .inr h

end L2

section
set_option maxHeartbeats 4000000
/-! EXCEPTIONS over the hand layer: own classes without __init__, raised by a def, passing defs, caught in a caller by a class's name. -/
namespace L2
open PySem PySem.Spec PyProof.Rows

/-- an exception flies over the frames `outer`: it is ea, of class cls; all that stood ahead (but the frames) stands in B -/
def CX1 (P : Program) (w : World) : CXT := fun outer H s E e s' =>
  ∃ (ea : Addr) (cls : Value) (H' : Hp) (B : Heap) (a0 : Value), e = .ref ea ∧ s'.os = s.os ∧ AllBare s'.gens ∧ Heap.FlyingW B outer ea cls a0 s'.heap ∧
    Un (frs outer) [] H H' s.heap s'.heap ∧ HOk P w H' B ∧
    (∀ b o, s.heap.get? b = some o → b ∉ frs outer → ∃ o', B.get? b = some o' ∧ (H b = none → o' = o)) ∧ E cls none H'

theorem frs_cons {env : Env} {l : List Env} {b : Addr} (h : b ∈ frs l) : b ∈ frs (env :: l) := by
  obtain ⟨x, hx, hf⟩ := List.mem_filterMap.mp h
  exact List.mem_filterMap.mpr ⟨x, List.mem_cons_of_mem _ hx, hf⟩

/-- a tracked thing stands -/
theorem ObjOk.here {P : Program} {w : World} {H : Hp} {h : Heap} {a : Addr} {o : HO} (x : ObjOk P w H h a o) : ∃ ob, h.get? a = some ob := by
  cases o with
  | lst xs =>
    obtain ⟨_, _, _, _, e⟩ := x
    exact ⟨_, e⟩
  | tup xs =>
    obtain ⟨_, _, _, ob, e, _⟩ := x
    exact ⟨ob, e⟩
  | dK kvs =>
    obtain ⟨_, _, _, _, ob, _, _, e, _⟩ := x
    exact ⟨ob, e⟩
  | dT kvs =>
    obtain ⟨_, _, _, _, ob, _, _, e, _⟩ := x
    exact ⟨ob, e⟩
  | set S n =>
    obtain ⟨ob, _, _, _, e, _⟩ := x
    exact ⟨ob, e⟩
  | ins C dx fs =>
    obtain ⟨_, _, _, e, _⟩ := x
    exact ⟨_, e⟩
  | own y => exact x
  | xd fs =>
    obtain ⟨_, ⟨ob, _, _, e, _⟩, _⟩ := x
    exact ⟨ob, e⟩
  | rng lo hi =>
    obtain ⟨_, _, _, e⟩ := x
    exact ⟨_, e⟩
  | frz ob u => exact ⟨ob, x.1⟩
  | tbl ps => exact ⟨_, x⟩
  | met f y => exact ⟨_, x⟩
  | ext φ => exact x.2.1
theorem HOk.nil_of {P : Program} {w : World} {H : Hp} {h : Heap} {a : Addr} (x : HOk P w H h) (e : h.get? a = none) : H a = none := by
  cases q : H a with
  | none => rfl
  | some u =>
    obtain ⟨ob, z⟩ := (x a u q).here
    rw [e] at z
    cases z
section
variable {X : Cx} {pins : List (Addr × Obj)} {σ : St} {H H' : Hp} {s : Shared} {B h2 : Heap}
theorem Inv.neL (I : Inv X pins σ H s) {b : Addr} {o : Obj} (e : X.s₀.heap.get? b = some o) : b ≠ X.env.locals :=
  Nat.ne_of_lt (Nat.lt_of_lt_of_le (Heap.lt_size e) I.ok.above)
theorem Inv.notStk (I : Inv X pins σ H s) {b : Addr} {o : Obj} (e : X.s₀.heap.get? b = some o) (hb : b ∉ X.fs) : b ∉ frs X.stack := fun z => by
  rcases List.mem_cons.mp (I.stkSub b z) with q | q
  · exact I.neL e q
  · exact hb q
/-- what stood at the entry, seen from behind an exception -/
theorem leave_un (I : Inv X pins σ H s) (hex : X.ex = []) (hst : B.StaysIn h2)
    (old : ∀ b o, s.heap.get? b = some o → b ∉ frs X.stack → ∃ o', B.get? b = some o' ∧ (H b = none → o' = o))
    (slot : ∀ b o, s.heap.get? b = some o → b ∈ X.fs → ∃ sl, h2.get? b = some { o with slots := sl })
    (free : ∀ b o, s.heap.get? b = some o → H b = none → H' b = none)
    (tups : ∀ b xs, H b = some (.tup xs) → H' b = some (.tup xs)) (frzs : ∀ b o u, H b = some (.frz o u) → H' b = some (.frz o u))
    (tbls : ∀ b ps, H b = some (.tbl ps) → ∃ more, H' b = some (.tbl (ps ++ more))) :
    Un X.fs [] X.H₀ H' X.s₀.heap h2 ∧ (∀ b o, X.s₀.heap.get? b = some o → b ∉ X.fs → ∃ o', B.get? b = some o' ∧ (X.H₀ b = none → o' = o)) := by
  have ne : ∀ b, b ∉ X.ex := fun b z => by rw [hex] at z; cases z
  have old2 : ∀ b o, X.s₀.heap.get? b = some o → b ∉ X.fs → ∃ o', B.get? b = some o' ∧ (X.H₀ b = none → o' = o) := fun b o q hb => by
    obtain ⟨o1, q1⟩ := I.base.there b o q (ne b)
    obtain ⟨o', e1, e2⟩ := old b o1 q1 (I.notStk q hb)
    refine ⟨o', e1, fun n => ?_⟩
    have k := I.base.keep b o q n hb (ne b)
    rw [q1] at k
    cases k
    exact e2 (I.base.free b o q n (ne b))
  refine ⟨⟨fun b o q n hb _ => ?_, fun b o q n hb _ => ?_, fun b o q n _ => ?_, fun b o q _ => ?_, fun b xs q => tups b xs (I.base.tups b xs q), fun b o u q => frzs b o u (I.base.frzs b o u q), fun b ps q => ?_⟩, old2⟩
  · obtain ⟨o', e1, e2⟩ := old2 b o q hb
    rw [e2 n] at e1
    exact hst b o e1
  · obtain ⟨sl, q1⟩ := I.base.slot b o q n hb (ne b)
    obtain ⟨sl2, q2⟩ := slot b _ q1 hb
    exact ⟨sl2, q2⟩
  · obtain ⟨o1, q1⟩ := I.base.there b o q (ne b)
    exact free b o1 q1 (I.base.free b o q n (ne b))
  · by_cases hb : b ∈ X.fs
    · obtain ⟨o1, q1⟩ := I.base.there b o q (ne b)
      obtain ⟨sl2, q2⟩ := slot b _ q1 hb
      exact ⟨_, q2⟩
    · obtain ⟨o', e1, _⟩ := old2 b o q hb
      exact ⟨o', hst b o' e1⟩
  · obtain ⟨m1, e1⟩ := I.base.tbls b ps q
    obtain ⟨m2, e2⟩ := tbls b _ e1
    exact ⟨m1 ++ m2, by rw [e2, Array.append_assoc]⟩
/-- the heap without the frames -/
theorem HOk.hide (I : Inv X pins σ H s) : HOk X.prog X.w H (PySem.W.hideAll s.heap (frs X.stack)) := fun a o e => by
  have nf : ∀ b u, H b = some u → b ∉ frs X.stack := fun b u q z => by
    have := I.stkFree b z
    rw [q] at this
    cases this
  refine (I.hok a o e).stay (fun b u hb r => PySem.W.hideAll_get _ r ?_) (fun c r => r) fun c xs r => r
  rcases hb with rfl | hb
  · exact nf _ _ e
  · exact nf _ _ hb
end

/-! ### a def whose exceptions leave it -/
section
variable {P : Program} {w : World} {K : PySem.W.Frag} {mg : Str → Option Value} {base : Heap} {N : List Str} {qual : Str} {scope : Scope} {f : Addr} {cd : Value} {A : Around} {outer : List Env} {s : Shared} {H : Hp} {E : XK}
/-- what X wants of an exception that is made here -/
def Raises (X : Cx) (E : XK) : Prop := ∀ (pins : List (Addr × Obj)) (σ : St) (H : Hp) (s : Shared) (h' : Heap) (ea : Addr) (cls : Value) (args : List Value),
  Inv X pins σ H s → Heap.MadeExcOf s.heap h' ea cls args → E cls none H → X.xe (.ref ea) { s with heap := h' }
theorem fn_raises : Raises (cxOf (CX1 P w) P w K mg base N qual scope f cd A outer s H E) E := by
  intro pins σ Hc s1 h' ea cls args I hx hE
  have hin : ∀ env ∈ (cxOf (CX1 P w) P w K mg base N qual scope f cd A outer s H E).stack, ∀ b, env.frame = some b → b ∈ frs (cxOf (CX1 P w) P w K mg base N qual scope f cd A outer s H E).stack :=
    fun env he b hb => List.mem_filterMap.mpr ⟨env, he, hb⟩
  refine wpAny_leaves_madeW (base := PySem.W.hideAll s1.heap (frs (cxOf (CX1 P w) P w K mg base N qual scope f cd A outer s H E).stack)) (h := s1.heap) I.ok.frames rfl (fun b o q => PySem.W.of_hideAll _ q) (PySem.W.funFrames_hide I.stack hin) hx fun h2 t fl tup bt up => ?_
  obtain ⟨u1, u2⟩ := leave_un (H' := Hc) (h2 := h2) I rfl fl.1 (fun b o q hb => ⟨o, PySem.W.hideAll_get _ q hb, fun _ => rfl⟩) (fun b o q hb => by
      obtain ⟨_, o2, q2, nf⟩ := I.stack.mem (frs_cons hb)
      rw [q] at q2
      cases q2
      obtain ⟨sl, q3⟩ := up b o (hx.keeps b o q) nf
      exact ⟨sl, q3⟩) (fun b o q n => n) (fun b xs q => q) (fun b o u q => q) (fun b ps q => ⟨#[], by rw [q]; simp⟩)
  exact ⟨ea, cls, Hc, _, _, rfl, I.os, I.bare, fl, u1, HOk.hide I, u2, hE⟩
/-- THE RULE for a def that may raise: its body may use fn_flies (calls) and fn_raises (raise) -/
theorem Fun.okx {x qual : Str} {st : Stmt} {f : Addr} {fd : FuncData} {N ps : List Str} {k : Nat} {sp : Sp} (F : Fun K x qual st f fd) (S : FnScope N ps (defScope st)) (len : ∀ vs H Q E, sp vs H Q E → vs.length = ps.length)
    (hbody : ∀ (cdv : Value) (A : Around) (outer : List Env) (s : Shared) (H : Hp) (vs : List V) (Q : VK) (E : XK), Room k (A.deeper (envOfC qual (defScope st) s.heap.objs.size f cdv)) → sp vs H Q E →
      ∃ t, PSs (cxOf (CX1 P w) P w K mg base N qual (defScope st) f cdv A outer s H E) (defBody st) t ∧ t { nx := fun _ H' => Q .non H', rt := Q } (start N vs) H) : FnOk P w K mg base (CX1 P w) (k + 1) f fd ps sp := by
  obtain ⟨oc, od, kV, doc, pm, an, cdv, ct, osl, rfl, lk, hcd⟩ := F.ex
  exact fn_of lk hcd S len fun A outer s H vs Q E hr hsp => hbody cdv A outer s H vs Q E hr hsp
/-- a def that may raise, called where its promise leaves no exception -/
theorem FnOk.calm {k : Nat} {fd : FuncData} {ps : List Str} {sp : Sp} (F : FnOk P w K mg base (CX1 P w) k f fd ps sp) : FnOk P w K mg base CX0 k f fd ps (fun vs H Q _ => sp vs H Q E0) :=
  ⟨fun vs H Q E h => F.len vs H Q E0 h, fun A outer s H args us vs Q E hr he hb hv hs => codeAny_mono (F.run A outer s H args us vs Q E0 hr he hb hv hs) fun r s' h => by
    cases r with
    | ok fl => cases fl <;> exact h
    | error e => obtain ⟨_, _, _, _, _, _, _, _, _, _, _, _, z⟩ := h; exact z⟩
end

/-! ### raise C(e) -/
/-- an own exception class under ValueError, without __init__ -/
structure Xc (K : PySem.W.Frag) (C : Addr) : Prop where
  ex : PySem.W.excIn K C [.type "ValueError", .type "Exception", .type "BaseException", .type "object"] "ValueError.__new__" = true
theorem Xc.obj {K : PySem.W.Frag} {C : Addr} {h : Heap} (x : Xc K C) (X : K.In h) : ∃ bm N nm q bs hdct sn sub ab col dd k0 k1 k2 k3 k5 mN,
    h.get? C = some (excClassObj nm q C N bs bm hdct sn sub ab col dd k0 k1 k2 k3 k5 "ValueError.__new__") ∧ h.Ns N mN ∧ mN "__init__" = none ∧ OwnTail h [.type "ValueError", .type "Exception", .type "BaseException", .type "object"] bm := by
  have q := x.ex
  unfold PySem.W.excIn at q
  split at q
  · rename_i dd cd sl ho
    split at q
    · rename_i C' bm k0 k1 k2 k3 n k5 hm hs
      simp only [Bool.and_eq_true, beq_iff_eq, Bool.not_eq_true'] at q
      obtain ⟨⟨⟨⟨⟨rfl, rfl⟩, hdel⟩, ht⟩, hok⟩, hni⟩ := q
      obtain ⟨nm, bs, mro, ns, qn, hd, sn, sub, ab, col, del⟩ := cd
      dsimp only at hm hdel hok hni
      subst hm hdel
      have hsl : sl = #[k0, k1, k2, k3, some (.builtin "ValueError.__new__"), k5] := by
        obtain ⟨l⟩ := sl
        simp only at hs
        rw [hs]
      subst hsl
      exact ⟨bm, ns, nm, qn, bs, hd, sn, sub, ab, col, dd, k0, k1, k2, k3, k5, _, X _ _ ho, .of_isNs (PySem.W.isNs_of_in X hok), PySem.W.nsMap_none_of_in X hok hni, PySem.W.tail_of_in X ht⟩
    · cases q
  · cases q
section
variable {X : Cx} {E : XK} {x : Str} {C : Addr} {np cpos pos : Pos} {e : Expr} {es : List Expr} {t : TA}
def tRaise (C : Addr) (E : XK) (t : TA) : TS := fun _ σ H => t σ H fun vs H1 => vs.length ≤ sizeLine ∧ E (.ref C) none H1
theorem ps_raise (xc : Xc X.K C) (hx : Raises X E) (hc : X.calm = true) (hg : Gl X x) (hm : X.mg x = some (.ref C)) (ha : PA X (e :: es) t) (hd : (x == ("__debug__" : Str)) = false := by decide)
    (he : starEach (e :: es) X.env = (false, eval e X.env) :: starEach es X.env := by rfl) (hpl : (backTo cpos (starEach es X.env)).any (·.1) = false := by rfl) :
    PS X (.Raise (some (.Call (.Name x np) (e :: es) [] cpos)) none pos) (tRaise C E t) := by
  intro pins s σ H D I h
  obtain ⟨bm, Nn, nm, q, bs, hdct, sn, sub, ab, col, dd, k0, k1, k2, k3, k5, mN, hC, hN, hni, T⟩ := xc.obj I.ok.mod.kin
  refine wpAny_Raise_call_subT (C := C) (nm := nm) (q := q) (N := Nn) (bs := bs) (bm := bm) (hdct := hdct) (sn := sn) (sub := sub) (ab := ab) (col := col) (dd := dd) (k0 := k0) (k1 := k1) (k2 := k2) (k3 := k3) (k5 := k5)
    PySem.F.excBase_ValueError (mN := mN) (T.hasType PySem.F.excBase_ValueError.hasBase) (I.ok.hd hc) (by rw [he]; show (false || (backTo cpos (starEach es X.env)).any (·.1)) = false; rw [hpl]; rfl) hni (ld_glob I hg hm ⟨rfl, ?_⟩ hd)
  have h2 := ha cpos pins s σ H _ I h
  rw [he] at h2 ⊢
  refine Calls.evalArgs_plain (wpAny_mono h2 (fun us s2 h3 => ?_) fun _ _ y => y)
  obtain ⟨vs, H1, I1, r, z, q1⟩ := h3
  refine ⟨rfl, by rw [← r.length]; exact z, I1.bk _ _ hC, hN.keeps I1.bk, T.keeps I1.bk, fun h' ea hm => ?_⟩
  exact hx pins σ H1 s2 h' ea (.ref C) us I1 hm q1
end

/-! ### a caught exception -/
/-- its object: ea, of the own class C -/
def ExcO (ea C : Addr) : HO := .ext fun h => ∃ ox, h.get? ea = some ox ∧ ox.cls = .ref C
theorem excO_ok {P : Program} {w : World} {H : Hp} {h : Heap} {ea C : Addr} {ox : Obj} (h1 : h.get? ea = some ox) (h2 : ox.cls = .ref C) : ObjOk P w H h ea (ExcO ea C) :=
  ⟨⟨ox, h1, h2⟩, ⟨ox, h1⟩, fun a b ⟨oy, q1, q2⟩ k => ⟨oy, k oy q1, q2⟩⟩
/-- what the walk asks of an own exception class -/
structure XcI (K : PySem.W.Frag) (C : Addr) : Prop where
  cl : (PySem.W.clsIn K C).isSome = true
  ga : PySem.W.findIn K (.ref C) "__getattribute__" = some (some (.builtin "BaseException.__getattribute__"))
  gt : PySem.W.findIn K (.ref C) "__getattr__" = some none
  ca : PySem.W.findIn K (.ref C) "__class__" = some (some (.builtin "object.__class__"))
  sp : PySem.W.specialIn K (.builtin "object.__class__") "__get__" = some (some (.builtin "getset_descriptor.__get__"))
  tk : PySem.W.takesIn K (.builtin "object.__class__") = some true
  mo : PySem.W.mroIn K C (.type "object") = some true
  mb : PySem.W.mroIn K C (.type "BaseException") = some true
section
open PySem.W Builtin Builtin.ObjectAttr Builtin.Getset_descriptor
variable {prog : Program} {w : World} {A : Around} {E : Value → Shared → Prop} {s : Shared} {K : PySem.W.Frag} {x C : Addr}
theorem xc_get {tp : Value} {R : Result → Shared → Prop} (X : K.In s.heap) (L0 : Looks (model prog w) s.heap (typeOf (.ref x)) (.ref C)) (F : XcI K C) (h : R (.ok (.ret (.ref C))) s) :
    codeAny (model prog w) A (.call (.builtin "getset_descriptor.__get__") ⟨[.builtin "object.__class__", .ref x, tp], []⟩) R s := by
  obtain ⟨hh, g, dr, t, os⟩ := s
  have L1 := looks_mroIn (M := model prog w) X F.mo
  refine codeAny_call_builtin KF.slot_gs.plain KF.entry_gs ?_
  refine KF.slot_gs.check _ _ _ _ _ _ _ _ KF.type_class (KF.args_gs _ _ _) ?_
  unfold Builtin.«getset_descriptor.__get__» descrGet
  rw [dga_obj]
  refine wpAny_bind (wpAny_pure ?_)
  unfold descrGetter descrCheckInstance descrNameAndClass isInstance
  simp only [KF.owner_class]
  repeat lk
  refine ⟨Code.quiet_builtin _ (by decide +kernel), ?_⟩
  refine codeAny_builtin KF.entry_class ?_
  unfold Builtin.«object.__class__» shownTypeOf
  repeat lk
  exact h
theorem xc_find (X : K.In s.heap) (F : XcI K C) : Looks (model prog w) s.heap (find (.ref x) (.ref C) "__class__") (.bind (.builtin "getset_descriptor.__get__") (.builtin "object.__class__")) := by
  have L1 := looks_findIn (M := model prog w) X F.ca
  have L2 : Looks (model prog w) s.heap (getOf (some (.builtin "object.__class__"))) (some (.builtin "getset_descriptor.__get__")) := looks_specialIn X F.sp
  have L3 := looks_takesIn (M := model prog w) X F.tk
  unfold find
  refine L1.andThen (L2.andThen ?_)
  refine Looks.andThen (a := some (.builtin "getset_descriptor.__get__", .builtin "object.__class__")) ?_ (Looks.tag .now)
  unfold dataDescriptor?
  exact L3.andThen .now
theorem slot_one {y z : Value} : slotArgs "__getattribute__" 1 ⟨[y, z], []⟩ = pure (y, [z]) := by
  simp [slotArgs]
theorem ga_two {y z g a tp : Value} {n : Str} {Q : Fin → Shared → Prop} (hz : attrName z = pure n) (e1 : Looks (model prog w) s.heap (typeOf y) tp) (e2 : Looks (model prog w) s.heap (find y tp n) (.bind g a)) (hb : wpAny (model prog w) A (bindTo g a y tp) Q E s) :
    wpAny (model prog w) A (Builtin.«object.__getattribute__» ⟨[y, z], []⟩) Q E s := by
  obtain ⟨hh, g', d, t, os⟩ := s
  unfold Builtin.«object.__getattribute__»
  rw [slot_one]
  refine wpAny_bind (wpAny_pure ?_)
  dsimp only
  rw [hz]
  refine wpAny_bind (wpAny_pure (wpAny_bind (e1.at (wpAny_bind (e2.at ?_)))))
  exact hb
theorem bind_ref {g a tp : Value} {Q : Fin → Shared → Prop} (h : wpAny (model prog w) A (call g [a, .ref x, tp]) (fun v s' => Q (.done (.ret v)) s') E s) : wpAny (model prog w) A (bindTo g a (.ref x) tp) Q E s := by
  show wpAny _ _ (holding [a] (call g [a, .ref x, tp]) >>= ret) _ _ _
  exact wpAny_bind (wpAny_holding (wpAny_mono h (fun v s' z => wpAny_pure z) fun _ _ z => z))
theorem ga_kind : builtinKind "BaseException.__getattribute__" = some .slot := by decide +kernel
theorem ga_split : splitId "BaseException.__getattribute__" = some ("BaseException", "__getattribute__") := by decide +kernel
theorem chk_ga {z : Value} {Q : Unit → Shared → Prop} (L4 : Looks (model prog w) s.heap (isInstance (.ref x) (.type "BaseException")) true) (q : Q () s) :
    wpAny (model prog w) A (checkBuiltinCall "BaseException.__getattribute__" ⟨[.ref x, z], []⟩) Q E s := by
  have ha := PySem.F.args_bexc_ga (.ref x) z
  have hk := ga_kind
  have hs := ga_split
  generalize "BaseException.__getattribute__" = i at ha hk hs ⊢
  exact check_slot hk hs L4 ha q
theorem xc_ga {n : Str} {tk : Tok} {R : Result → Shared → Prop} (X : K.In s.heap) (L0 : Looks (model prog w) s.heap (typeOf (.ref x)) (.ref C)) (F : XcI K C) (en : n = "__class__") (h : R (.ok (.ret (.ref C))) s) :
    codeAny (model prog w) A (.call (.builtin "BaseException.__getattribute__") ⟨[.ref x, .str n tk], []⟩) R s := by
  refine codeAny_call_builtin PySem.F.attr_ValueError.ga.plain PySem.F.entry_bexc_ga ?_
  refine chk_ga (L0.andThen (looks_mroIn X F.mb)) ?_
  refine ga_two (n := n) rfl L0 (en ▸ xc_find X F) ?_
  refine bind_ref (wpAny_call (xc_get X L0 F ?_))
  exact h
theorem xc_own {n : Str} {tk : Tok} {Q : Value → Shared → Prop} (X : K.In s.heap) (L0 : Looks (model prog w) s.heap (typeOf (.ref x)) (.ref C)) (F : XcI K C) (en : n = "__class__") (h : Q (.ref C) s) :
    wpAny (model prog w) A (getAttrBy (.ref x) (.str n tk) false) Q E s := by
  obtain ⟨hh, g, d, t, os⟩ := s
  have L1 := looks_findIn (M := model prog w) X F.ga
  have L2 := looks_findIn (M := model prog w) X F.gt
  unfold getAttrBy
  refine wpAny_holding ?_
  refine wpAny_bind (L0.at (wpAny_bind (L1.at ?_)))
  have e : (Value.builtin "BaseException.__getattribute__" == Value.builtin "object.__getattribute__") = false := by decide +kernel
  dsimp only
  rw [e, Bool.and_false, if_neg Bool.false_ne_true]
  unfold getAttrByItsOwn
  refine wpAny_bind (m := hookBefore _) (L2.at ?_)
  refine wpAny_bind (wpAny_attempt (wpAny_holding ?_))
  unfold callGetattribute
  rw [Bool.false_and, if_neg Bool.false_ne_true]
  unfold boundAndCalled
  rw [PySem.F.attr_ValueError.ga.bind (.ref x)]
  refine wpAny_bind (wpAny_pure ?_)
  refine wpAny_call (xc_ga X L0 F en ?_)
  exact wpAny_pure h
theorem xc_class {Q : Option Value → Shared → Prop} (X : K.In s.heap) (L0 : Looks (model prog w) s.heap (typeOf (.ref x)) (.ref C)) (F : XcI K C) (h : Q (some (.ref C)) { s with toks := s.toks + 1 }) :
    wpAny (model prog w) A (getAttr? (.ref x) "__class__") Q E s := by
  unfold getAttr? getAttrBy?
  refine wpAny_bind (wpAny_mkText (wpAny_bind (wpAny_attempt (xc_own (s := { s with toks := s.toks + 1 }) X L0 F rfl ?_))))
  exact wpAny_pure h
end
/-- isinstance's words about a caught exception -/
theorem kitx_exc {K : PySem.W.Frag} {ea C : Addr} (F : XcI K C) : PySem.W.KitX K (.ref ea) (.ref C) (fun h => ∃ ox, h.get? ea = some ox ∧ ox.cls = .ref C) where
  ty := fun M h _ ⟨ox, h1, h2⟩ => h2 ▸ (PySem.W.Looks.ld h1).andThen .now
  it := fun M h X _ => by
    have c := F.cl
    unfold PySem.W.clsIn at c
    split at c
    · rename_i c' d' cd' sl' ho
      intro A' Q' E' s' k q
      unfold isType loadHead
      exact wpAny_bind (wpAny_loadPart (k _ _ (X _ _ ho)) (wpAny_pure q))
    · cases c
  ne := fun h tp dd its n sl X htp => by
    refine Bool.eq_false_iff.mpr fun q => ?_
    have e : C = tp := Value.ref.inj (beq_iff_eq.mp q)
    subst e
    have c := F.cl
    unfold PySem.W.clsIn at c
    split at c
    · rename_i c' d' cd' sl' ho
      have z := (X _ _ ho).symm.trans htp
      cases z
    · cases c
  ca := fun {prog w A E Q s} X p k => xc_class X (by obtain ⟨ox, h1, h2⟩ := p; exact h2 ▸ (PySem.W.Looks.ld h1).andThen .now) F k

/-! ### isinstance -/
/-- the class of a value; of a caught exception its own -/
inductive Ty (K : PySem.W.Frag) (H : Hp) : V → Value → Prop where
  | of {x : V} {t : Value} (h : TyOf K H x t) : Ty K H x t
  | exc {ea C : Addr} (e : H ea = some (ExcO ea C)) (F : XcI K C) : Ty K H (.ref ea) (.ref C)
/-- a class as a value -/
inductive ClsV : V → Value → Prop where
  | ty (T : String) : ClsV (.ty T) (.type T)
  | own (C : Addr) : ClsV (.ref C) (.ref C)
theorem ClsV.rel {x : V} {c u : Value} (h : ClsV x c) (r : RelV x u) : u = c := by
  cases h <;> exact r
section
variable {X : Cx}
def rIsi (K : PySem.W.Frag) : List V → Hp → VK → Prop := fun xs H Q => ∃ x y t c b, xs = [x, y] ∧ Ty K H x t ∧ ClsV y c ∧ PySem.W.kitOne K t c = some b ∧ Q (.bl b) H
theorem call_isi : CallR X (.builtin "isinstance") (rIsi X.K) := by
  intro pins s σ H xs us Q I r h
  obtain ⟨x, y, t, c, b, rfl, ty, cl, e, q⟩ := h
  obtain ⟨u, v, rfl, ru, rv⟩ := vals2 r
  have ev := cl.rel rv
  subst ev
  cases ty with
  | of ty => exact isinst_ok I ru ty e fun tk => ⟨.bl b, H, I.tok tk, rfl, q⟩
  | @exc ea C eh F =>
    cases (show u = Value.ref ea from ru)
    obtain ⟨⟨ox, h1, h2⟩, _⟩ := I.hok ea _ eh
    exact PySem.W.kia_one (kitx_exc F) I.kIn ⟨ox, h1, h2⟩ e (fun z => nomatch z) fun tk => ⟨.bl b, H, I.tok tk, rfl, q⟩
/-- isinstance(e, (C, D, ..)) of a caught exception -/
def rIsiT (K : PySem.W.Frag) : List V → Hp → VK → Prop := fun xs H Q => ∃ (ea C p : Addr) (cs : List Addr) (b : Bool), xs = [.ref ea, .ref p] ∧ H ea = some (ExcO ea C) ∧ XcI K C ∧ H p = some (.tup (cs.map V.ref)) ∧ PySem.W.kitAny K (.ref C) (cs.map Value.ref) = some b ∧ Q (.bl b) H
theorem vals_refs : ∀ {cs : List Addr} {us : List Value}, Vals (cs.map V.ref) us → us = cs.map Value.ref
  | [], _, .nil => rfl
  | c :: cs, _, .cons h t => by
    have e := vals_refs t
    have e2 : _ = Value.ref c := h
    rw [e, e2]
    rfl
theorem call_isiT : CallR X (.builtin "isinstance") (rIsiT X.K) := by
  intro pins s σ H xs us Q I r h
  obtain ⟨ea, C, p, cs, b, rfl, eh, F, ep, e, q⟩ := h
  obtain ⟨u, v, rfl, ru, rv⟩ := vals2 r
  cases (show u = Value.ref ea from ru)
  cases (show v = Value.ref p from rv)
  obtain ⟨⟨ox, h1, h2⟩, _⟩ := I.hok ea _ eh
  obtain ⟨_, its, rits, o, h3, h4, n, h5⟩ := I.hok p _ ep
  have ei := vals_refs rits
  subst ei
  obtain ⟨oc, od, odt, osl⟩ := o
  dsimp only at h4 h5
  subst h4 h5
  exact PySem.W.kia_tup (kitx_exc F) I.kIn ⟨ox, h1, h2⟩ h3 e (fun z => nomatch z) fun tk => ⟨.bl b, H, I.tok tk, rfl, q⟩
end

/-! ### try -/
section
variable {X : Cx} {pins : List (Addr × Obj)} {σ : St} {H H' : Hp} {s : Shared}
/-- X within a try's body: what an exception comes to, the pins of the try -/
abbrev Cx.inTry (X : Cx) (E : Value → Shared → Prop) (pn : List (Addr × Obj)) : Cx := { X with xe := E, pn := X.pn ++ pn }
/-- X within an except suite -/
abbrev Cx.inExc (X : Cx) (ea : Addr) : Cx := { X with A := X.A.mark (some (.ref ea)), calm := false, xe := fun _ _ => False }
theorem Inv.toTry (I : Inv X pins σ H s) (E : Value → Shared → Prop) : Inv (X.inTry E pins) [] σ H s :=
  ⟨⟨I.ok.mod, I.ok.kind, I.ok.glob, I.ok.blt, I.ok.above, I.ok.inj, I.ok.has, I.ok.cab, I.ok.hd, I.ok.frames, I.ok.stk, I.ok.exf, I.ok.bs, I.ok.bsz, I.ok.noex, I.ok.exfs, I.ok.funs, I.ok.frf⟩,
    I.os, I.bare, I.base, I.loc, I.cell, I.free, I.freeC, fun p hp => I.pin p (by simpa using hp), I.hok, I.len⟩
theorem Inv.ofTry {E : Value → Shared → Prop} {pins' : List (Addr × Obj)} (I : Inv (X.inTry E pins) pins' σ H s) : Inv X pins σ H s :=
  ⟨⟨I.ok.mod, I.ok.kind, I.ok.glob, I.ok.blt, I.ok.above, I.ok.inj, I.ok.has, I.ok.cab, I.ok.hd, I.ok.frames, I.ok.stk, I.ok.exf, I.ok.bs, I.ok.bsz, I.ok.noex, I.ok.exfs, I.ok.funs, I.ok.frf⟩,
    I.os, I.bare, I.base, I.loc, I.cell, I.free, I.freeC, fun p hp => I.pin p (List.mem_append_left _ hp), I.hok, I.len⟩
theorem Inv.toExc (I : Inv X pins σ H s) (ea : Addr) : Inv (X.inExc ea) pins σ H s :=
  ⟨⟨I.ok.mod, I.ok.kind, I.ok.glob, I.ok.blt, I.ok.above, I.ok.inj, I.ok.has, I.ok.cab, (fun z => nomatch z), I.ok.frames, I.ok.stk, I.ok.exf, I.ok.bs, I.ok.bsz, I.ok.noex, I.ok.exfs, I.ok.funs, I.ok.frf⟩,
    I.os, I.bare, I.base, I.loc, I.cell, I.free, I.freeC, I.pin, I.hok, I.len⟩
theorem Inv.ofExc {ea : Addr} (hcalm : X.A.handled = none) (I : Inv (X.inExc ea) pins σ H s) : Inv X pins σ H s :=
  ⟨⟨I.ok.mod, I.ok.kind, I.ok.glob, I.ok.blt, I.ok.above, I.ok.inj, I.ok.has, I.ok.cab, fun _ => hcalm, I.ok.frames, I.ok.stk, I.ok.exf, I.ok.bs, I.ok.bsz, I.ok.noex, I.ok.exfs, I.ok.funs, I.ok.frf⟩,
    I.os, I.bare, I.base, I.loc, I.cell, I.free, I.freeC, I.pin, I.hok, I.len⟩
/-- an untracked old object is tracked from here on -/
theorem Inv.track {a : Addr} {o : HO} (I : Inv X pins σ H s) (hn : H a = none) (hf : ∀ u, o ≠ .tup u) (new : ∀ ob, X.s₀.heap.get? a ≠ some ob) (hL : a ≠ X.env.locals) (hfs : a ∉ X.fs) (hC : ∀ x c, X.env.cells.lookup x = some c → c ≠ a) (hp : ∀ p ∈ X.pn ++ pins, p.1 ≠ a)
    (ok : ObjOk X.prog X.w (upd H a o) s.heap a o) : Inv X pins σ (upd H a o) s := by
  have ne : ∀ b u, H b = some u → b ≠ a := fun b u q z => by rw [z, hn] at q; cases q
  refine ⟨I.ok, I.os, I.bare, ⟨I.base.keep, I.base.slot, fun b ob q n hx => ?_, I.base.there, fun b xs q => ?_, fun b ob u q => ?_, fun b ps q => ?_⟩, I.loc, I.cell, ?_, fun x c e => ?_, fun p hpp => ?_, fun b ob q => ?_, I.len⟩
  · rw [upd_ne (fun z => new ob (by rw [← z]; exact q))]
    exact I.base.free b ob q n hx
  · have q' := I.base.tups b xs q
    rw [upd_ne (ne _ _ q')]
    exact q'
  · have q' := I.base.frzs b ob u q
    rw [upd_ne (ne _ _ q')]
    exact q'
  · obtain ⟨more, q'⟩ := I.base.tbls b ps q
    exact ⟨more, by rw [upd_ne (ne _ _ q')]; exact q'⟩
  · rw [upd_ne (Ne.symm hL)]
    exact I.free
  · rw [upd_ne (hC x c e)]
    exact I.freeC x c e
  · obtain ⟨e, n, z⟩ := I.pin p hpp
    exact ⟨e, by rw [upd_ne (hp p hpp)]; exact n, z⟩
  · by_cases hb : b = a
    · subst hb
      rw [upd_same] at q
      cases q
      exact ok
    · rw [upd_ne hb] at q
      refine (I.hok b ob q).stay (fun c u hc r => r) (fun c r => ?_) fun c xs r => ?_
      · rw [upd_ne (ne _ _ r)]
        exact r
      · rw [upd_ne (ne _ _ r)]
        exact r
/-- a local name goes -/
theorem Inv.unset {i : Nat} {n : Str} {m : Str → Option Value} {v : Option Value} {h' : Heap} {t' : Nat} (I : Inv X pins σ H s) (hN : X.N.Nodup) (hi : X.N[i]? = some n) (hn : s.heap.Ns X.env.locals m)
    (hm : ∀ (j : Nat) (x : Str) (v : V), X.N[j]? = some x → σ[j]? = some (some v) → Vis X.env.scope x → ∃ u, RelV v u ∧ Look X.env s.heap m x u)
    (hn' : h'.Ns X.env.locals (fun x => if x = n then v else m x)) (hs : Heap.SameBut X.env.locals s.heap h') : Inv X pins (σ.set i none) H { s with heap := h', toks := t' } := by
  have hiσ : i < σ.length := by rw [I.len]; exact (List.getElem?_eq_some_iff.mp hi).1
  obtain ⟨oL, _, _, hoL, _⟩ := id hn
  refine ⟨I.ok, I.os, I.bare, ⟨fun b o e n hb hx => ?_, fun b o e n hb hx => ?_, I.base.free, fun b o e hx => ?_, I.base.tups, I.base.frzs, I.base.tbls⟩, ⟨_, hn', fun j y v' e1 e2 e3 => ?_⟩, fun y c e => ?_, I.free, I.freeC, fun p hp => ?_, fun b ob e => ?_, by simpa using I.len⟩
  · exact (hs.2 b (I.neL e)).trans (I.base.keep b o e n hb hx)
  · obtain ⟨sl, e1⟩ := I.base.slot b o e n hb hx
    exact ⟨sl, (hs.2 b (I.neL e)).trans e1⟩
  · obtain ⟨o', e1⟩ := I.base.there b o e hx
    exact ⟨o', (hs.2 b (I.neL e)).trans e1⟩
  · by_cases hj : j = i
    · subst hj
      rw [List.getElem?_set_self hiσ] at e2
      cases e2
    · rw [List.getElem?_set_ne (Ne.symm hj)] at e2
      obtain ⟨u', r', q⟩ := hm j y v' e1 e2 e3
      refine ⟨u', r', ?_⟩
      rcases q with ⟨k, e⟩ | ⟨k, c, e, z⟩
      · refine .inl ⟨k, ?_⟩
        have : y ≠ n := fun e => hj (nodup_ix hN e1 (e ▸ hi))
        simp [this, e]
      · exact .inr ⟨k, c, e, z.sameBut hs (I.cne y c e)⟩
  · obtain ⟨w', z⟩ := I.cell y c e
    exact ⟨w', z.sameBut hs (I.cne y c e)⟩
  · obtain ⟨e, n, ne, nf, d⟩ := I.pin p hp
    exact ⟨(hs.2 p.1 ne).trans e, n, ne, nf, d⟩
  · refine (I.hok b ob e).stay (fun c w' hc q => (hs.2 c ?_).trans q) (fun _ q => q) fun _ _ q => q
    rintro rfl
    rcases hc with hc | hc
    · rw [← hc, I.free] at e; cases e
    · rw [I.free] at hc; cases hc
/-- the state where the exception is looked at -/
theorem land_inv {B h5 : Heap} {s' : Shared} {l : List Env} {ea : Addr} {cls a0 : Value} (I : Inv X pins σ H s) (os : s'.os = s.os) (bare : AllBare s'.gens) (un : Un (frs X.stack) [] H H' s.heap s'.heap) (hB : HOk X.prog X.w H' B)
    (old : ∀ b o, s.heap.get? b = some o → b ∉ frs X.stack → ∃ o', B.get? b = some o' ∧ (H b = none → o' = o)) (fl : Heap.FlyingW B X.stack ea cls a0 s'.heap) (fl5 : Heap.FlyingW B X.stack ea cls a0 h5) (up : s'.heap.UpToSlots h5) : Inv X pins σ H' { s' with heap := h5 } := by
  have slot : ∀ b o, s.heap.get? b = some o → b ∈ frs X.stack → ∃ sl, h5.get? b = some { o with slots := sl } := fun b o q hb => by
    obtain ⟨sl, q1⟩ := un.slot b o q (I.stkFree b hb) hb (by simp)
    obtain ⟨_, o2, q2, nf⟩ := fl.2.2.1.mem hb
    rw [q1] at q2
    cases q2
    obtain ⟨sl2, q3⟩ := up b _ q1 nf
    exact ⟨sl2, q3⟩
  refine I.call' (s' := { s' with heap := h5 }) (ch := []) os ⟨fun b o q n hb _ => ?_, fun b o q n hb _ => slot b o q hb, un.free, fun b o q _ => ?_, un.tups, un.frzs, un.tbls⟩ (hB.kept fl5.1) bare (fun b z => nomatch z)
  · obtain ⟨o', e1, e2⟩ := old b o q hb
    rw [e2 n] at e1
    exact fl5.1 b o e1
  · by_cases hb : b ∈ frs X.stack
    · obtain ⟨sl, q1⟩ := slot b o q hb
      exact ⟨_, q1⟩
    · obtain ⟨o', e1, _⟩ := old b o q hb
      exact ⟨o', fl5.1 b o' e1⟩
end
section
variable {X : Cx} {E : XK} {x n : Str} {i : Nat} {Cx0 : Addr} {np hpos pos : Pos} {body : List Stmt} {b₀ : Stmt} {suite : List Stmt} {tb ts : TS}
/-- try: body / except C as n: suite. What the names held is forgotten where an exception comes -/
def tTry (K : PySem.W.Frag) (L : Nat) (E : XK) (C : Addr) (i : Nat) (tb ts : TS) : TS := fun D σ H => tb D σ H ∧ ∀ cls dx H', E cls dx H' → ∃ C0, cls = .ref C0 ∧ PySem.W.exmOne K (.ref C0) (.ref C) = some true ∧
  ∀ ea (σ' : St), σ'.length = L → H' ea = none → ts { nx := fun σ2 H2 => D.nx (σ2.set i none) H2, rt := D.rt, bk := fun σ2 H2 => D.bk (σ2.set i none) H2, ct := fun σ2 H2 => D.ct (σ2.set i none) H2 } (σ'.set i (some (.ref ea))) (upd H' ea (ExcO ea C0))
theorem ps_try (hcalm : X.calm = true) (hex : X.ex = []) (hst : X.stack = X.env :: X.outer) (hfr : X.env.frame = some X.env.locals) (hN : X.N.Nodup) (hi : X.N[i]? = some n) (hlo : X.env.scope.names.lookup n = some .local) (hg : Gl X x) (hm : X.mg x = some (.ref Cx0))
    (hb : ∀ (E2 : Value → Shared → Prop) (pn : List (Addr × Obj)), Passes (CX1 X.prog X.w) (X.inTry E2 pn) E → PSs (X.inTry E2 pn) body tb) (hs : ∀ ea, PSs (X.inExc ea) (b₀ :: suite) ts) (hd : (x == ("__debug__" : Str)) = false := by decide) :
    PS X (.Try body [.ExceptHandler (some (.Name x np)) (some n) (b₀ :: suite) hpos] [] [] pos) (tTry X.K X.N.length E Cx0 i tb ts) := by
  intro pins s σ H D I h
  obtain ⟨h1, h2⟩ := h
  have hh : X.A.handled = none := I.ok.hd hcalm
  refine wpAny_Try_except (wpAny_mono (hb (fun e s' => wpAny (model X.prog X.w) X.A (noteFrame e X.env) (fun _ s₂ => wpAny (model X.prog X.w) X.A (setFlight e none) (fun _ s₃ => wpAny (model X.prog X.w) X.A (handleBy e X.env [.ExceptHandler (some (.Name x np)) (some n) (b₀ :: suite) hpos]) (SP X pins D) X.xe s₃) X.xe s₂) X.xe s') pins ?pass [] s σ H D (I.toTry _) h1) (fun f s1 q => ?_) fun _ _ z => z)
  case pass =>
    intro pins' σ' Hc sc e s' I' hcx
    obtain ⟨ea, cls, H', B, a0, rfl, os, bare, fl, un, hB, old, hE⟩ := hcx
    have I0 : Inv X pins σ' Hc sc := I'.ofTry
    obtain ⟨C0, rfl, ex, k⟩ := h2 cls none H' hE
    have fl' : Heap.FlyingW B (X.env :: X.outer) ea (.ref C0) a0 s'.heap := hst ▸ fl
    refine wpAny_looks_onW (I.ok.frames.trans (by rw [hst])) hfr fl' fun h4 held up4 => wpAny_landsW held fun h5 fl5' up5 => ?_
    have fl5 : Heap.FlyingW B X.stack ea (.ref C0) a0 h5 := hst.symm ▸ fl5'
    have I5 : Inv X pins σ' H' { s' with heap := h5 } := land_inv (l := X.stack) I0 os bare un hB old fl fl5 (up4.trans up5)
    refine wpAny_handleBy_cons (codeAny_handlers_test (ld_glob (X := X.inExc ea) (I5.toExc ea) hg hm ?_ hd)) (by intro q; cases q)
    obtain ⟨oe, he, hc⟩ := fl5.there
    have LT : PySem.W.Looks (model X.prog X.w) h5 (typeOf (.ref ea)) (.ref C0) := hc ▸ (PySem.W.Looks.ld he).andThen .now
    refine (PySem.W.exm_one I5.kIn LT ex).here ?_
    refine codeAny_handlers_suite_as (lands_againW fl5 fun h6 fl6 up6 => ?_)
    have I6 : Inv X pins σ' H' { s' with heap := h6 } := land_inv (l := X.stack) I0 os bare un hB old fl fl6 ((up4.trans up5).trans up6)
    obtain ⟨oe6, he6, hc6⟩ := fl6.there
    have n6 : H' ea = none := hB.nil_of fl6.2.1
    obtain ⟨oe7, ws, he7, _, hdat, _⟩ := fl6.first
    have noF : ea ∉ frs X.stack := fun z => by
      obtain ⟨_, o2, q2, nf⟩ := fl6.2.2.1.mem z
      rw [he7] at q2
      cases q2
      exact nf ws hdat
    have noB : ∀ b o, sc.heap.get? b = some o → b ∉ frs X.stack → b ≠ ea := fun b o q nb z => by
      obtain ⟨o', e1, _⟩ := old b o q nb
      rw [z, fl6.2.1] at e1
      cases e1
    have I7 : Inv X pins σ' (upd H' ea (ExcO ea C0)) { s' with heap := h6 } := by
      refine I6.track n6 (by intro u z; cases z) (fun ob q => ?_) (fun z => noF ?_) (fun z => noF ?_) (fun y c e z => ?_) (fun p hp z => ?_) (excO_ok he6 hc6)
      · obtain ⟨o1, q1⟩ := I0.base.there ea ob q (by rw [hex]; simp)
        exact noB ea o1 q1 noF rfl
      · rw [hst, z]
        exact List.mem_filterMap.mpr ⟨X.env, List.mem_cons_self .., hfr⟩
      · rw [hst]
        exact frs_cons z
      · obtain ⟨v, oc, hoc, hcd⟩ := I6.cell y c e
        rw [z] at hoc
        rw [he7] at hoc
        cases hoc
        rw [hdat] at hcd
        cases hcd
      · obtain ⟨e, n0, ne, nf, _⟩ := I0.pin p hp
        refine noB p.1 p.2 e (fun zz => ?_) z
        rcases List.mem_cons.mp (I0.stkSub p.1 zz) with q | q
        · exact ne q
        · exact nf q
    refine store_ok (X := X.inExc ea) (I7.toExc ea) hN hi (.inl hlo) (v := .ref ea) rfl (fun s8 I8 => ?_) (.inr hlo)
    have q8 := hs ea pins s8 _ _ _ I8 (k ea σ' I0.len n6)
    refine wpAny_mono q8 (fun f s9 q9 => ?_) fun _ _ z => z.elim
    have gone : ∀ {σ2 : St} {H2 : Hp} {R : Shared → Prop}, Inv (X.inExc ea) pins σ2 H2 s9 → (∀ s10, Inv X pins (σ2.set i none) H2 s10 → R s10) → wpAny (model X.prog X.w) X.A (do bindName X.env n .none; unbindBehindTheSuite X.env n hpos) (fun _ s10 => R s10) X.xe s9 := fun {σ2 H2 R} J g => by
      have J' := J.ofExc hh
      obtain ⟨m, hn, hl⟩ := id J'.loc
      refine wpAny_nameGoes_keeps hlo hn (by rw [I.ok.kind]; rfl) fun h' v hn' hsb => g _ (J'.unset hN hi hn hl hn' hsb)
    cases f with
    | next => obtain ⟨σ2, H2, J, q⟩ := q9; exact gone J fun s10 J' => ⟨_, _, J', q⟩
    | brk => obtain ⟨σ2, H2, J, q⟩ := q9; exact gone J fun s10 J' => ⟨_, _, J', q⟩
    | cont => obtain ⟨σ2, H2, J, q⟩ := q9; exact gone J fun s10 J' => ⟨_, _, J', q⟩
    | ret u => obtain ⟨v, σ2, H2, J, r, q⟩ := q9; exact gone J fun s10 J' => ⟨v, _, _, J', r, q⟩
  · cases f with
    | next => obtain ⟨σ2, H2, J, q⟩ := q; exact wpAny_execs_nil ⟨σ2, H2, J.ofTry, q⟩
    | brk => obtain ⟨σ2, H2, J, q⟩ := q; exact ⟨σ2, H2, J.ofTry, q⟩
    | cont => obtain ⟨σ2, H2, J, q⟩ := q; exact ⟨σ2, H2, J.ofTry, q⟩
    | ret u => obtain ⟨v, σ2, H2, J, r, q⟩ := q; exact ⟨v, σ2, H2, J.ofTry, r, q⟩
end
end L2

end

section
set_option maxHeartbeats 4000000
/-! MORE RULES over the hand layer: products and quotients of great numbers, script + [..], {}, what built-in names stand for, isinstance against int and bool. -/
namespace L2
open PySem PySem.Spec PyProof.Rows
theorem bt_int : bootBuiltins "int" = some (.type "int") := by decide +kernel
theorem bt_bool : bootBuiltins "bool" = some (.type "bool") := by decide +kernel
theorem bt_tuple : bootBuiltins "tuple" = some (.type "tuple") := by decide +kernel
theorem bt_list : bootBuiltins "list" = some (.type "list") := by decide +kernel
theorem bt_ValueError : bootBuiltins "ValueError" = some (.type "ValueError") := by decide +kernel
theorem bt_isinstance : bootBuiltins "isinstance" = some (.builtin "isinstance") := by decide +kernel
theorem bt_len : bootBuiltins "len" = some (.builtin "len") := by decide +kernel
theorem bt_abs : bootBuiltins "abs" = some (.builtin "abs") := by decide +kernel
theorem bt_min : bootBuiltins "min" = some (.builtin "min") := by decide +kernel

theorem iteN {b : Bool} {A B : Prop} (h : b = false) (q : B) : if b = true then A else B := by
  subst h
  exact iteF q
theorem iteY {b : Bool} {A B : Prop} (h : b = true) (q : A) : if b = true then A else B := by
  subst h
  exact iteT q
section
variable {X : Cx}
/-- an argument that is no star -/
def notStar : Expr → Prop
  | .Starred .. => False
  | _ => True
theorem star_of {e : Expr} {es : List Expr} {env : Env} (h : notStar e) : starEach (e :: es) env = (false, eval e env) :: starEach es env := by
  cases e <;> first | rfl | exact h.elim
theorem pk {e : Expr} {es : List Expr} {te : TE} {t : TA} (ha : PE X e te) (hr : PA X es t) (h : notStar e := by exact True.intro) : PA X (e :: es) (tCons te t) := pa_cons ha hr (star_of h)
/-- a built-in class, an own class, as a value -/
theorem pe_bt {x : Str} {T : String} {pos : Pos} (hg : Gl X x) (hm : X.mg x = none) (hv : bootBuiltins x = some (.type T)) (hn : x ≠ "__name__" := by decide) (hd : (x == ("__debug__" : Str)) = false := by decide) : PE X (.Name x pos) (tC (.ty T)) := pe_bltn hg hm hv rfl hn hd
theorem pe_gr {x : Str} {C : Addr} {pos : Pos} (hg : Gl X x) (hm : X.mg x = some (.ref C)) (hd : (x == ("__debug__" : Str)) = false := by decide) : PE X (.Name x pos) (tC (.ref C)) := pe_glob hg hm rfl hd
/-- ps_set, its facts asked last -/
theorem ps_st {pos : Pos} {i : Nat} {x : Str} {e : Expr} {te : TE} {pos' : Pos} (he : PE X e te) (hN : X.N.Nodup := by assumption) (hi : X.N[i]? = some x := by rfl) (hx : Loc X.env.scope x := by first | exact Or.inl rfl | exact Or.inr rfl) (hs : swapsWith e (some (.Name x pos')) pos.line X.env = pure false := by rfl)
    (hf : X.fn x = true ∨ X.env.scope.names.lookup x = some .local := by first | exact .inl rfl | exact .inr rfl | assumption) : PS X (.Assign [.Name x pos'] e pos) (tAsg te (gName i)) := ps_set hN hi hx he hs hf
theorem pg_nm {pos : Pos} (i : Nat) {x : Str} (hN : X.N.Nodup := by assumption) (hi : X.N[i]? = some x := by rfl) (hx : Loc X.env.scope x := by first | exact Or.inl rfl | exact Or.inr rfl) (hf : X.fn x = true ∨ X.env.scope.names.lookup x = some .local := by first | exact .inl rfl | exact .inr rfl | assumption) : PG X (.Name x pos) (gName i) := pg_name hN hi hx hf
theorem ps_pr {pos : Pos} {i j : Nat} {x y : Str} {a b : Expr} {ta : TA} {px py pt : Pos} {kt k2 pt2} (ha : PA X [a, b] ta) (hc : X.calm = true := by rfl) (hN : X.N.Nodup := by assumption) (hi : X.N[i]? = some x := by rfl) (hj : X.N[j]? = some y := by rfl) (hij : i ≠ j := by decide)
    (hx : X.env.scope.names.lookup x = some .local := by rfl) (hy : X.env.scope.names.lookup y = some .local := by rfl)
    (hw : swappedStores [.Tuple [.Name x px, .Name y py] kt pt] (.Tuple [a, b] k2 pt2) X.env = pure (some [x, y]) := by rfl)
    (hs : swapsWithSole [.Tuple [.Name x px, .Name y py] kt pt] (.Tuple [a, b] k2 pt2) pos.line X.env = pure false := by rfl) :
    PS X (.Assign [.Tuple [.Name x px, .Name y py] kt pt] (.Tuple [a, b] k2 pt2) pos) (tPar i j ta) := ps_par hc hN hi hj hij hx hy ha hw hs
theorem call_isiTK {K : PySem.W.Frag} (h : X.K = K) : CallR X (.builtin "isinstance") (rIsiT K) := h ▸ call_isiT
theorem call_isiK {K : PySem.W.Frag} (h : X.K = K) : CallR X (.builtin "isinstance") (rIsi K) := h ▸ call_isi
/-- a number that is not too great -/
abbrev Sm (i : Int) : Prop := i.natAbs < 2 ^ 4000
def CMulX (i j : Int) : Prop := CMul i j ∨ (Sm i ∧ Sm j)
theorem op_mulX : OpR X (binaryOp .Mult) (rI CMulX fun i j => .int (i * j)) := opI fun i j _ _ _ _ _ hc q => by
  refine mul_int q ?_
  rcases hc with h | ⟨h1, h2⟩
  · exact h.ok
  · exact IntMulOk.of_le (intBits_le_iff.mpr h1) (intBits_le_iff.mpr h2) (by decide)
def CDivB (i j : Int) : Prop := j ≠ 0 ∧ Sm j
theorem op_fdivB : OpR X (binaryOp .FloorDiv) (rI CDivB fun i j => .int (i.fdiv j)) := opI fun i j _ _ _ _ _ hc q => by
  refine floordiv_int hc.1 q (Or.inl (PyProof.noPylong_of_log2 ?_))
  have h : j.natAbs ≠ 0 := by have := hc.1; omega
  have := (Nat.log2_lt h).mpr hc.2
  omega
/-- xs + ys, both only read -/
def rCatS (K : PySem.W.Frag) : R2 := fun x y H Q => ∃ l b xs zs, x = .ref l ∧ y = .ref b ∧ SqL K H l xs ∧ SqL K H b zs ∧ xs.length + zs.length ≤ sizeLine ∧ ∀ p, H p = none → Q (.ref p) (upd H p (.lst (xs ++ zs)))
theorem op_catS : OpR X (binaryOp .Add) (rCatS X.K) := by
  intro pins s σ H x y v u Q I rx ry h
  obtain ⟨l, b, xs, zs, rfl, rfl, hl, hb, hz, q⟩ := h
  cases rx
  cases ry
  obtain ⟨its, r, ⟨⟨k1, k2, k3, k4⟩, n, e, c1, c2, c3⟩, z⟩ := I.list hl
  obtain ⟨its2, r2, ⟨⟨j1, j2, j3, j4⟩, n2, e2, d1, d2, d3⟩, z2⟩ := I.list hb
  have h1 := r.length
  have h2 := r2.length
  dsimp only at c1 c3 d1 d3
  subst c1 c3 d1 d3
  have lw := list_addW l b its.toArray its2.toArray n n2 k2 j2 k4 j4 (by simp only [List.size_toArray]; omega)
  refine concat_meets ⟨_, e, rfl⟩ ⟨_, e2, rfl⟩ noFill_list_add seq_list_add
    PySem.F.slot_list_add PySem.F.entry_list_add (PySem.F.args_list_add_2 _ _) lw ⟨e, e2, ?_⟩
  have ea : its.toArray ++ its2.toArray = (its ++ its2).toArray := by simp
  rw [ea]
  exact ⟨.ref _, _, I.lnew (t' := s.toks) (r.append r2) (by rw [List.length_append]; omega), rfl, q _ I.fresh⟩
theorem Inv.bigM {pins : List (Addr × Obj)} {σ : St} {H : Hp} {s : Shared} (I : Inv X pins σ H s) : sysModules < s.heap.objs.size :=
  Nat.lt_trans (by decide : sysModules < mainGlobals) (I.mod.glob.keeps I.bk).lt
/-- {} -/
def tDict0 : TE := fun _ H Q => ∀ p, H p = none → Q (.ref p) (upd H p (.dK []))
theorem pe_dnewK {pos : Pos} : PE X (.Dict [] [] pos) tDict0 := by
  intro pins s σ H Q I h
  have new : ObjOk X.prog X.w (upd H s.heap.objs.size (.dK [])) (s.heap.push { cls := .type "dict", data := .dict #[] }) s.heap.objs.size (.dK []) :=
    ⟨Nat.zero_le _, beq_eq_false_iff_ne.mpr (Ne.symm (Nat.ne_of_lt I.bigM)), [], .nil, Heap.DictOf.new s.heap⟩
  exact wpAny_Dict_empty ⟨.ref s.heap.objs.size, _, I.laid (t' := s.toks) (fun _ _ q => Heap.get?_push_of_some _ q) (Nat.le_refl _) new, rfl, h _ (I.hok.fresh (Nat.le_refl _))⟩
end

/-! ### isinstance against built-in classes -/
def kitT (T C : String) : Option Bool := if (Value.type T == Value.type C) = true then some true else if PySem.W.kitMeta C = true then (fastBuiltinMro T).map (·.contains (.type C)) else none
theorem kit_t {K : PySem.W.Frag} {T C : String} {b : Bool} (h : kitT T C = some b) : PySem.W.kitOne K (.type T) (.type C) = some b := h
/-- a whole number (no truth) -/
def isInt : V → Bool
  | .int _ => true
  | _ => false
theorem ty_whole {K : PySem.W.Frag} {H : Hp} {x : V} {T : String} (h : TyOf K H x (.type T)) : ∃ b1 b2, PySem.W.kitOne K (.type T) (.type "int") = some b1 ∧ PySem.W.kitOne K (.type T) (.type "bool") = some b2 ∧ isInt x = (b1 && !b2) := by
  cases h with
  | non => exact ⟨false, false, kit_t (by decide +kernel), kit_t (by decide +kernel), rfl⟩
  | bl _ => exact ⟨true, true, kit_t (by decide +kernel), kit_t (by decide +kernel), rfl⟩
  | int _ => exact ⟨true, false, kit_t (by decide +kernel), kit_t (by decide +kernel), rfl⟩
  | str _ => exact ⟨false, false, kit_t (by decide +kernel), kit_t (by decide +kernel), rfl⟩
  | flt _ => exact ⟨false, false, kit_t (by decide +kernel), kit_t (by decide +kernel), rfl⟩
  | lst _ => exact ⟨false, false, kit_t (by decide +kernel), kit_t (by decide +kernel), rfl⟩
  | frz _ => exact ⟨false, false, kit_t (by decide +kernel), kit_t (by decide +kernel), rfl⟩
  | tup _ => exact ⟨false, false, kit_t (by decide +kernel), kit_t (by decide +kernel), rfl⟩
  | dK _ => exact ⟨false, false, kit_t (by decide +kernel), kit_t (by decide +kernel), rfl⟩
  | dT _ => exact ⟨false, false, kit_t (by decide +kernel), kit_t (by decide +kernel), rfl⟩
/-- a tuple or none -/
theorem ty_tuple {K : PySem.W.Frag} {H : Hp} {x : V} {T : String} (h : TyOf K H x (.type T)) : (∃ a xs, x = .ref a ∧ H a = some (.tup xs) ∧ T = "tuple") ∨ (T ≠ "tuple" ∧ PySem.W.kitOne K (.type T) (.type "tuple") = some false) := by
  cases h with
  | non => exact .inr ⟨by decide, kit_t (by decide +kernel)⟩
  | bl _ => exact .inr ⟨by decide, kit_t (by decide +kernel)⟩
  | int _ => exact .inr ⟨by decide, kit_t (by decide +kernel)⟩
  | str _ => exact .inr ⟨by decide, kit_t (by decide +kernel)⟩
  | flt _ => exact .inr ⟨by decide, kit_t (by decide +kernel)⟩
  | lst _ => exact .inr ⟨by decide, kit_t (by decide +kernel)⟩
  | frz _ => exact .inr ⟨by decide, kit_t (by decide +kernel)⟩
  | tup e => exact .inl ⟨_, _, rfl, e, rfl⟩
  | dK _ => exact .inr ⟨by decide, kit_t (by decide +kernel)⟩
  | dT _ => exact .inr ⟨by decide, kit_t (by decide +kernel)⟩
theorem kit_tt {K : PySem.W.Frag} : PySem.W.kitOne K (.type "tuple") (.type "tuple") = some true := kit_t (by decide +kernel)
theorem kit_bb {K : PySem.W.Frag} : PySem.W.kitOne K (.type "bool") (.type "bool") = some true := kit_t (by decide +kernel)
end L2

end

namespace Fr
/-- lowest terms of t by b: x by y -/
structure Low (t b x y : Int) : Prop where
  pos : 0 < y
  cop : Int.gcd x y = 1
  eq : x * b = t * y
theorem gcd_step {a b : Int} (ha : 0 ≤ a) (hb : 0 ≤ b) : Int.gcd b (a.fmod b) = Int.gcd a b := by
  obtain ⟨m, rfl⟩ := Int.eq_ofNat_of_zero_le ha
  obtain ⟨n, rfl⟩ := Int.eq_ofNat_of_zero_le hb
  rw [Int.fmod_eq_emod_of_nonneg _ hb]
  show Nat.gcd n (m % n) = Nat.gcd m n
  rw [Nat.gcd_comm m n, Nat.gcd_rec n m, Nat.gcd_comm]
theorem gcd_end {a : Int} (ha : 0 ≤ a) : (Int.gcd a 0 : Int) = a := by
  rw [Int.gcd_zero_right]; omega
theorem gcd_pos {a b : Int} (h : b ≠ 0) : 0 < Int.gcd a b := Int.gcd_pos_of_ne_zero_right a h
/-- the quotients by the greatest common divisor -/
theorem quot {a b : Int} (h : b ≠ 0) : ∃ x y : Int, a = x * (Int.gcd a b : Int) ∧ b = y * (Int.gcd a b : Int) ∧ Int.gcd x y = 1 := by
  have gp := gcd_pos (a := a) h
  obtain ⟨x, hx⟩ := Int.gcd_dvd_left a b
  obtain ⟨y, hy⟩ := Int.gcd_dvd_right a b
  refine ⟨x, y, by rw [Int.mul_comm]; exact hx, by rw [Int.mul_comm]; exact hy, ?_⟩
  have e : Int.gcd a b = Int.gcd a b * Int.gcd x y := by
    have := Int.gcd_mul_left (Int.gcd a b : Int) x y
    rw [← hx, ← hy] at this
    simpa using this
  have : Int.gcd a b * 1 = Int.gcd a b * Int.gcd x y := by rw [Nat.mul_one]; exact e
  exact (Nat.eq_of_mul_eq_mul_left gp this).symm
theorem fdiv_mul {x d : Int} (h : d ≠ 0) : (x * d).fdiv d = x := by
  rw [Int.mul_comm]; exact Int.mul_fdiv_cancel_left x h
theorem low {t b : Int} (h : b ≠ 0) (d : Int) (hd : d = if b < 0 then -(Int.gcd t b : Int) else (Int.gcd t b : Int)) :
    d ≠ 0 ∧ Low t b (t.fdiv d) (b.fdiv d) := by
  obtain ⟨x, y, hx, hy, c⟩ := quot (a := t) h
  have gp : (0 : Int) < (Int.gcd t b : Int) := by have := gcd_pos (a := t) h; omega
  generalize (Int.gcd t b : Int) = g at *
  by_cases n : b < 0
  · rw [if_pos n] at hd
    subst hd
    have e1 : t.fdiv (-g) = -x := by
      have : t = (-x) * (-g) := by rw [Int.neg_mul_neg]; exact hx
      rw [this]; exact fdiv_mul (by omega)
    have e2 : b.fdiv (-g) = -y := by
      have : b = (-y) * (-g) := by rw [Int.neg_mul_neg]; exact hy
      rw [this]; exact fdiv_mul (by omega)
    refine ⟨by omega, ?_⟩
    rw [e1, e2]
    refine ⟨?_, by simpa using c, ?_⟩
    · have : y < 0 := by
        rcases Int.lt_trichotomy y 0 with q | q | q
        · exact q
        · rw [q] at hy; omega
        · have := Int.mul_pos q gp; omega
      omega
    · rw [hx, hy, Int.mul_assoc, Int.mul_neg, Int.mul_comm g y, Int.mul_neg, Int.neg_mul]
  · rw [if_neg n] at hd
    rw [hd]
    have e1 : t.fdiv g = x := by rw [hx]; exact fdiv_mul (by omega)
    have e2 : b.fdiv g = y := by rw [hy]; exact fdiv_mul (by omega)
    refine ⟨by omega, ?_⟩
    rw [e1, e2]
    refine ⟨?_, c, ?_⟩
    · rcases Int.lt_trichotomy y 0 with q | q | q
      · have := Int.mul_neg_of_neg_of_pos q gp; omega
      · rw [q] at hy; omega
      · exact q
    · rw [hx, hy, Int.mul_assoc, Int.mul_comm g y]
/-- bounds of the quotients -/
theorem fdiv_le {t d : Int} {M : Int} (hd : d ≠ 0) (h : -M ≤ t ∧ t ≤ M) (dv : d ∣ t) : -M ≤ t.fdiv d ∧ t.fdiv d ≤ M := by
  obtain ⟨k, rfl⟩ := dv
  rw [Int.mul_fdiv_cancel_left k hd]
  have h1 : k.natAbs ≤ (d * k).natAbs := by
    rw [Int.natAbs_mul]
    exact Nat.le_mul_of_pos_left _ (by omega)
  omega
end Fr

section
set_option maxHeartbeats 1000000
/-! STEPS of readings, one rule for each head; the calls of own defs by one fact; equality of data. -/
namespace L2
open PySem PySem.Spec PyProof.Rows
section
variable {σ : St} {H : Hp} {D : Ends} {t u : TS} {te ta tb tc : TE} {Q : VK} {c d : TT} {ts : TA}
theorem s_seq {n : St → Hp → Prop} {r : VK} {b k : St → Hp → Prop} (h : t (Ends.mk (u (Ends.mk n r b k)) r b k) σ H) : tSeq t u (Ends.mk n r b k) σ H := h
theorem s_asg {i : Nat} (h : te σ H fun x H1 => D.nx (σ.set i (some x)) H1) : tAsg te (gName i) D σ H := h
theorem s_drop (h : te σ H fun _ H1 => D.nx σ H1) : tDrop te D σ H := h
theorem s_ret (h : te σ H D.rt) : tRet te D σ H := h
theorem s_if (h : c σ H fun b H1 => if b = true then t D σ H1 else u D σ H1) : tIfS c t u D σ H := h
theorem s_next (h : D.nx σ H) : tNext D σ H := h
theorem s_par {i j : Nat} (h : ts σ H fun vs H1 => ∃ v w, vs = [v, w] ∧ D.nx ((σ.set i (some v)).set j (some w)) H1) : tPar i j ts D σ H := h
theorem s_gn {i : Nat} {v : V} {σ' : St} {P : St → Hp → Prop} (e : σ.set i (some v) = σ') (h : P σ' H) : gName i v σ H P := by
  subst e
  exact h
theorem s_var {i : Nat} {v : V} (h : σ[i]? = some (some v)) (q : Q v H) : tVar i σ H Q := ⟨v, h, q⟩
theorem s_c {v : V} (q : Q v H) : tC v σ H Q := q
theorem s_op {r : R2} (h : ta σ H fun x H1 => tb σ H1 fun y H2 => r x y H2 Q) : tOp r ta tb σ H Q := h
theorem s_un {r : V → Hp → VK → Prop} (h : ta σ H fun x H1 => r x H1 Q) : tUn r ta σ H Q := h
theorem s_cons {P : List V → Hp → Prop} (h : ta σ H fun x H1 => ts σ H1 fun xs H2 => P (x :: xs) H2) : tCons ta ts σ H P := h
theorem s_nil {P : List V → Hp → Prop} (h : P [] H) : tNil σ H P := h
/-- a new object is laid -/
def Al (o : HO) (n : Nat) (H : Hp) (Q : VK) : Prop := n ≤ sizeLine ∧ ∀ p, H p = none → Q (.ref p) (upd H p o)
theorem s_al {o : HO} {n : Nat} (hn : n ≤ sizeLine) (h : ∀ p H', Same H H' → H' p = some o → Q (.ref p) H') : Al o n H Q := ⟨hn, fun p hp => h p _ (fun b u e => by rw [upd_ne (ne_of_none e hp)]; exact e) upd_same⟩
theorem s_tup (h : ts σ H fun xs H1 => Al (.tup xs) xs.length H1 Q) : tTup ts σ H Q := h
theorem s_lst (h : ts σ H fun xs H1 => Al (.lst xs) xs.length H1 Q) : tLst ts σ H Q := h
theorem s_call {sp : Sp} {E : XK} (h : ts σ H fun vs H1 => sp vs H1 Q E) : tCall sp [] E ts σ H Q := by
  unfold tCall
  simpa only [List.append_nil] using h
theorem s_cb {r : List V → Hp → VK → Prop} (h : ts σ H fun vs H1 => r vs H1 Q) : tCB r ts σ H Q := h
theorem s_test {P : Bool → Hp → Prop} (h : te σ H fun x H' => ∃ k, x = .bl k ∧ P k H') : tTest te σ H P := h
theorem s_b {P : Bool → Hp → Prop} (h : te σ H fun x H' => ∃ k, x = .bl k ∧ P k H') : tB te σ H P := h
theorem s_and {P : Bool → Hp → Prop} (h : c σ H fun k H1 => if k = true then d σ H1 P else P false H1) : tAnd c d σ H P := h
theorem s_or {P : Bool → Hp → Prop} (h : c σ H fun k H1 => if k = true then P true H1 else d σ H1 P) : tOr c d σ H P := h
theorem s_not {P : Bool → Hp → Prop} (h : c σ H fun k H1 => P (!k) H1) : tNot c σ H P := h
theorem s_andV (h : ta σ H fun x H1 => ∃ c, x = .bl c ∧ if c = true then tb σ H1 Q else Q (.bl false) H1) : tAndV ta tb σ H Q := h
theorem s_notV (h : ta σ H fun x H1 => ∃ c, x = .bl c ∧ Q (.bl (!c)) H1) : tNotV ta σ H Q := h
theorem s_chain {r r' : R2} (h : ta σ H fun x H1 => tb σ H1 fun y H2 => r x y H2 fun z H3 => ∃ k, z = .bl k ∧ (if k = true then tc σ H3 fun w' H4 => r' y w' H4 Q else Q (.bl false) H3)) : tChain r r' ta tb tc σ H Q := h
theorem s_bl {P : Bool → Prop} {k : Bool} (h : P k) : ∃ k', V.bl k = .bl k' ∧ P k' := ⟨k, rfl, h⟩
theorem s_rI {C : Int → Int → Prop} {g : Int → Int → V} {i j : Int} (hc : C i j) (q : Q (g i j) H) : rI C g (.int i) (.int j) H Q := ⟨i, j, rfl, rfl, hc, q⟩
theorem s_rI0 {g : Int → Int → V} {i j : Int} (q : Q (g i j) H) : rI0 g (.int i) (.int j) H Q := ⟨i, j, rfl, rfl, q⟩
theorem s_rU {g : Int → V} {i : Int} (q : Q (g i) H) : rU g (.int i) H Q := ⟨i, rfl, q⟩
theorem s_eqI {i j : Int} (q : Q (.bl (decide (i = j))) H) : rEq (.int i) (.int j) H Q := ⟨rfl, by
  have e : decide (V.int i = V.int j) = decide (i = j) := by rw [Bool.eq_iff_iff]; simp
  rw [e]; exact q⟩
theorem s_neI {i j : Int} (q : Q (.bl (!decide (i = j))) H) : rNe (.int i) (.int j) H Q := ⟨rfl, by
  have e : decide (V.int i = V.int j) = decide (i = j) := by rw [Bool.eq_iff_iff]; simp
  rw [e]; exact q⟩
theorem s_ixT {K : PySem.W.Frag} {p : Addr} {xs : List V} {i : Int} {v : V} (h : SqT K H p xs) (e : atI xs i = some v) (q : Q v H) : rIxT K (.ref p) (.int i) H Q := ⟨p, xs, i, v, rfl, rfl, h, e, q⟩
theorem s_ixL {K : PySem.W.Frag} {p : Addr} {xs : List V} {i : Int} {v : V} (h : SqL K H p xs) (e : atI xs i = some v) (q : Q v H) : rIxL K (.ref p) (.int i) H Q := ⟨p, xs, i, v, rfl, rfl, h, e, q⟩
theorem s_nx {n : St → Hp → Prop} {r : VK} {b k : St → Hp → Prop} (h : n σ H) : (Ends.mk n r b k).nx σ H := h
theorem s_rt {n : St → Hp → Prop} {r : VK} {b k : St → Hp → Prop} {v : V} (h : r v H) : (Ends.mk n r b k).rt v H := h
theorem s_set {i : Nat} {v : Option V} {σ' : St} (e : σ.set i v = σ') (h : D.nx σ' H) : D.nx (σ.set i v) H := e ▸ h
theorem s_set2 {i j : Nat} {v w : Option V} {σ' : St} (e : (σ.set i v).set j w = σ') (h : D.nx σ' H) : D.nx ((σ.set i v).set j w) H := e ▸ h
end
theorem iteNt {A B : Prop} (h : B) : if (!true) = true then A else B := iteF h
theorem iteNf {A B : Prop} (h : A) : if (!false) = true then A else B := iteT h
theorem ln1 {a : V} : [a].length ≤ sizeLine := by show 1 ≤ sizeLine; decide
theorem ln2 {a b : V} : [a, b].length ≤ sizeLine := by show 2 ≤ sizeLine; decide
theorem ln3 {a b c : V} : [a, b, c].length ≤ sizeLine := by show 3 ≤ sizeLine; decide
theorem ln5 {a b c d e : V} : [a, b, c, d, e].length ≤ sizeLine := by show 5 ≤ sizeLine; decide
theorem ln6 {a b c d e f : V} : [a, b, c, d, e, f].length ≤ sizeLine := by show 6 ≤ sizeLine; decide
theorem ln8 {a b c d e f g h : V} : [a, b, c, d, e, f, g, h].length ≤ sizeLine := by show 8 ≤ sizeLine; decide
theorem Same.new {H : Hp} {p : Addr} {o : HO} (h : H p = none) : Same H (upd H p o) := fun b u e => by
  rw [upd_ne (ne_of_none e h)]
  exact e
theorem Same.tup {K : PySem.W.Frag} {H H' : Hp} {a : Addr} {xs : List V} (e : Same H H') (h : SqT K H a xs) : SqT K H' a xs := by
  rcases h with (h | ⟨o, h⟩) | h
  · exact .inl (.inl (e _ _ h))
  · exact .inl (.inr ⟨o, e _ _ h⟩)
  · exact .inr h
/-! ### own defs, called -/
/-- the def x is there, and keeps its promise -/
def Cal (P : Program) (w : World) (K : PySem.W.Frag) (mg : Str → Option Value) (base : Heap) (CX : CXT) (k : Nat) (x : Str) (sp : Sp) : Prop :=
  ∃ f fd ps, FnOk P w K mg base CX k f fd ps sp ∧ mg x = some (.ref f) ∧ PySem.W.keepIn K (.ref f) = true ∧ Binds K fd ps []
section
variable {X : Cx} {x : Str} {p pos : Pos} {e : Expr} {es : List Expr} {t : TA} {sp : Sp} {CX : CXT} {k : Nat} {E : XK}
theorem pe_cal (c : Cal X.prog X.w X.K X.mg X.base CX k x sp) (hr : Room k X.A) (hx : Passes CX X E) (ha : PA X (e :: es) t) (hg : Gl X x := by rfl) (hdb : (x == ("__debug__" : Str)) = false := by decide)
    (he : starEach (e :: es) X.env = (false, eval e X.env) :: starEach es X.env := by rfl) (hpl : (backTo pos (starEach es X.env)).any (·.1) = false := by rfl) : PE X (.Call (.Name x p) (e :: es) [] pos) (tCall sp [] E t) := by
  obtain ⟨f, fd, ps, G, hm, hk, hb⟩ := c
  exact pe_call G hr hg hm hk hb .nil hx ha hdb he hpl
end
/-- seen where nothing flies -/
theorem Cal.calm {P : Program} {w : World} {K : PySem.W.Frag} {mg : Str → Option Value} {base : Heap} {k : Nat} {x : Str} {sp : Sp} (c : Cal P w K mg base (CX1 P w) k x sp) : Cal P w K mg base CX0 k x (fun vs H Q _ => sp vs H Q E0) := by
  obtain ⟨f, fd, ps, G, hm, hk, hb⟩ := c
  exact ⟨f, fd, ps, G.calm, hm, hk, hb⟩
end L2

end

section
set_option maxHeartbeats 1000000
namespace Fr
open PySem L2
/-- of at most n bits -/
abbrev Sz (n : Nat) (i : Int) : Prop := i.natAbs < 2 ^ n
theorem Sz.mono {n m : Nat} {i : Int} (h : Sz n i) (l : n ≤ m) : Sz m i := Nat.lt_of_lt_of_le h (Nat.pow_le_pow_right (by decide) l)
theorem Sz.sm {n : Nat} {i : Int} (h : Sz n i) (l : n ≤ 4000 := by decide) : Sm i := h.mono l
/-- both quotients by the divisor with b's sign -/
theorem low2 {t b d : Int} (h : b ≠ 0) (hd : d = if b < 0 then -(Int.gcd t b : Int) else (Int.gcd t b : Int)) :
    d ≠ 0 ∧ d.natAbs ≤ b.natAbs ∧ Low t b (t.fdiv d) (b.fdiv d) ∧ (t.fdiv d).natAbs ≤ t.natAbs ∧ (b.fdiv d).natAbs ≤ b.natAbs := by
  obtain ⟨d0, L⟩ := low h d hd
  have dt : d ∣ t := by
    rw [hd]
    split
    · exact Int.neg_dvd.mpr (Int.gcd_dvd_left t b)
    · exact Int.gcd_dvd_left t b
  have db : d ∣ b := by
    rw [hd]
    split
    · exact Int.neg_dvd.mpr (Int.gcd_dvd_right t b)
    · exact Int.gcd_dvd_right t b
  have t1 := fdiv_le (M := t.natAbs) d0 ⟨by omega, by omega⟩ dt
  have b1 := fdiv_le (M := b.natAbs) d0 ⟨by omega, by omega⟩ db
  exact ⟨d0, Nat.le_of_dvd (by omega) (Int.natAbs_dvd_natAbs.mpr db), L, by omega, by omega⟩
end Fr

end

section
set_option maxHeartbeats 1000000
namespace L2
open PySem PySem.Spec PyProof.Rows
/-! ### data: what a value tells, whole -/
mutual
inductive Rp (K : PySem.W.Frag) (H : Hp) : V → PyData → Prop where
  | non : Rp K H .non .none
  | bl (b : Bool) : Rp K H (.bl b) (.bool b)
  | int (i : Int) : Rp K H (.int i) (.int i)
  | str (x : Str) : Rp K H (.str x) (.str x)
  | tup {a : Addr} {xs : List V} {ds : List PyData} : SqT K H a xs → Rps K H xs ds → Rp K H (.ref a) (.tuple ds)
  | lst {a : Addr} {xs : List V} {ds : List PyData} : SqL K H a xs → Rps K H xs ds → Rp K H (.ref a) (.list ds)
inductive Rps (K : PySem.W.Frag) (H : Hp) : List V → List PyData → Prop where
  | nil : Rps K H [] []
  | cons {x : V} {xs : List V} {d : PyData} {ds : List PyData} : Rp K H x d → Rps K H xs ds → Rps K H (x :: xs) (d :: ds)
end
section
variable {X : Cx} {pins : List (Addr × Obj)} {σ : St} {H : Hp} {s : Shared}
mutual
theorem Inv.reads (I : Inv X pins σ H s) : ∀ {d : PyData} {x : V} {u : Value}, Rp X.K H x d → RelV x u → ∃ as, Reads s.heap u d as
  | .none, _, _, .non, r => by cases r; exact ⟨_, .none⟩
  | .bool _, _, _, .bl _, r => by cases r; exact ⟨_, .bool _⟩
  | .int _, _, _, .int _, r => by obtain ⟨t, rfl⟩ := r; exact ⟨_, .int _ _⟩
  | .str _, _, _, .str _, r => by obtain ⟨t, rfl⟩ := r; exact ⟨_, .str _ _⟩
  | .tuple ds, _, _, .tup h hs, r => by
    cases r
    obtain ⟨its, rv, ⟨o, e, c, n, d⟩, _⟩ := I.tuple h
    obtain ⟨as, q⟩ := Inv.readsAll I hs rv
    exact ⟨_, .tuple e c d (by simpa using q)⟩
  | .list ds, _, _, .lst h hs, r => by
    cases r
    obtain ⟨its, rv, ⟨o, n, e, c, _, d⟩, _⟩ := I.list h
    obtain ⟨as, q⟩ := Inv.readsAll I hs rv
    exact ⟨_, .list e c d (by simpa using q)⟩
theorem Inv.readsAll (I : Inv X pins σ H s) : ∀ {ds : List PyData} {xs : List V} {us : List Value}, Rps X.K H xs ds → Vals xs us → ∃ as, ReadsAll s.heap us ds as
  | [], _, _, .nil, r => by cases r; exact ⟨_, .nil⟩
  | d :: ds, _, _, .cons h hs, r => by
    cases r with
    | cons r1 r2 =>
      obtain ⟨as, q⟩ := Inv.reads I h r1
      obtain ⟨bs, q2⟩ := Inv.readsAll I hs r2
      exact ⟨_, .cons q q2⟩
end
def rEqD (K : PySem.W.Frag) : R2 := fun x y H Q => ∃ d e, Rp K H x d ∧ Rp K H y e ∧ SeqAt.shaped d = true ∧ SeqAt.shaped e = true ∧ Q (.bl (PyData.eqv d e)) H
def rNeD (K : PySem.W.Frag) : R2 := fun x y H Q => ∃ d e, Rp K H x d ∧ Rp K H y e ∧ SeqAt.shaped d = true ∧ SeqAt.shaped e = true ∧ Q (.bl (!PyData.eqv d e)) H
theorem op_eqD (hu : X.A.units + 64 < cLine) : OpR X (compareOp .Eq) (rEqD X.K) := by
  intro pins s σ H x y v u Q I rx ry h
  obtain ⟨d, e, hd, he, sd, se, q⟩ := h
  obtain ⟨as, ra⟩ := I.reads hd rx
  obtain ⟨bs, rb⟩ := I.reads he ry
  exact SeqAt.compareEq_shaped ra rb sd se hu ⟨.bl _, H, I, rfl, q⟩
theorem op_neD (hu : X.A.units + 64 < cLine) : OpR X (compareOp .NotEq) (rNeD X.K) := by
  intro pins s σ H x y v u Q I rx ry h
  obtain ⟨d, e, hd, he, sd, se, q⟩ := h
  obtain ⟨as, ra⟩ := I.reads hd rx
  obtain ⟨bs, rb⟩ := I.reads he ry
  exact SeqAt.compareNe_shaped ra rb sd se hu ⟨.bl _, H, I, rfl, q⟩
end
/-- what changes no tuple, no frozen thing -/
def Tups (H H' : Hp) : Prop := (∀ b xs, H b = some (.tup xs) → H' b = some (.tup xs)) ∧ ∀ b o u, H b = some (.frz o u) → H' b = some (.frz o u)
theorem Same.tups {H H' : Hp} (s : Same H H') : Tups H H' := ⟨fun b xs e => s _ _ e, fun b o u e => s _ _ e⟩
/-- a fraction as a value: two ints in a tuple -/
def FrV (H : Hp) (v : V) (x y : Int) : Prop := ∃ p, v = .ref p ∧ H p = some (.tup [.int x, .int y])
theorem FrV.of {H : Hp} {p : Addr} {x y : Int} (h : H p = some (.tup [.int x, .int y])) : FrV H (.ref p) x y := ⟨p, rfl, h⟩
theorem FrV.mono {H H' : Hp} {v : V} {x y : Int} (h : FrV H v x y) (t : Tups H H') : FrV H' v x y := by
  obtain ⟨p, rfl, h⟩ := h
  exact ⟨p, rfl, t.1 _ _ h⟩
/-- the ten classes of refusals -/
structure Cs where
  (RoadError NoNumber NoNet NoWish NoWay TooMany NoShare NoStep NoSuch NoText : Addr)
/-- an own refusal C: RoadError takes it; it is a ValueError, C itself and none of the others -/
structure XF (K : PySem.W.Frag) (c : Cs) (C : Addr) (others : List Addr) : Prop where
  xi : XcI K C
  catches : PySem.W.exmOne K (.ref C) (.ref c.RoadError) = some true
  self : PySem.W.kitOne K (.ref C) (.ref C) = some true
  isV : PySem.W.kitOne K (.ref C) (.type "ValueError") = some true
  other : PySem.W.kitAny K (.ref C) (others.map Value.ref) = some false
end L2

end

section
set_option maxHeartbeats 1000000
namespace L2
open PySem
theorem kit_ref {K : PySem.W.Frag} {N C : Addr} {cd : ClassData} {b : Bool} (hc : PySem.W.clsIn K C = some cd) (ht : PySem.W.typeIn K (.ref C) = some (.type "type")) (hm : PySem.W.mroIn K N (.ref C) = some b) : PySem.W.kitCls K (.ref N) (.ref C) = some b := by
  show (if ((PySem.W.clsIn K C).isSome && PySem.W.typeIn K (.ref C) == some (.type "type")) = true then PySem.W.subIn K (.ref N) (.ref C) else none) = some b
  rw [hc, ht]
  exact hm
theorem kit_refN {K : PySem.W.Frag} {N C : Addr} {cd : ClassData} {b : Bool} (hc : PySem.W.clsIn K C = some cd) (ht : PySem.W.typeIn K (.ref C) = some (.type "type")) (hm : PySem.W.mroIn K N (.ref C) = some b) (ne : (N == C) = false) : PySem.W.kitOne K (.ref N) (.ref C) = some b := by
  unfold PySem.W.kitOne
  rw [if_neg (fun q => by
    have e : N = C := Value.ref.inj (beq_iff_eq.mp q)
    rw [e] at ne
    simp at ne)]
  exact kit_ref hc ht hm
theorem kit_self {K : PySem.W.Frag} {N : Addr} : PySem.W.kitOne K (.ref N) (.ref N) = some true := by
  unfold PySem.W.kitOne
  rw [if_pos (beq_self_eq_true _)]
theorem kit_type {K : PySem.W.Frag} {N : Addr} {T : String} {b : Bool} (hk : PySem.W.kitMeta T = true) (hm : PySem.W.mroIn K N (.type T) = some b) : PySem.W.kitOne K (.ref N) (.type T) = some b := by
  show (if PySem.W.kitMeta T = true then PySem.W.subIn K (.ref N) (.type T) else none) = some b
  rw [if_pos hk]
  exact hm
theorem exm_ref {K : PySem.W.Frag} {N C : Addr} {cd : ClassData} {b : Bool} (hc : PySem.W.clsIn K C = some cd) (ht : PySem.W.typeIn K (.ref C) = some (.type "type")) (hb : PySem.W.mroIn K C (.type "BaseException") = some true) (hm : PySem.W.mroIn K N (.ref C) = some b) :
    PySem.W.exmOne K (.ref N) (.ref C) = some b := by
  have e : PySem.W.subIn K (.ref C) (.type "BaseException") = some true := hb
  unfold PySem.W.exmOne
  rw [if_pos (by rw [e]; rfl)]
  exact kit_ref hc ht hm
theorem kit_any {K : PySem.W.Frag} {t : Value} : ∀ {cs : List Value}, (∀ c ∈ cs, PySem.W.kitOne K t c = some false) → PySem.W.kitAny K t cs = some false
  | [], _ => rfl
  | c :: cs, h => by
    unfold PySem.W.kitAny
    rw [h c (List.mem_cons_self ..)]
    exact kit_any fun d hd => h d (List.mem_cons_of_mem _ hd)

end L2

end

section
set_option maxHeartbeats 1000000
/-! LIST COMPREHENSIONS over the hand layer: one clause, at most one test; an element that raises nothing. -/
namespace L2
open PySem PySem.Spec PyProof.Rows
/-- the cells of the names that a block draws from around it -/
def closL (cells : List (Str × Addr)) : List (Str × NameKind) → List (Str × Addr) → List (Str × Addr)
  | [], cs => cs
  | (n, k) :: r, cs => closL cells r (if (k == .free) = true then (n, (cells.lookup n).getD 0) :: cs else cs)
theorem clos_eq {scope : Scope} {env : Env} (h : ∀ x ∈ scope.names, x.2 = .free → ∃ c, env.cells.lookup x.1 = some c) : closureFor scope env = pure (closL env.cells scope.names []) := by
  have key : ∀ (l : List (Str × NameKind)) (cs : List (Str × Addr)), (∀ x ∈ l, x.2 = .free → ∃ c, env.cells.lookup x.1 = some c) →
      forIn (m := Sem) l cs (fun (x : Str × NameKind) (r : List (Str × Addr)) => if (x.2 == .free) = true then (do let a ← cellOf env x.1; pure (.yield ((x.1, a) :: r))) else pure (.yield r)) = pure (closL env.cells l cs) := by
    intro l
    induction l with
    | nil => intro cs _; rfl
    | cons x r ih =>
      intro cs hx
      obtain ⟨n, k⟩ := x
      rw [List.forIn_cons]
      unfold closL
      by_cases hk : k = .free
      · subst hk
        obtain ⟨c, e⟩ := hx (n, .free) List.mem_cons_self rfl
        have ec : cellOf env n = pure c := by unfold cellOf; rw [e]
        simp only [beq_self_eq_true, if_true]
        rw [ec, pure_bind, pure_bind]
        rw [e]
        exact ih _ fun y hy => hx y (List.mem_cons_of_mem _ hy)
      · have hb : (k == NameKind.free) = false := by simpa using hk
        simp only [hb, Bool.false_eq_true, if_false]
        rw [pure_bind]
        exact ih _ fun y hy => hx y (List.mem_cons_of_mem _ hy)
  have e := key scope.names [] h
  unfold closureFor
  simp only [bind_pure]
  exact e
theorem closL_lookup {cells : List (Str × Addr)} {x : Str} {c : Addr} : ∀ {l : List (Str × NameKind)} {cs : List (Str × Addr)}, (closL cells l cs).lookup x = some c →
    cs.lookup x = some c ∨ ((x, NameKind.free) ∈ l ∧ (cells.lookup x).getD 0 = c)
  | [], cs, h => .inl h
  | (n, k) :: r, cs, h => by
    unfold closL at h
    rcases closL_lookup h with q | ⟨h1, h2⟩
    · clear h
      by_cases hk : (k == NameKind.free) = true
      · rw [if_pos hk, List.lookup_cons] at q
        cases hx : x == n with
        | true =>
          rw [hx] at q
          have e1 : x = n := by simpa using hx
          have e2 : k = .free := by simpa using hk
          subst e1 e2
          exact .inr ⟨List.mem_cons_self, Option.some.inj q⟩
        | false =>
          rw [hx] at q
          exact .inl q
      · rw [if_neg hk] at q
        exact .inl q
    · exact .inr ⟨List.mem_cons_of_mem _ h1, h2⟩
theorem closL_has {cells : List (Str × Addr)} {x : Str} : ∀ {l : List (Str × NameKind)} {cs : List (Str × Addr)}, ((x, NameKind.free) ∈ l ∨ ∃ c, cs.lookup x = some c) → ∃ c, (closL cells l cs).lookup x = some c
  | [], cs, h => by
    rcases h with h | h
    · cases h
    · exact h
  | (n, k) :: r, cs, h => by
    unfold closL
    refine closL_has ?_
    rcases h with h | ⟨c, h⟩
    · rcases List.mem_cons.mp h with h | h
      · cases h
        right
        simp only [beq_self_eq_true, if_true, List.lookup_cons]
        exact ⟨_, rfl⟩
      · exact .inl h
    · right
      split
      · rw [List.lookup_cons]
        cases x == n with
        | true => exact ⟨_, rfl⟩
        | false => exact ⟨c, h⟩
      · exact ⟨c, h⟩
section
variable {prog : Program} {w : World} {A : Around} {R : Result → Shared → Prop} {s : Shared}
/-- the block's loop, the step ahead of the store told apart -/
theorem comp_loop {elt target iter : Expr} {ifs : List Expr} {scope : Scope} {pos : Pos} {it acc : Value} {env : Env} (I : Nat → Shared → Prop) (n : Nat) (h : I n s)
    (turn : ∀ n s, I n s → wpAny (model prog w) A (pyNext it) (fun r s1 => match r with
      | none => R (.ok .next) s1
      | some v => wpAny (model prog w) A (letOwnedTupleGo target it v) (fun _ s2 => wpAny (model prog w) A (assign target env v) (fun _ s3 =>
          wpAny (model prog w) A (forIn ifs true fun c r => if r = true then do let ok ← isTrue c env (eval c env); pure (ForInStep.yield ok) else pure (ForInStep.yield r)) (fun ok s4 =>
            if ok = true then wpAny (model prog w) A (eval elt env) (fun x s5 => wpAny (model prog w) A (call (.builtin "list.append") [acc, x]) (fun _ s6 => ∃ m, m < n ∧ I m s6) (fun _ _ => False) s5) (fun _ _ => False) s4
            else ∃ m, m < n ∧ I m s4) (fun _ _ => False) s3) (fun _ _ => False) s2) (fun _ _ => False) s1) (fun _ _ => False) s) :
    codeAny (model prog w) A (.compLoop (.ListComp elt [⟨target, iter, ifs, 0⟩] scope pos) 0 it acc env) R s := by
  refine codeAny_loop rfl I (fun n s hI => ?_) n h
  show wpAny _ A ((compTurn (.ListComp elt [⟨target, iter, ifs, 0⟩] scope pos) 0 it acc env).onRaise (fun x => do noteFrame x env; theTreesLotGoes x)) _ _ s
  refine wpAny_noted ?_
  rw [compTurn_list]
  refine wpAny_bind (wpAny_standAt (wpAny_bind (wpAny_mono (turn n s hI) (fun r s1 h1 => ?_) fun _ _ z => z.elim)))
  cases r with
  | none => exact wpAny_pure h1
  | some v =>
    refine wpAny_bind (wpAny_mono h1 (fun _ s2 h2 => ?_) fun _ _ z => z.elim)
    refine wpAny_bind (wpAny_mono h2 (fun _ s3 h3 => ?_) fun _ _ z => z.elim)
    refine wpAny_bind (wpAny_mono h3 (fun ok s4 h4 => ?_) fun _ _ z => z.elim)
    cases ok with
    | false => exact wpAny_pure ⟨rfl, h4⟩
    | true => exact wpAny_bind (wpAny_bind (wpAny_mono h4 (fun x s5 h5 => wpAny_bind (wpAny_mono h5 (fun _ s6 h6 => wpAny_pure (wpAny_pure ⟨rfl, h6⟩)) fun _ _ z => z.elim)) fun _ _ z => z.elim))
end

/-- the block's context: its own names first, then those it draws from around it -/
def Cx.comp (X : Cx) (s : Shared) (H : Hp) (N' : List Str) (scope : Scope) (C : Addr) (fp : List Addr) : Cx where
  prog := X.prog
  w := X.w
  K := X.K
  mg := X.mg
  base := X.base
  A := X.A
  N := N'
  s₀ := s
  H₀ := H
  env := compEnvC scope (closL X.env.cells scope.names []) C X.env
  outer := X.stack
  stack := X.stack
  ex := fp
  fn := fun _ => false
  calm := X.calm
  pn := []
  xe := fun _ _ => False
/-- a block's scope within X's: own names local, all others drawn from X's cells; capt: those it draws -/
structure CompScope (X : Cx) (scope : Scope) (own capt : List Str) (ix : List Nat) : Prop where
  kind : scope.kind = .function
  nocell : ∀ y ∈ scope.names, y.2 ≠ .cell
  locs : ∀ y ∈ scope.names, y.2 = .local → scope.names.lookup y.1 = some .local
  frees : ∀ y ∈ scope.names, y.2 = .free → X.env.scope.names.lookup y.1 = some .cell
  cap : ∀ (j : Nat) (x : Str), capt[j]? = some x → scope.names.lookup x = some .free ∧ ∃ i, ix[j]? = some i ∧ X.N[i]? = some x
  nd : (own ++ capt).Nodup
  len : ix.length = capt.length
inductive Caps (X : Cx) (scope : Scope) : List Str → List Nat → Prop where
  | nil : Caps X scope [] []
  | cons {x : Str} {i : Nat} {xs : List Str} {is : List Nat} (h1 : scope.names.lookup x = some .free) (h2 : X.N[i]? = some x) (r : Caps X scope xs is) : Caps X scope (x :: xs) (i :: is)
theorem Caps.at {X : Cx} {scope : Scope} : ∀ {capt : List Str} {ix : List Nat}, Caps X scope capt ix → ∀ (j : Nat) (x : Str), capt[j]? = some x → scope.names.lookup x = some .free ∧ ∃ i, ix[j]? = some i ∧ X.N[i]? = some x
  | _, _, .nil, j, x, h => by simp at h
  | _, _, .cons h1 h2 r, 0, x, h => by
    simp at h
    subst h
    exact ⟨h1, _, rfl, h2⟩
  | _, _, .cons h1 h2 r, j + 1, x, h => by
    obtain ⟨q1, i, q2, q3⟩ := r.at j x (by simpa using h)
    exact ⟨q1, i, by simpa using q2, q3⟩
theorem Caps.len {X : Cx} {scope : Scope} : ∀ {capt : List Str} {ix : List Nat}, Caps X scope capt ix → ix.length = capt.length
  | _, _, .nil => rfl
  | _, _, .cons _ _ r => by simp [r.len]
theorem CompScope.of {X : Cx} {scope : Scope} {own capt : List Str} {ix : List Nat} (kind : scope.kind = .function) (nocell : ∀ y ∈ scope.names, y.2 ≠ .cell) (locs : ∀ y ∈ scope.names, y.2 = .local → scope.names.lookup y.1 = some .local)
    (frees : ∀ y ∈ scope.names, y.2 = .free → X.env.scope.names.lookup y.1 = some .cell) (c : Caps X scope capt ix) (nd : (own ++ capt).Nodup) : CompScope X scope own capt ix := ⟨kind, nocell, locs, frees, c.at, nd, c.len⟩
/-- what the names hold at the block's entry -/
def capV (n : Nat) (ix : List Nat) (σ : St) : St := List.replicate n none ++ ix.map fun i => (σ[i]?).join
section
variable {X : Cx} {pins : List (Addr × Obj)} {σ : St} {H : Hp} {s : Shared} {scope : Scope} {own capt : List Str} {ix : List Nat} {fp : List Addr}
theorem lookup_relabel {env : Env} {x : Str} : ∀ {names : List (Str × NameKind)}, (∀ y ∈ names, y.2 = .free → env.scope.names.lookup y.1 = some .cell) → env.scope.kind = .function →
    (names.map fun (n, k) => if (k == NameKind.free && env.scope.kind == .function && env.kindOf n == some .cell) then (n, NameKind.cell) else (n, k)).lookup x = (names.lookup x).map fun k => if k = .free then .cell else k
  | [], _, _ => rfl
  | (n, k) :: r, h, hk => by
    have ih := lookup_relabel (x := x) (names := r) (fun y hy => h y (List.mem_cons_of_mem _ hy)) hk
    rw [List.map_cons, List.lookup_cons]
    by_cases hf : k = .free
    · subst hf
      have e : env.kindOf n = some .cell := h (n, .free) List.mem_cons_self rfl
      have e2 : (NameKind.free == NameKind.free && env.scope.kind == .function && env.kindOf n == some .cell) = true := by rw [e, hk]; rfl
      rw [if_pos e2, List.lookup_cons]
      cases x == n with
      | true => rfl
      | false => exact ih
    · have e2 : ¬ (k == NameKind.free && env.scope.kind == .function && env.kindOf n == some .cell) = true := by
        intro z
        rw [Bool.and_eq_true, Bool.and_eq_true] at z
        exact hf (by simpa using z.1.1)
      rw [if_neg e2, List.lookup_cons]
      cases x == n with
      | true => simp [hf]
      | false => exact ih
theorem comp_cells (I : Inv X pins σ H s) (CS : CompScope X scope own capt ix) {x : Str} {c : Addr} (e : (closL X.env.cells scope.names []).lookup x = some c) : (x, NameKind.free) ∈ scope.names ∧ X.env.cells.lookup x = some c := by
  rcases closL_lookup e with e | ⟨h1, h2⟩
  · cases e
  · obtain ⟨c', e'⟩ := I.ok.has x (.inl (CS.frees _ h1 rfl))
    rw [e'] at h2
    exact ⟨h1, by rw [e']; exact congrArg some h2⟩
theorem comp_ok (I : Inv X pins σ H s) (CS : CompScope X scope own capt ix) (f : ∀ b ∈ fp, FpOk X pins H b) {C : Addr} (hC : s.heap.objs.size ≤ C) (hfp : ∀ b ∈ fp, b < s.heap.objs.size) : (X.comp s H (own ++ capt) scope C fp).Ok := by
  have cl : ∀ x c, (closL X.env.cells scope.names []).lookup x = some c → (x, NameKind.free) ∈ scope.names ∧ X.env.cells.lookup x = some c := fun x c e => comp_cells I CS e
  refine ⟨I.ok.mod, CS.kind, I.ok.glob, I.ok.blt, hC, fun x y c h1 h2 => I.ok.inj x y c (cl x c h1).2 (cl y c h2).2, fun x hx => ?_, fun x c z => (by cases z), I.ok.hd, I.ok.frames, .inl rfl, fun b hb => ⟨?_, fun x c e => ?_⟩, fun b o e => I.bs b o e, ?_, fun b o e hb => ?_, fun b hb z => ?_, I.stack, fun b hb => I.stkFree b hb⟩
  · -- a name that is a cell or free there
    have e : (compEnvC scope (closL X.env.cells scope.names []) C X.env).kindOf x = (scope.names.lookup x).map fun k => if k = .free then .cell else k := lookup_relabel CS.frees I.ok.kind
    have hx' : (scope.names.lookup x).map (fun k => if k = NameKind.free then NameKind.cell else k) = some .cell ∨ (scope.names.lookup x).map (fun k => if k = NameKind.free then NameKind.cell else k) = some .free := by rw [← e]; exact hx
    cases q : scope.names.lookup x with
    | none => rw [q] at hx'; rcases hx' with z | z <;> cases z
    | some k =>
      rw [q] at hx'
      have hm := PySem.mem_of_lookup q
      by_cases hk : k = .free
      · subst hk
        exact closL_has (.inl hm)
      · rcases hx' with z | z
        · simp only [Option.map_some, if_neg hk, Option.some.injEq] at z
          subst z
          exact absurd rfl (CS.nocell _ hm)
        · simp only [Option.map_some, if_neg hk, Option.some.injEq] at z
          exact absurd z hk
  · exact Nat.ne_of_lt (Nat.lt_of_lt_of_le (hfp b hb) hC)
  · exact (f b hb).2.2.2.2.1 x c (cl x c e).2
  · exact Nat.le_trans I.ok.bsz I.sz
  · rcases (f b hb).2.2.2.1 with z | z
    · exact I.ok.noex b o e z
    · exact absurd (Nat.lt_of_lt_of_le (Heap.lt_size e) (Nat.le_trans I.ok.bsz z)) (Nat.lt_irrefl _)
  · rcases List.mem_cons.mp (I.stkSub b z) with q | q
    · exact (f b hb).2.1 q
    · exact (f b hb).2.2.1 q
/-- the block's first state -/
theorem comp_inv (I : Inv X pins σ H s) (CS : CompScope X scope own capt ix) (f : ∀ b ∈ fp, FpOk X pins H b) (hfp : ∀ b ∈ fp, b < s.heap.objs.size) {h1 : Heap} {m : Str → Option Value} {C : Addr} {n tk : Nat} (hC : s.heap.objs.size < C)
    (keep : ∀ b o, s.heap.get? b = some o → h1.get? b = some o) (hacc : h1.get? s.heap.objs.size = some { cls := .type "list", data := .seq #[] n }) (hns : h1.Ns C m) :
    Inv (X.comp s H (own ++ capt) scope C fp) [] (capV own.length ix σ) (upd H s.heap.objs.size (.lst [])) { s with heap := h1, toks := tk } := by
  have hD := I.hok.fresh (Nat.le_refl s.heap.objs.size)
  have cellK : ∀ c v, s.heap.IsCell c v → h1.IsCell c v := fun c v ⟨o, e, d⟩ => ⟨o, keep c o e, d⟩
  refine ⟨comp_ok I CS f (Nat.le_of_lt hC) hfp, rfl, I.bare, Un.laid keep (Nat.le_refl _) hD, ⟨m, hns, fun i x v e1 e2 e3 => ?_⟩, fun x c e => ?_, ?_, fun x c e => ?_, fun p hp => absurd (show p ∈ ([] : List (Addr × Obj)) from hp) (by simp), ?_, ?_⟩
  · have hi : own.length ≤ i := by
      rcases Nat.lt_or_ge i own.length with z | z
      · have e2' : (capV own.length ix σ)[i]? = some (some v) := e2
        unfold capV at e2'
        rw [List.getElem?_append_left (by simpa using z), List.getElem?_replicate] at e2'
        split at e2' <;> cases e2'
      · exact z
    have e1' : capt[i - own.length]? = some x := by
      have e1'' : (own ++ capt)[i]? = some x := e1
      rw [List.getElem?_append_right hi] at e1''
      exact e1''
    obtain ⟨hl, i0, hi0, hN⟩ := CS.cap _ _ e1'
    have hv : σ[i0]? = some (some v) := by
      have e2' : (capV own.length ix σ)[i]? = some (some v) := e2
      unfold capV at e2'
      rw [List.getElem?_append_right (by simpa using hi), List.length_replicate, List.getElem?_map, hi0] at e2'
      have e3' : (σ[i0]?).join = some v := Option.some.inj e2'
      cases q : σ[i0]? with
      | none => rw [q] at e3'; cases e3'
      | some z => rw [q] at e3'; exact congrArg some e3'
    have hm := PySem.mem_of_lookup hl
    have hcell : X.env.scope.names.lookup x = some .cell := CS.frees _ hm rfl
    obtain ⟨m0, _, hloc⟩ := I.loc
    obtain ⟨u, ru, lk⟩ := hloc i0 x v hN hv (.inr (.inl hcell))
    refine ⟨u, ru, .inr ⟨.inl ?_, ?_⟩⟩
    · have e : (compEnvC scope (closL X.env.cells scope.names []) C X.env).kindOf x = (scope.names.lookup x).map fun k => if k = .free then .cell else k := lookup_relabel CS.frees I.ok.kind
      show (compEnvC scope (closL X.env.cells scope.names []) C X.env).kindOf x = some .cell
      rw [e, hl]
      rfl
    · rcases lk with ⟨k, _⟩ | ⟨_, c, ec, z⟩
      · have k' : X.env.scope.names.lookup x = some .local := k
        rw [hcell] at k'
        cases k'
      · obtain ⟨c', e'⟩ := closL_has (cells := X.env.cells) (cs := []) (.inl hm)
        have := (comp_cells I CS e').2
        rw [ec] at this
        cases this
        exact ⟨c, e', cellK _ _ z⟩
  · obtain ⟨v, z⟩ := I.cell x c (comp_cells I CS e).2
    exact ⟨v, cellK _ _ z⟩
  · show upd H s.heap.objs.size (.lst []) C = none
    rw [upd_ne (Nat.ne_of_gt hC)]
    exact I.hok.fresh (Nat.le_of_lt hC)
  · have q := (comp_cells I CS e).2
    obtain ⟨v, z⟩ := I.cell x c q
    rw [upd_ne (Nat.ne_of_lt z.lt)]
    exact I.freeC x c q
  · exact I.hok.laid keep (Nat.le_refl _) ⟨Nat.zero_le _, [], n, .nil, hacc⟩
  · show (capV own.length ix σ).length = (own ++ capt).length
    unfold capV
    rw [List.length_append, List.length_append, List.length_replicate, List.length_map, CS.len]
/-- no test, one test -/
def tNoIf : TT := fun _ H P => P true H
def PF (X : Cx) (ifs : List Expr) (t : TT) : Prop :=
  ∀ (pins : List (Addr × Obj)) (s : Shared) (σ : St) (H : Hp) (Q : Bool → Hp → Prop), Inv X pins σ H s → t σ H Q →
    wpAny (model X.prog X.w) X.A (forIn ifs true fun c r => if r = true then do let ok ← isTrue c X.env (eval c X.env); pure (ForInStep.yield ok) else pure (ForInStep.yield r)) (TP X pins σ Q) X.xe s
theorem pf_nil : PF X [] tNoIf := fun pins s σ H Q I h => wpAny_pure ⟨H, I, h⟩
/-- [e for x in xs if c]: what the loop that makes the list asks -/
def tComp (n : Nat) (ix : List Nat) (wi : TI) (g : TG) (tc : TT) (te : TE) : TE := fun σ H Q => wi σ H fun J H1 => ∀ acc, H1 acc = none → ∃ W : Nat → Nat → St → Hp → Prop, (∃ m, W 0 m (capV n ix σ) (upd H1 acc (.lst []))) ∧
  ∀ i m σ' H', W i m σ' H' → (J.stop i H' ∧ Q (.ref acc) H') ∨ (J.go i H' ∧ ∃ N : St → Hp → Prop, (∀ σ2 H2, N σ2 H2 → ∃ m', m' < m ∧ W (i + 1) m' σ2 H2) ∧
    ∀ x H2, J.yld i H' x H2 → g x σ' H2 fun σ3 H3 => tc σ3 H3 fun ok H4 => if ok = true then te σ3 H4 fun v H5 => ∃ ys, H5 acc = some (.lst ys) ∧ ys.length < sizeLine ∧ N σ3 (upd H5 acc (.lst (ys ++ [v]))) else N σ3 H4)
theorem comp_run {E : Value → Shared → Prop} {elt target iter : Expr} {ifs : List Expr} {pos : Pos} {g : TG} {tc : TT} {te : TE} {J : It} {it : Addr} {tn : Nat → Heap → Prop} {RR : Value → Addr → Result → Shared → Prop} {Q : VK}
    (I : Inv X pins σ H s) (hc : X.calm = true) (CS : CompScope X scope own capt ix) (T : Turn X.prog X.w X.K target J fp it tn) (st : tn 0 s.heap) (f : ∀ b ∈ fp, FpOk X pins H b)
    (hg : ∀ s H C fp, PG (X.comp s H (own ++ capt) scope C fp) target g) (hf : ∀ s H C fp, PF (X.comp s H (own ++ capt) scope C fp) ifs tc) (he : ∀ s H C fp, PE (X.comp s H (own ++ capt) scope C fp) elt te)
    (hW : ∀ acc, H acc = none → ∃ W : Nat → Nat → St → Hp → Prop, (∃ m, W 0 m (capV own.length ix σ) (upd H acc (.lst []))) ∧
      ∀ i m σ' H', W i m σ' H' → (J.stop i H' ∧ Q (.ref acc) H') ∨ (J.go i H' ∧ ∃ N : St → Hp → Prop, (∀ σ2 H2, N σ2 H2 → ∃ m', m' < m ∧ W (i + 1) m' σ2 H2) ∧
        ∀ x H2, J.yld i H' x H2 → g x σ' H2 fun σ3 H3 => tc σ3 H3 fun ok H4 => if ok = true then te σ3 H4 fun v H5 => ∃ ys, H5 acc = some (.lst ys) ∧ ys.length < sizeLine ∧ N σ3 (upd H5 acc (.lst (ys ++ [v]))) else N σ3 H4))
    (fin : ∀ D C s' H', Inv X pins σ H' s' → FpOk X pins H' C → (∃ m, s'.heap.Ns C m) → Q (.ref D) H' → RR (.ref D) C (.ok .next) s') :
    wpAny (model X.prog X.w) X.A (newList []) (fun acc s3 => wpAny (model X.prog X.w) X.A (newFunctionEnv scope X.env.globals (closL X.env.cells scope.names []) [] X.env.qual none .none (some X.env)) (fun cenv s4 =>
      codeAny (model X.prog X.w) X.A (.compStart (.ListComp elt [⟨target, iter, ifs, 0⟩] scope pos) 0 (.ref it) acc { cenv with scope := relabel scope X.env }) (RR acc cenv.locals) s4) E s3) E s := by
  refine wpAny_newObj_type (wpAny_newFunctionEnv CS.nocell (by intro y hy; simp at hy) (fun h1 hns hsb => ?_) CS.kind)
  dsimp only at hns hsb ⊢
  generalize hP : s.heap.push { cls := .type "list", dict := none, data := .seq ([] : List Value).toArray } = P2 at hns hsb ⊢
  have hC : P2.objs.size = s.heap.objs.size + 1 := by rw [← hP, Heap.size_push]
  have lt : s.heap.objs.size < P2.objs.size := by omega
  have keep : ∀ b o, s.heap.get? b = some o → h1.get? b = some o := fun b o e => by
    have hb := Heap.lt_size e
    exact hsb.extBut b o (Nat.ne_of_lt (Nat.lt_trans hb lt)) (Heap.get?_push_of_some _ (hP ▸ Heap.get?_push_of_some _ e))
  have hacc : h1.get? s.heap.objs.size = some { cls := .type "list", data := .seq #[] } := hsb.extBut _ _ (Nat.ne_of_lt lt) (Heap.get?_push_of_some _ (hP ▸ Heap.get?_push_size _ rfl))
  have hfp : ∀ b ∈ fp, b < s.heap.objs.size := fun b hb => by
    obtain ⟨o, e, _⟩ := T.obj 0 _ st b hb
    exact Heap.lt_size e
  obtain ⟨W, ⟨m0, w0⟩, turn⟩ := hW s.heap.objs.size (I.hok.fresh (Nat.le_refl _))
  have ok := comp_ok I CS f (Nat.le_of_lt lt) hfp
  have stat : ∀ {H' : Hp}, (∀ b ∈ fp, H' b = none) → ∀ b ∈ fp, FpOk (X.comp s H (own ++ capt) scope P2.objs.size fp) [] H' b := fun hn b hb =>
    ⟨hn b hb, (ok.exf b hb).1, ok.exfs b hb, .inl hb, (ok.exf b hb).2, fun p hp => absurd (show p ∈ ([] : List (Addr × Obj)) from hp) (by simp)⟩
  have back : ∀ {s' : Shared} {σ' : St} {H' : Hp}, Inv (X.comp s H (own ++ capt) scope P2.objs.size fp) [] σ' H' s' → Inv X pins σ H' s' := fun {s' σ' H'} J' =>
    I.call' J'.os J'.base J'.hok J'.bare fun b hb => ⟨(f b hb).2.2.2.1, (f b hb).2.1, (f b hb).2.2.2.2.1, (f b hb).2.2.2.2.2⟩
  have loop : ∀ tk : Nat, codeAny (model X.prog X.w) X.A (.compLoop (.ListComp elt [⟨target, iter, ifs, 0⟩] scope pos) 0 (.ref it) (.ref s.heap.objs.size) (compEnvC scope (closL X.env.cells scope.names []) P2.objs.size X.env))
      (RR (.ref s.heap.objs.size) P2.objs.size) { s with heap := h1, toks := tk } := fun tk => by
    have I1 := comp_inv (tk := tk) I CS f hfp lt keep hacc hns
    refine comp_loop (fun n s' => ∃ i σ' H', Inv (X.comp s H (own ++ capt) scope P2.objs.size fp) [] σ' H' s' ∧ tn i s'.heap ∧ (∀ b ∈ fp, H' b = none) ∧ W i n σ' H') m0 ⟨0, _, _, I1, T.keep _ _ _ st fun b _ o e => keep b o e, fun b hb => ?_, w0⟩ ?_
    · rw [upd_ne (Nat.ne_of_lt (hfp b hb))]
      exact (f b hb).1
    rintro n s3 ⟨i, σ3, H3, I3, st3, fr3, w3⟩
    rcases turn i n σ3 H3 w3 with ⟨stop, qn⟩ | ⟨go, N, hN, step⟩
    · refine thn (T.done (X.comp s H (own ++ capt) scope P2.objs.size fp) rfl rfl rfl hc i [] s3 σ3 H3 _ I3 (stat fr3) st3 stop) fun r s4 ⟨hr, I4⟩ => ?_
      subst hr
      obtain ⟨m, hm, _⟩ := I4.loc
      exact fin _ _ _ _ (back I4) (I.fpOk (Nat.le_of_lt lt) I4.free) ⟨m, hm⟩ qn
    · refine thn (T.item (X.comp s H (own ++ capt) scope P2.objs.size fp) rfl rfl rfl hc i [] s3 σ3 H3 _ I3 (stat fr3) st3 go) fun r s4 ⟨u, hr, h4⟩ => ?_
      subst hr
      refine thn h4 fun _ s5 ⟨x, H5, I5, r5, y5, st5, fr5⟩ => ?_
      have I5' := I5.pinned (stat fr5) (T.obj _ _ st5)
      refine thn (hg _ _ _ _ _ s5 σ3 H5 x u _ I5' r5 (step x H5 y5)) fun _ s6 ⟨σ6, H6, I6, q6⟩ => ?_
      have again : ∀ {s7 : Shared} {H7 : Hp}, Inv (X.comp s H (own ++ capt) scope P2.objs.size fp) ([] ++ pinsAt fp s5.heap) σ6 H7 s7 → N σ6 H7 → ∃ m, m < n ∧ ∃ i σ' H', Inv (X.comp s H (own ++ capt) scope P2.objs.size fp) [] σ' H' s7 ∧ tn i s7.heap ∧ (∀ b ∈ fp, H' b = none) ∧ W i m σ' H' := fun {s7 H7} I7 n7 => by
        obtain ⟨m', hm, w7⟩ := hN σ6 H7 n7
        refine ⟨m', hm, i + 1, σ6, H7, I7.unpinned, T.keep _ _ _ st5 fun b hb o e => (I7.pin (b, o) (List.mem_append_right _ (List.mem_append_right _ (mem_pinsAt hb e)))).1, fun b hb => ?_, w7⟩
        obtain ⟨o, e, d⟩ := T.obj _ _ st5 b hb
        exact (I7.pin (b, o) (List.mem_append_right _ (List.mem_append_right _ (mem_pinsAt hb e)))).2.1
      refine thn (hf _ _ _ _ _ s6 σ6 H6 _ I6 q6) fun okv s7 ⟨H7, I7, q7⟩ => ?_
      cases okv with
      | false =>
        rw [if_neg Bool.false_ne_true] at q7 ⊢
        exact again I7 q7
      | true =>
        rw [if_pos rfl] at q7 ⊢
        refine thn (he _ _ _ _ _ s7 σ6 H7 _ I7 q7) fun xv s8 ⟨v, H8, I8, r8, ys, hy, hz, n8⟩ => ?_
        refine thn (mt_append (X := X.comp s H (own ++ capt) scope P2.objs.size fp) _ s8 σ6 H8 (.ref s.heap.objs.size) [v] (.ref s.heap.objs.size) [xv] (fun _ H9 => N σ6 H9) I8 rfl (.cons r8 .nil) ⟨_, ys, v, rfl, rfl, hy, hz, n8⟩) fun _ s9 ⟨_, H9, I9, _, n9⟩ => again I9 n9
  refine codeAny_compStart_list (loop _) (T.self _ 0 _ _ _ (T.keep _ _ _ st fun b _ o e => keep b o e) (loop _))
theorem pe_comp {elt target iter : Expr} {ifs : List Expr} {pos : Pos} {wi : TI} {g : TG} {tc : TT} {te : TE} (hc : X.calm = true) (CS : CompScope X scope own capt ix) (hi : PI X target iter wi)
    (hg : ∀ s H C fp, PG (X.comp s H (own ++ capt) scope C fp) target g) (hf : ∀ s H C fp, PF (X.comp s H (own ++ capt) scope C fp) ifs tc) (he : ∀ s H C fp, PE (X.comp s H (own ++ capt) scope C fp) elt te)
    (hs : ∀ x, foldedSetIterable iter X.env x = pure x := by intro _; rfl) : PE X (.ListComp elt [⟨target, iter, ifs, 0⟩] scope pos) (tComp own.length ix wi g tc te) := by
  intro pins s σ H Q I h
  rw [eval_ListComp]
  refine wpAny_comprehension_free (use := none) rfl hs (clos_eq fun x hx hk => I.ok.has x.1 (.inl (CS.frees x hx hk))) CS.kind CS.locs (thn (hi pins s σ H _ I h) fun v s1 h1 => thn h1 fun itv s2 h2 => ?_)
  obtain ⟨it, fp, tn, J, H2, e, I2, T, st2, f2, hW⟩ := h2
  subst e
  refine comp_run (RR := fun acc C => compPost (model X.prog X.w) X.A X.xe none (EP X pins σ Q) acc C) I2 hc CS T st2 f2 hg hf he hW fun D C s' H' J' fC ⟨m, hn⟩ q => ⟨m, hn, fun h' sb => ⟨.ref D, H', ?_, rfl, q⟩⟩
  exact J'.turned (t' := s'.toks) (fun b o hb e => (sb.2 b hb).trans e) fC.1 fC.2.1 fC.2.2.2.1 fC.2.2.2.2.1 fC.2.2.2.2.2
/-- y = [..]: the store comes ahead of the block's end -/
theorem ps_comp {i : Nat} {y : Str} {py spos : Pos} {elt target iter : Expr} {ifs : List Expr} {pos : Pos} {wi : TI} {g : TG} {tc : TT} {te : TE} (hc : X.calm = true) (CS : CompScope X scope own capt ix) (hi : PI X target iter wi)
    (hg : ∀ s H C fp, PG (X.comp s H (own ++ capt) scope C fp) target g) (hf : ∀ s H C fp, PF (X.comp s H (own ++ capt) scope C fp) ifs tc) (he : ∀ s H C fp, PE (X.comp s H (own ++ capt) scope C fp) elt te)
    (hN : X.N.Nodup := by assumption) (hiy : X.N[i]? = some y := by rfl) (hy : Loc X.env.scope y := by first | exact Or.inl rfl | exact Or.inr rfl) (hfn : X.fn y = true ∨ X.env.scope.names.lookup y = some .local := by first | exact .inl rfl | exact .inr rfl | assumption)
    (hsw : swapsWith (.ListComp elt [⟨target, iter, ifs, 0⟩] scope pos) (some (.Name y py)) spos.line X.env = pure true := by rfl)
    (hs : ∀ x, foldedSetIterable iter X.env x = pure x := by intro _; rfl) : PS X (.Assign [.Name y py] (.ListComp elt [⟨target, iter, ifs, 0⟩] scope pos) spos) (tAsg (tComp own.length ix wi g tc te) (gName i)) := by
  intro pins s σ H D I h
  rw [exec_Assign_Name_used _ _ _ _ hsw]
  refine wpAny_bind (wpAny_standAt (wpAny_bind ?_))
  show wpAny _ X.A (do let _ ← comprehension (.ListComp elt [⟨target, iter, ifs, 0⟩] scope pos) scope X.env _ (newList []) false (eval iter X.env) (some (assign (.Name y py) X.env))) _ _ s
  refine wpAny_bind (wpAny_mono (wpAny_comprehension_free (use := some (assign (.Name y py) X.env)) (Q := fun _ s' => SP X pins D .next s') rfl hs (clos_eq fun x hx hk => I.ok.has x.1 (.inl (CS.frees x hx hk))) CS.kind CS.locs
    (thn (hi pins s σ H _ I h) fun v s1 h1 => thn h1 fun itv s2 h2 => ?_)) (fun _ s' hq => wpAny_pure (wpAny_pure hq)) fun _ _ e => e)
  obtain ⟨it, fp, tn, J, H2, e, I2, T, st2, f2, hW⟩ := h2
  subst e
  refine comp_run (Q := fun x H1 => D.nx (σ.set i (some x)) H1) (RR := fun acc C => compPost (model X.prog X.w) X.A X.xe (some (assign (.Name y py) X.env)) (fun _ s' => SP X pins D .next s') acc C) I2 hc CS T st2 f2 hg hf he hW fun Dd C s' H' J' fC ⟨m, hn⟩ q => ?_
  show wpAny _ X.A (assign (.Name y py) X.env (.ref Dd)) _ _ _
  refine wpAny_assign_Name (store_ok2 J' hN hiy hy (v := .ref Dd) rfl (fun s'' I'' ⟨a, sa, ha⟩ => ?_) hfn)
  have hCa : C ≠ a := by
    rcases ha with z | z
    · rw [z]; exact fC.2.1
    · exact Ne.symm (fC.2.2.2.2.1 y a z)
  refine ⟨m, hn.sameBut sa hCa, fun h' sb => ⟨_, H', ?_, q⟩⟩
  exact I''.turned (t' := s''.toks) (fun b o hb e => (sb.2 b hb).trans e) fC.1 fC.2.1 fC.2.2.2.1 fC.2.2.2.2.1 fC.2.2.2.2.2
end
end L2

end

section
set_option maxHeartbeats 1000000
/-! enumerate and zip of lists, walked by a tuple of names. -/
namespace L2
open PySem PySem.Spec PyProof.Rows
theorem bt_enumerate : bootBuiltins "enumerate" = some (.type "enumerate") := by decide +kernel
theorem bt_zip : bootBuiltins "zip" = some (.type "zip") := by decide +kernel
section
variable {X : Cx} {pins : List (Addr × Obj)} {σ : St} {H : Hp} {s : Shared}
/-- records of ours have turned, a new tuple is laid -/
theorem Inv.yields (I : Inv X pins σ H s) {ch : List Addr} (hch : ∀ b ∈ ch, FpOk X pins H b) {h' : Heap} {tk : Nat} (keep : ∀ b o, b ∉ ch → s.heap.get? b = some o → h'.get? b = some o) {t : Addr} (ht : s.heap.objs.size ≤ t)
    {xs : List V} {us : List Value} (r : Vals xs us) (hl : xs.length ≤ sizeLine) (hT : IsTup h' t us.toArray) : Inv X pins σ (upd H t (.tup xs)) { s with heap := h', toks := tk } := by
  have hn := I.hok.fresh ht
  have nt : ∀ b o, s.heap.get? b = some o → b ≠ t := fun b o e => Nat.ne_of_lt (Nat.lt_of_lt_of_le (Heap.lt_size e) ht)
  have nc : ∀ b u, H b = some u → b ∉ ch := fun b u e z => by
    have := (hch b z).1
    rw [e] at this
    cases this
  have un : Un (frs X.stack) ch H (upd H t (.tup xs)) s.heap h' := by
    refine ⟨fun b o e n hb hc => keep b o hc e, fun b o e n hb hc => ⟨o.slots, keep b o hc e⟩, fun b o e n hc => ?_, fun b o e hc => ⟨o, keep b o hc e⟩, fun b ys e => ?_, fun b o u e => ?_, fun b ps e => ⟨#[], ?_⟩⟩
    · rw [upd_ne (nt b o e)]
      exact n
    · rw [upd_ne (ne_of_none e hn)]
      exact e
    · rw [upd_ne (ne_of_none e hn)]
      exact e
    · rw [upd_ne (ne_of_none e hn), e]
      simp
  refine I.call' (s' := { s with heap := h', toks := tk }) rfl un (fun b o e => ?_) I.bare fun b hb => ⟨(hch b hb).2.2.2.1, (hch b hb).2.1, (hch b hb).2.2.2.2.1, (hch b hb).2.2.2.2.2⟩
  by_cases hb : b = t
  · subst hb
    rw [upd_same] at e
    cases e
    exact ⟨hl, us, r, hT⟩
  · rw [upd_ne hb] at e
    refine (I.hok b o e).stay (fun c u hc q => keep c u ?_ q) (fun c q => ?_) fun c ys q => ?_
    · rcases hc with rfl | hc
      · exact nc _ _ e
      · exact nc _ _ hc
    · rw [upd_ne (ne_of_none q hn)]
      exact q
    · rw [upd_ne (ne_of_none q hn)]
      exact q
end
/-- (i, x) of the list at a -/
def Ite (K : PySem.W.Frag) (a : Addr) : It :=
  ⟨fun i H => ∃ xs x, SqL K H a xs ∧ xs[i]? = some x, fun i H v H' => ∃ x t, (∀ xs, SqL K H a xs → xs[i]? = some x) ∧ v = .ref t ∧ H t = none ∧ H' = upd H t (.tup [.int i, x]), fun i H => ∃ xs, SqL K H a xs ∧ xs.length ≤ i⟩
/-- (x, y) of the lists at a, b -/
def Itz (K : PySem.W.Frag) (a b : Addr) : It :=
  ⟨fun i H => ∃ xs ys x y, SqL K H a xs ∧ SqL K H b ys ∧ xs[i]? = some x ∧ ys[i]? = some y,
    fun i H v H' => ∃ x y t, (∀ xs, SqL K H a xs → xs[i]? = some x) ∧ (∀ ys, SqL K H b ys → ys[i]? = some y) ∧ v = .ref t ∧ H t = none ∧ H' = upd H t (.tup [x, y]),
    fun i H => ∃ xs ys, SqL K H a xs ∧ SqL K H b ys ∧ (xs.length ≤ i ∨ ys.length ≤ i)⟩
theorem turn_enum {P : Program} {w : World} {K : PySem.W.Frag} {elts : List Expr} {k} {tp : Pos} (a e it : Addr) (hne : e ≠ it) : Turn P w K (.Tuple elts k tp) (Ite K a) [e, it] e (fun i h => (∃ old, IsEnum h e it i old) ∧ h.IsListIter it a i) where
  mem := by simp
  obj := fun i h st b hb => by
    obtain ⟨⟨old, he⟩, o, eo, c, d⟩ := st
    simp only [List.mem_cons, List.not_mem_nil, or_false] at hb
    rcases hb with rfl | rfl
    · exact ⟨_, he, fun v z => by cases z⟩
    · exact ⟨o, eo, fun v z => by rw [d] at z; cases z⟩
  keep := fun i h h' st kk => by
    obtain ⟨⟨old, he⟩, hi⟩ := st
    exact ⟨⟨old, kk e (by simp) _ he⟩, hi.at fun o q => kk it (by simp) o q⟩
  item := by
    intro X hP hw hK hc i pins s σ H E I hf st hg
    subst hP hw hK
    obtain ⟨xs, x, hq, hx⟩ := hg
    obtain ⟨⟨old, he⟩, hi⟩ := st
    obtain ⟨its, rv, p, hz⟩ := I.list hq
    obtain ⟨u, hu, ru⟩ := rv.get hx
    refine wpAny_pyNext_enum_item he hi p.isList (x := u) (by simpa using hu) hne fun h' eo hi' ht hsz kp => ?_
    refine ⟨_, rfl, wpAny_letOwnedTupleGo_enum (s := { s with heap := h', toks := s.toks + 1 }) eo fun h'' ee sb => ?_⟩
    have lt : ∀ {c o}, s.heap.get? c = some o → s.heap.objs.size ≠ c := fun q => Nat.ne_of_gt (Heap.lt_size q)
    have nfp : s.heap.objs.size ≠ e := lt he
    have ht2 : h''.get? s.heap.objs.size = some { cls := .type "tuple", data := .seq #[.int i s.toks, u] } := sb.extBut _ _ nfp ht
    refine ⟨.ref s.heap.objs.size, upd H s.heap.objs.size (.tup [.int i, x]), ?_, rfl, ⟨x, _, fun ys hy => by rw [I.list_inj hy hq]; exact hx, rfl, I.hok.fresh (Nat.le_refl _), rfl⟩, ⟨⟨_, ee⟩, hi'.extBut sb.extBut (Ne.symm hne)⟩, fun b hb => ?_⟩
    · exact I.yields (ch := [e, it]) hf (fun b o hb q => sb.extBut b o (fun z => hb (by simp [z])) (kp b o (fun z => hb (by simp [z])) (fun z => hb (by simp [z])) q)) (Nat.le_refl _) (us := [.int i s.toks, u]) (.cons ⟨_, rfl⟩ (.cons ru .nil)) (by show 2 ≤ sizeLine; decide) ⟨_, ht2, rfl, _, rfl⟩
    · have hb' : s.heap.objs.size ≠ b := by
        simp only [List.mem_cons, List.not_mem_nil, or_false] at hb
        rcases hb with rfl | rfl
        · exact nfp
        · obtain ⟨o, q, _⟩ := hi
          exact lt q
      rw [upd_ne (Ne.symm hb')]
      exact (hf b hb).1
  done := by
    intro X hP hw hK hc i pins s σ H E I hf st hg
    subst hP hw hK
    obtain ⟨xs, hq, hx⟩ := hg
    obtain ⟨⟨old, he⟩, hi⟩ := st
    obtain ⟨its, rv, p, hz⟩ := I.list hq
    have hl := rv.length
    obtain ⟨f0, f1, f2, f3, f4, f5⟩ := hf it (by simp)
    exact wpAny_pyNext_enum_end (I.ok.hd hc) he hi p.isList (by simp; omega) fun h' eb => ⟨rfl, I.turned (t' := s.toks) (fun b o hb q => eb b o hb q) f0 f1 f3 f4 f5⟩
  self := fun _ _ _ _ _ st h => by
    obtain ⟨⟨old, he⟩, hi⟩ := st
    exact wpAny_pyIter_enum he h
theorem turn_zip {P : Program} {w : World} {K : PySem.W.Frag} {elts : List Expr} {k} {tp : Pos} (a b z TI TO i1 i2 : Addr) (D : ZipApart z TI TO i1 i2 a b) :
    Turn P w K (.Tuple elts k tp) (Itz K a b) [z, TI, TO, i1, i2] z (fun i h => IsZip h z TI TO .none ∧ IsPair h TI (.ref i1) (.ref i2) ∧ (∃ u v, IsPair h TO u v) ∧ h.IsListIter i1 a i ∧ h.IsListIter i2 b i) where
  mem := by simp
  obj := fun i h st c hc => by
    obtain ⟨hz, hTI, ⟨u, v, hTO⟩, ⟨o1, e1, _, d1⟩, ⟨o2, e2, _, d2⟩⟩ := st
    simp only [List.mem_cons, List.not_mem_nil, or_false] at hc
    rcases hc with rfl | rfl | rfl | rfl | rfl
    · exact ⟨_, hz, fun v z => by cases z⟩
    · exact ⟨_, hTI, fun v z => by cases z⟩
    · exact ⟨_, hTO, fun v z => by cases z⟩
    · exact ⟨o1, e1, fun v z => by rw [d1] at z; cases z⟩
    · exact ⟨o2, e2, fun v z => by rw [d2] at z; cases z⟩
  keep := fun i h h' st kk => by
    obtain ⟨hz, hTI, ⟨u, v, hTO⟩, h1, h2⟩ := st
    exact ⟨kk z (by simp) _ hz, kk TI (by simp) _ hTI, ⟨u, v, kk TO (by simp) _ hTO⟩, h1.at fun o q => kk i1 (by simp) o q, h2.at fun o q => kk i2 (by simp) o q⟩
  item := by
    intro X hP hw hK hc i pins s σ H E I hf st hg
    subst hP hw hK
    obtain ⟨xs, ys, x, y, hq1, hq2, hx, hy⟩ := hg
    obtain ⟨hz, hTI, ⟨u0, v0, hTO⟩, h1, h2⟩ := st
    obtain ⟨its, rv, p, _⟩ := I.list hq1
    obtain ⟨its2, rv2, p2, _⟩ := I.list hq2
    obtain ⟨u, hu, ru⟩ := rv.get hx
    obtain ⟨v, hv, rv'⟩ := rv2.get hy
    refine wpAny_pyNext_zip_item D hz hTI hTO h1 h2 p.isList p2.isList (x := u) (y := v) (by simpa using hu) (by simpa using hv) fun h' z1 to1 j1 j2 ht hsz kp => ?_
    refine ⟨_, rfl, wpAny_letOwnedTupleGo_zip (s := { s with heap := h' }) z1 fun h'' zz sb => ?_⟩
    have lt : ∀ {c o}, s.heap.get? c = some o → s.heap.objs.size ≠ c := fun q => Nat.ne_of_gt (Heap.lt_size q)
    have nz : s.heap.objs.size ≠ z := lt hz
    have ht2 : h''.get? s.heap.objs.size = some { cls := .type "tuple", data := .seq #[u, v] } := sb.extBut _ _ nz ht
    refine ⟨.ref s.heap.objs.size, upd H s.heap.objs.size (.tup [x, y]), ?_, rfl, ⟨x, y, _, fun ys hy => by rw [I.list_inj hy hq1]; exact hx, fun zs hz' => by rw [I.list_inj hz' hq2]; exact hy, rfl, I.hok.fresh (Nat.le_refl _), rfl⟩,
      ⟨zz, sb.extBut _ _ D.TIz (kp _ _ D.TIz D.TITO D.TIi1 D.TIi2 hTI), ⟨_, _, sb.extBut _ _ D.TOz to1⟩, j1.extBut sb.extBut D.i1z, j2.extBut sb.extBut D.i2z⟩, fun c hc => ?_⟩
    · exact I.yields (ch := [z, TI, TO, i1, i2]) (tk := s.toks) hf (fun c o hc q => sb.extBut c o (fun e => hc (by simp [e])) (kp c o (fun e => hc (by simp [e])) (fun e => hc (by simp [e])) (fun e => hc (by simp [e])) (fun e => hc (by simp [e])) q)) (Nat.le_refl _) (us := [u, v]) (.cons ru (.cons rv' .nil)) (by show 2 ≤ sizeLine; decide) ⟨_, ht2, rfl, _, rfl⟩
    · have hc' : s.heap.objs.size ≠ c := by
        simp only [List.mem_cons, List.not_mem_nil, or_false] at hc
        rcases hc with rfl | rfl | rfl | rfl | rfl
        · exact nz
        · exact lt hTI
        · exact lt hTO
        · obtain ⟨o, q, _⟩ := h1
          exact lt q
        · obtain ⟨o, q, _⟩ := h2
          exact lt q
      rw [upd_ne (Ne.symm hc')]
      exact (hf c hc).1
  done := by
    intro X hP hw hK hc i pins s σ H E I hf st hg
    subst hP hw hK
    obtain ⟨xs, ys, hq1, hq2, hx⟩ := hg
    obtain ⟨hz, hTI, ⟨u0, v0, hTO⟩, h1, h2⟩ := st
    obtain ⟨its, rv, p, _⟩ := I.list hq1
    obtain ⟨its2, rv2, p2, _⟩ := I.list hq2
    have hl := rv.length
    have hl2 := rv2.length
    refine wpAny_pyNext_zip_end (I.ok.hd hc) D hz hTI hTO h1 h2 p.isList p2.isList ?_ fun h' kp => ⟨rfl, ?_⟩
    · rcases hx with hx | hx
      · exact .inl (by simp; omega)
      · exact .inr (by simp; omega)
    · refine I.call' (s' := { s with heap := h' }) (ch := [z, TI, TO, i1, i2]) rfl ⟨fun c o e n hb hc => ?_, fun c o e n hb hc => ⟨o.slots, ?_⟩, fun c o e n hc => n, fun c o e hc => ⟨o, ?_⟩, fun _ _ e => e, fun _ _ _ e => e, fun c ps e => ⟨#[], by rw [e]; simp⟩⟩ (fun c o e => ?_) I.bare fun c hc => ⟨(hf c hc).2.2.2.1, (hf c hc).2.1, (hf c hc).2.2.2.2.1, (hf c hc).2.2.2.2.2⟩
      · exact kp c o (fun e => hc (by simp [e])) (fun e => hc (by simp [e])) (fun e => hc (by simp [e])) (fun e => hc (by simp [e])) e
      · exact kp c o (fun e => hc (by simp [e])) (fun e => hc (by simp [e])) (fun e => hc (by simp [e])) (fun e => hc (by simp [e])) e
      · exact kp c o (fun e => hc (by simp [e])) (fun e => hc (by simp [e])) (fun e => hc (by simp [e])) (fun e => hc (by simp [e])) e
      · have nc : ∀ d u, H d = some u → d ≠ z ∧ d ≠ TO ∧ d ≠ i1 ∧ d ≠ i2 := fun d u q => by
          have ne : ∀ d', d' ∈ [z, TI, TO, i1, i2] → d ≠ d' := fun d' hd' z => by
            have := (hf d' hd').1
            rw [← z, q] at this
            cases this
          exact ⟨ne z (by simp), ne TO (by simp), ne i1 (by simp), ne i2 (by simp)⟩
        refine (I.hok c o e).stay (fun d u hd q => ?_) (fun _ q => q) fun _ _ q => q
        rcases hd with rfl | hd
        · obtain ⟨n1, n2, n3, n4⟩ := nc _ _ e
          exact kp _ _ n1 n2 n3 n4 q
        · obtain ⟨n1, n2, n3, n4⟩ := nc _ _ hd
          exact kp _ _ n1 n2 n3 n4 q
  self := fun _ _ _ _ _ st h => by
    obtain ⟨hz, _⟩ := st
    exact wpAny_pyIter_zip hz h
theorem zip_apart {n l1 l2 : Nat} (h1 : l1 < n) (h2 : l2 < n) : ZipApart (n + 4) (n + 2) (n + 3) n (n + 1) l1 l2 := by
  constructor <;> (show (_ : Nat) ≠ _; omega)
section
variable {X : Cx} {elts : List Expr} {k : Nat} {tp : Pos}
def iEnum (K : PySem.W.Frag) (ta : TA) : TI := fun σ H R => ta σ H fun vs H1 => ∃ a, vs = [.ref a] ∧ (∃ xs, SqL K H1 a xs) ∧ R (Ite K a) H1
def iZip (K : PySem.W.Frag) (ta : TA) : TI := fun σ H R => ta σ H fun vs H1 => ∃ a b, vs = [.ref a, .ref b] ∧ (∃ xs, SqL K H1 a xs) ∧ (∃ ys, SqL K H1 b ys) ∧ R (Itz K a b) H1
theorem pi_enum {a : Expr} {ta : TA} {p pos : Pos} (hg : Gl X "enumerate") (hm : X.mg "enumerate" = none) (ha : PA X [a] ta) (hs : starEach [a] X.env = [(false, eval a X.env)] := by rfl) : PI X (.Tuple elts k tp) (.Call (.Name "enumerate" p) [a] [] pos) (iEnum X.K ta) := by
  intro pins s σ H R I h
  refine Call_ (ld_blt I hg hm bt_enumerate (PyProof.Rows.callWith_type1 (thn (ha pos pins s σ H _ I h) fun us s1 ⟨vs, H1, I1, r1, q1⟩ => ?_) hs rfl))
  obtain ⟨l, rfl, ⟨xs, hq⟩, q⟩ := q1
  obtain ⟨u, rfl, ru⟩ := r1.one
  cases ru
  obtain ⟨its, rv, pl, _⟩ := I1.list hq
  refine call_enumerate_list pl.isList fun h' ee li hsz kp => ?_
  refine wpAny_pyIter_enum (s := { s1 with heap := h' }) ee ?_
  refine ⟨_, [s1.heap.objs.size + 1, s1.heap.objs.size], _, _, H1, rfl, I1.kept (t' := s1.toks) kp, turn_enum l _ _ (Nat.succ_ne_self _), ⟨⟨_, ee⟩, li⟩, fun b hb => ?_, q⟩
  simp only [List.mem_cons, List.not_mem_nil, or_false] at hb
  rcases hb with rfl | rfl
  · exact I1.fpOk (Nat.le_succ _) (I1.hok.fresh (Nat.le_succ _))
  · exact I1.fpOk (Nat.le_refl _) (I1.hok.fresh (Nat.le_refl _))
theorem pi_zip {a b : Expr} {ta : TA} {p pos : Pos} (hg : Gl X "zip") (hm : X.mg "zip" = none) (ha : PA X [a, b] ta) (hs : starEach [a, b] X.env = [(false, eval a X.env), (false, eval b X.env)] := by rfl) (hs2 : starEach [b] X.env = [(false, eval b X.env)] := by rfl) :
    PI X (.Tuple elts k tp) (.Call (.Name "zip" p) [a, b] [] pos) (iZip X.K ta) := by
  intro pins s σ H R I h
  refine Call_ (ld_blt I hg hm bt_zip (PyProof.Rows.callWith_type1 (thn (ha pos pins s σ H _ I h) fun us s1 ⟨vs, H1, I1, r1, q1⟩ => ?_) (by rw [hs, hs2]) (by rw [hs2]; rfl)))
  obtain ⟨l1, l2, rfl, ⟨xs, hq1⟩, ⟨ys, hq2⟩, q⟩ := q1
  obtain ⟨u, v, rfl, ru, rv⟩ := r1.two
  cases ru
  cases rv
  obtain ⟨its, _, p1, _⟩ := I1.list hq1
  obtain ⟨its2, _, p2, _⟩ := I1.list hq2
  have lt1 : l1 < s1.heap.objs.size := by
    obtain ⟨o, _, e, _⟩ := p1
    exact Heap.lt_size e
  have lt2 : l2 < s1.heap.objs.size := by
    obtain ⟨o, _, e, _⟩ := p2
    exact Heap.lt_size e
  refine call_zip_2 p1.isList p2.isList fun h' zz pi po j1 j2 hsz kp => ?_
  refine wpAny_pyIter_zip (s := { s1 with heap := h' }) zz ?_
  refine ⟨_, [s1.heap.objs.size + 4, s1.heap.objs.size + 2, s1.heap.objs.size + 3, s1.heap.objs.size, s1.heap.objs.size + 1], _, _, H1, rfl, I1.kept (t' := s1.toks) kp, turn_zip l1 l2 _ _ _ _ _ (zip_apart lt1 lt2), ⟨zz, pi, ⟨_, _, po⟩, j1, j2⟩, fun b hb => ?_, q⟩
  have le : s1.heap.objs.size ≤ b := by
    simp only [List.mem_cons, List.not_mem_nil, or_false] at hb
    rcases hb with rfl | rfl | rfl | rfl | rfl
    · exact Nat.le_add_right _ _
    · exact Nat.le_add_right _ _
    · exact Nat.le_add_right _ _
    · exact Nat.le_refl _
    · exact Nat.le_add_right _ _
  exact I1.fpOk le (I1.hok.fresh le)
end
end L2

end

section
set_option maxHeartbeats 1000000
/-! ONE RULE FOR EACH OPERATION: ==, !=, +, []; texts with fields; global numbers. -/
namespace L2
open PySem PySem.Spec PyProof.Rows
section
variable {X : Cx}
/-- what is equal to itself -/
def plainV : V → Bool
  | .flt _ => false
  | .byt _ => false
  | _ => true
theorem eq_same {A : Around} {s : Shared} {v : V} {u u' : Value} (r : RelV v u) (r' : RelV v u') (h : plainV v = true) : SeqAt.EqAt A s u u' true := by
  cases v with
  | non => cases r; cases r'; exact .same _
  | bl _ => cases r; cases r'; exact .same _
  | int i =>
    obtain ⟨t, rfl⟩ := r
    obtain ⟨t', rfl⟩ := r'
    have := SeqAt.EqAt.int_int (A := A) (s := s) i t i t'
    rwa [beq_self_eq_true] at this
  | str x =>
    obtain ⟨t, rfl⟩ := r
    obtain ⟨t', rfl⟩ := r'
    have := SeqAt.EqAt.str_str (A := A) (s := s) x t x t'
    rwa [beq_self_eq_true] at this
  | byt _ => cases h
  | flt _ => cases h
  | ref _ => cases r; cases r'; exact .same _
  | ty _ => cases r; cases r'; exact .same _
/-- two lists (or tuples) of the very same things -/
def TwoSame (K : PySem.W.Frag) (x y : V) (H : Hp) : Prop := ∃ a b xs, x = .ref a ∧ y = .ref b ∧ ((SqL K H a xs ∧ SqL K H b xs) ∨ (SqT K H a xs ∧ SqT K H b xs)) ∧ xs.all plainV = true
theorem vals_same {A : Around} {s : Shared} {xs : List V} {us us' : List Value} (r : Vals xs us) (r' : Vals xs us') (h : xs.all plainV = true) : ∀ j (h1 : j < us.toArray.size) (h2 : j < us'.toArray.size), SeqAt.EqAt A s us.toArray[j] us'.toArray[j] true := fun j h1 h2 => by
  have l1 := r.length
  have l2 := r'.length
  have hj : j < xs.length := by simp at h1; omega
  have hx : xs[j]? = some xs[j] := by simp [hj]
  obtain ⟨u, e1, q1⟩ := r.get hx
  obtain ⟨u', e2, q2⟩ := r'.get hx
  have p : plainV xs[j] = true := List.all_eq_true.mp h _ (List.getElem_mem hj)
  obtain ⟨_, e1'⟩ := List.getElem?_eq_some_iff.mp e1
  obtain ⟨_, e2'⟩ := List.getElem?_eq_some_iff.mp e2
  have := eq_same (A := A) (s := s) q1 q2 p
  rw [← e1', ← e2'] at this
  simpa using this
theorem all_true {n : Nat} : (List.range n).all (fun _ => true) = true := by simp
theorem op_eqS (hu : X.A.units + 64 < cLine) : OpR X (compareOp .Eq) (fun x y H Q => TwoSame X.K x y H ∧ Q (.bl true) H) := by
  intro pins s σ H x y v u Q I rx ry h
  obtain ⟨⟨a, b, xs, rfl, rfl, h, pl⟩, q⟩ := h
  cases rx
  cases ry
  rcases h with ⟨h1, h2⟩ | ⟨h1, h2⟩
  · obtain ⟨its, r1, p1, _⟩ := I.list h1
    obtain ⟨its2, r2, p2, _⟩ := I.list h2
    have e := r1.length.symm.trans r2.length
    refine SeqAt.eq_listAt p1.isList p2.isList (by simp; omega) (by omega) (vals_same r1 r2 pl) ?_
    rw [all_true]
    exact ⟨.bl true, H, I, rfl, q⟩
  · obtain ⟨its, r1, p1, _⟩ := I.tuple h1
    obtain ⟨its2, r2, p2, _⟩ := I.tuple h2
    have e := r1.length.symm.trans r2.length
    refine SeqAt.eq_tupleAt (show s.heap.IsTuple a its.toArray from p1) (show s.heap.IsTuple b its2.toArray from p2) (by omega) (vals_same r1 r2 pl) ?_
    rw [all_true]
    have e2 : (its.toArray.size == its2.toArray.size) = true := by simp [e]
    rw [e2]
    exact ⟨.bl true, H, I, rfl, q⟩
theorem op_neS (hu : X.A.units + 64 < cLine) : OpR X (compareOp .NotEq) (fun x y H Q => TwoSame X.K x y H ∧ Q (.bl false) H) := by
  intro pins s σ H x y v u Q I rx ry h
  obtain ⟨⟨a, b, xs, rfl, rfl, h, pl⟩, q⟩ := h
  cases rx
  cases ry
  rcases h with ⟨h1, h2⟩ | ⟨h1, h2⟩
  · obtain ⟨its, r1, p1, _⟩ := I.list h1
    obtain ⟨its2, r2, p2, _⟩ := I.list h2
    have e := r1.length.symm.trans r2.length
    have k := SeqAt.RcNeAt.lists (A := X.A) p1.isList p2.isList (by simp; omega) (by omega) (vals_same r1 r2 pl)
    rw [all_true] at k
    exact k X.prog X.w X.xe _ ⟨.bl false, H, I, rfl, q⟩
  · obtain ⟨its, r1, p1, _⟩ := I.tuple h1
    obtain ⟨its2, r2, p2, _⟩ := I.tuple h2
    have e := r1.length.symm.trans r2.length
    have k := SeqAt.RcNeAt.tuples (A := X.A) (show s.heap.IsTuple a its.toArray from p1) (show s.heap.IsTuple b its2.toArray from p2) (by omega) (vals_same r1 r2 pl)
    have e2 : (its.toArray.size == its2.toArray.size) = true := by simp [e]
    rw [all_true, e2] at k
    exact k X.prog X.w X.xe _ ⟨.bl false, H, I, rfl, q⟩
/-- == and != of anything -/
def rEqA (K : PySem.W.Frag) : R2 := fun x y H Q => rEq x y H Q ∨ rEqD K x y H Q ∨ (TwoSame K x y H ∧ Q (.bl true) H)
def rNeA (K : PySem.W.Frag) : R2 := fun x y H Q => rNe x y H Q ∨ rNeD K x y H Q ∨ (TwoSame K x y H ∧ Q (.bl false) H)
theorem op_eqA (hu : X.A.units + 64 < cLine) : OpR X (compareOp .Eq) (rEqA X.K) := op_eq.or ((op_eqD hu).or (op_eqS hu))
theorem op_neA (hu : X.A.units + 64 < cLine) : OpR X (compareOp .NotEq) (rNeA X.K) := op_ne.or ((op_neD hu).or (op_neS hu))
/-- + of ints, lists, tuples, texts -/
def rAddA (K : PySem.W.Frag) : R2 := fun x y H Q => rI0 (fun i j => .int (i + j)) x y H Q ∨ rCatS K x y H Q ∨ rCatT K x y H Q ∨ ∃ i j, x = .str i ∧ y = .str j ∧ i.length + j.length ≤ sizeLine ∧ Q (.str (i ++ j)) H
theorem op_addA : OpR X (binaryOp .Add) (rAddA X.K) := op_add.or (op_catS.or (op_catT.or op_add_str))
variable {σ : St} {H : Hp} {Q : VK} {K : PySem.W.Frag}
theorem s_eqAI {i j : Int} (q : Q (.bl (decide (i = j))) H) : rEqA K (.int i) (.int j) H Q := .inl (s_eqI q)
theorem s_neAI {i j : Int} (q : Q (.bl (!decide (i = j))) H) : rNeA K (.int i) (.int j) H Q := .inl (s_neI q)
theorem s_addI {i j : Int} (q : Q (.int (i + j)) H) : rAddA K (.int i) (.int j) H Q := .inl ⟨i, j, rfl, rfl, q⟩
theorem s_catL {a b : Addr} {xs ys : List V} (h1 : SqL K H a xs) (h2 : SqL K H b ys) (hl : xs.length + ys.length ≤ sizeLine) (q : ∀ p H', H p = none → Same H H' → H' p = some (.lst (xs ++ ys)) → Q (.ref p) H') : rAddA K (.ref a) (.ref b) H Q :=
  .inr (.inl ⟨a, b, xs, ys, rfl, rfl, h1, h2, hl, fun p hp => q p _ hp (Same.new hp) upd_same⟩)
theorem s_catT {a b : Addr} {xs ys : List V} (h1 : SqT K H a xs) (h2 : SqT K H b ys) (n1 : xs ≠ []) (n2 : ys ≠ []) (hl : xs.length + ys.length ≤ sizeLine) (q : ∀ p H', H p = none → Same H H' → H' p = some (.tup (xs ++ ys)) → Q (.ref p) H') : rAddA K (.ref a) (.ref b) H Q :=
  .inr (.inr (.inl ⟨a, b, xs, ys, rfl, rfl, h1, h2, n1, hl, fun z => absurd z n2, fun _ p hp => q p _ hp (Same.new hp) upd_same⟩))
theorem s_ixSL {p : Addr} {xs : List V} {i : Int} {v : V} (h : SqL K H p xs) (e : atI xs i = some v) (q : Q v H) : rIx K (.ref p) (.int i) H Q := .inl (s_ixL h e q)
theorem s_ixST {p : Addr} {xs : List V} {i : Int} {v : V} (h : SqT K H p xs) (e : atI xs i = some v) (q : Q v H) : rIx K (.ref p) (.int i) H Q := .inr (.inl (s_ixT h e q))
def rLen (K : PySem.W.Frag) : List V → Hp → VK → Prop := fun xs H Q => ∃ x n, xs = [x] ∧ LenV K x H n ∧ Q (.int n) H
def rAbs : List V → Hp → VK → Prop := fun xs H Q => ∃ i, xs = [.int i] ∧ Q (.int (if i < 0 then -i else i)) H
def rMin2 : List V → Hp → VK → Prop := fun xs H Q => ∃ i j, xs = [.int i, .int j] ∧ Q (.int (if j < i then j else i)) H
def rListOf (K : PySem.W.Frag) : List V → Hp → VK → Prop := fun xs H Q => ∃ p ys, xs = [.ref p] ∧ (SqL K H p ys ∨ SqT K H p ys) ∧ ∀ l, H l = none → Q (.ref l) (upd H l (.lst ys))
def rTupOf (K : PySem.W.Frag) : List V → Hp → VK → Prop := fun xs H Q => ∃ p ys, xs = [.ref p] ∧ ((SqL K H p ys ∧ ∀ l, H l = none → Q (.ref l) (upd H l (.tup ys))) ∨ (SqT K H p ys ∧ Q (.ref p) H))
def rNotN : R2 := fun x y H Q => y = .non ∧ Q (.bl (!decide (x = .non))) H
theorem s_lenL {p : Addr} {xs : List V} (h : SqL K H p xs) (q : Q (.int xs.length) H) : rLen K [.ref p] H Q := ⟨_, _, rfl, .inl ⟨xs, h, rfl⟩, q⟩
theorem s_lenT {p : Addr} {xs : List V} (h : SqT K H p xs) (q : Q (.int xs.length) H) : rLen K [.ref p] H Q := ⟨_, _, rfl, .inr ⟨xs, h, rfl⟩, q⟩
theorem s_abs1 {i : Int} (q : Q (.int (if i < 0 then -i else i)) H) : rAbs [.int i] H Q := ⟨i, rfl, q⟩
theorem s_min2 {i j : Int} (q : Q (.int (if j < i then j else i)) H) : rMin2 [.int i, .int j] H Q := ⟨i, j, rfl, q⟩
theorem s_notN {x : V} (q : Q (.bl (!decide (x = .non))) H) : rNotN x .non H Q := ⟨rfl, q⟩
/-- list(xs): a new list -/
theorem s_listL {p : Addr} {xs : List V} (h : SqL K H p xs) (q : ∀ l H', H l = none → Same H H' → H' l = some (.lst xs) → Q (.ref l) H') : rListOf K [.ref p] H Q := ⟨p, xs, rfl, .inl h, fun l hl => q l _ hl (Same.new hl) upd_same⟩
theorem s_listT {p : Addr} {xs : List V} (h : SqT K H p xs) (q : ∀ l H', H l = none → Same H H' → H' l = some (.lst xs) → Q (.ref l) H') : rListOf K [.ref p] H Q := ⟨p, xs, rfl, .inr h, fun l hl => q l _ hl (Same.new hl) upd_same⟩
theorem s_tupL {p : Addr} {xs : List V} (h : SqL K H p xs) (q : ∀ l H', H l = none → Same H H' → H' l = some (.tup xs) → Q (.ref l) H') : rTupOf K [.ref p] H Q := ⟨p, xs, rfl, .inl ⟨h, fun l hl => q l _ hl (Same.new hl) upd_same⟩⟩
/-- a global number -/
theorem pe_gi {x : Str} {i : Int} {pos : Pos} (hm : ∃ t, X.mg x = some (.int i t)) (hg : Gl X x := by rfl) (hd : (x == ("__debug__" : Str)) = false := by decide) : PE X (.Name x pos) (tC (.int i)) := by
  obtain ⟨t, hm⟩ := hm
  exact pe_glob hg hm ⟨t, rfl⟩ hd
/-! ### f".." -/
def tFmt (te : TE) : TE := fun σ H Q => te σ H fun x H1 => (∃ y, x = .str y ∧ y.length ≤ sizeLine ∧ Q (.str y) H1) ∨ ∃ i, x = .int i ∧ i.natAbs.log2 < 1920 ∧ Q (.str (toString i)) H1
theorem pe_fmt {e : Expr} {te : TE} {pos : Pos} (he : PE X e te) : PE X (.FormattedValue e (-1) none pos) (tFmt te) := by
  intro pins s σ H Q I h
  refine FormattedValue_plain (thn (he pins s σ H _ I h) fun v s1 ⟨x, H1, I1, r, q⟩ => ?_)
  rcases q with ⟨y, rfl, hl, q⟩ | ⟨i, rfl, hl, q⟩
  · obtain ⟨t, rfl⟩ := r
    exact formatField_str (fun t' tk => ⟨.str y, H1, I1.tok tk, ⟨t', rfl⟩, q⟩) hl
  · obtain ⟨t, rfl⟩ := r
    exact wpAny_formatField_int hl ⟨.str (toString i), H1, I1.tok _, ⟨_, rfl⟩, q⟩
abbrev TJ := St → Hp → Str → VK → Prop
def PJ (X : Cx) (es : List Expr) (t : TJ) : Prop :=
  ∀ (pins : List (Addr × Obj)) (s : Shared) (σ : St) (H : Hp) (out : Str) (Q : VK), Inv X pins σ H s → t σ H out Q → wpAny (model X.prog X.w) X.A (joinParts out (evalEach es X.env)) (EP X pins σ Q) X.xe s
def jNil : TJ := fun _ H out Q => out.length ≤ sizeLine ∧ Q (.str out) H
def jCons (te : TE) (t : TJ) : TJ := fun σ H out Q => te σ H fun x H1 => ∃ y, x = .str y ∧ (out ++ y).length ≤ sizeLine ∧ t σ H1 (out ++ y) Q
def tJoin (t : TJ) : TE := fun σ H Q => t σ H Str.empty Q
theorem pj_nil : PJ X [] jNil := fun pins s σ H out Q I h => joinParts_nil ⟨.str out, H, I.tok _, ⟨_, rfl⟩, h.2⟩ h.1
theorem pj_cons {e : Expr} {es : List Expr} {te : TE} {t : TJ} (he : PE X e te) (hr : PJ X es t) : PJ X (e :: es) (jCons te t) := by
  intro pins s σ H out Q I h
  refine joinParts_cons (thn (he pins s σ H _ I h) fun v s1 ⟨x, H1, I1, r, y, ey, hl, q⟩ => ?_)
  subst ey
  obtain ⟨t, rfl⟩ := r
  exact ⟨hl, hr pins s1 σ H1 (out ++ y) Q I1 q⟩
theorem pe_join {a b : Expr} {r : List Expr} {t : TJ} {pos : Pos} (h : PJ X (a :: b :: r) t) : PE X (.JoinedStr (a :: b :: r) pos) (tJoin t) := fun pins s σ H Q I hq => JoinedStr_many (h pins s σ H _ Q I hq)
end
end L2

end

section
set_option maxHeartbeats 1000000
/-! LOOPS AND BLOCKS by what holds between two turns. -/
namespace L2
open PySem PySem.Spec PyProof.Rows
theorem Same.updN {H H1 : Hp} {l : Addr} {o : HO} (s : Same H H1) (n : H l = none) : Same H (upd H1 l o) := fun b u e => by
  rw [upd_ne (ne_of_none e n)]
  exact s b u e
theorem s_dict0 {σ : St} {H : Hp} {Q : VK} (h : ∀ p H', Same H H' → H' p = some (.dK []) → Q (.ref p) H') : tDict0 σ H Q := fun p hp => h p _ (Same.new hp) upd_same
theorem ln11 {a b c d e f g h i j k : V} : [a, b, c, d, e, f, g, h, i, j, k].length ≤ sizeLine := by show 11 ≤ sizeLine; decide
/-- all stays, but lists may change what they hold -/
def LSame (H H' : Hp) : Prop := ∀ b o, H b = some o → H' b = some o ∨ ∃ xs ys, o = .lst xs ∧ H' b = some (.lst ys)
theorem LSame.upd {H : Hp} {l : Addr} {xs ys : List V} (h : H l = some (.lst xs)) : LSame H (L2.upd H l (.lst ys)) := fun b o e => by
  by_cases z : b = l
  · subst z
    rw [h] at e
    cases e
    exact .inr ⟨xs, ys, rfl, upd_same⟩
  · exact .inl (by rw [upd_ne z]; exact e)
theorem LSame.tup {H H' : Hp} (s : LSame H H') {a : Addr} {xs : List V} (h : H a = some (.tup xs)) : H' a = some (.tup xs) := by
  rcases s a _ h with e | ⟨_, _, e, _⟩
  · exact e
  · cases e
theorem LSame.tups {H H' : Hp} (s : LSame H H') : Tups H H' := by
  refine ⟨fun b xs e => s.tup e, fun b o u e => ?_⟩
  rcases s b _ e with q | ⟨_, _, q, _⟩
  · exact q
  · cases q
theorem tyOf_ls {K : PySem.W.Frag} {H H' : Hp} {x : V} {T : String} (s : LSame H H') (h : TyOf K H x (.type T)) : TyOf K H' x (.type T) := by
  cases h with
  | non => exact .non
  | bl b => exact .bl b
  | int i => exact .int i
  | str y => exact .str y
  | flt y => exact .flt y
  | lst e =>
    rcases s _ _ e with q | ⟨_, _, _, q⟩
    · exact .lst q
    · exact .lst q
  | frz e =>
    rcases s _ _ e with q | ⟨_, _, z, _⟩
    · exact .frz q
    · cases z
  | tup e => exact .tup (s.tup e)
  | dK e =>
    rcases s _ _ e with q | ⟨_, _, z, _⟩
    · exact .dK q
    · cases z
  | dT e =>
    rcases s _ _ e with q | ⟨_, _, z, _⟩
    · exact .dT q
    · cases z
/-- the loop's own part -/
def ForW (J : It) (g : TG) (tb : TS) (D : Ends) (σ : St) (H : Hp) : Prop := ∃ W : Nat → Nat → St → Hp → Prop, (∃ m, W 0 m σ H) ∧ ∀ i m σ H, W i m σ H →
  (J.stop i H ∧ D.nx σ H) ∨ (J.go i H ∧ ∃ N : St → Hp → Prop, (∀ σ' H', N σ' H' → ∃ m', m' < m ∧ W (i + 1) m' σ' H') ∧ ∀ x H', J.yld i H x H' → g x σ H' fun σ2 H2 => tb { D with nx := N, ct := N, bk := D.nx } σ2 H2)
/-- a block's own part -/
def CompW (J : It) (acc : Addr) (g : TG) (tc : TT) (te : TE) (σ : St) (H : Hp) (Q : VK) : Prop := ∃ W : Nat → Nat → St → Hp → Prop, (∃ m, W 0 m σ (upd H acc (.lst []))) ∧
  ∀ i m σ' H', W i m σ' H' → (J.stop i H' ∧ Q (.ref acc) H') ∨ (J.go i H' ∧ ∃ N : St → Hp → Prop, (∀ σ2 H2, N σ2 H2 → ∃ m', m' < m ∧ W (i + 1) m' σ2 H2) ∧
    ∀ x H2, J.yld i H' x H2 → g x σ' H2 fun σ3 H3 => tc σ3 H3 fun ok H4 => if ok = true then te σ3 H4 fun v H5 => ∃ ys, H5 acc = some (.lst ys) ∧ ys.length < sizeLine ∧ N σ3 (upd H5 acc (.lst (ys ++ [v]))) else N σ3 H4)
def jList (K : PySem.W.Frag) (x : V) (H : Hp) (R : It → Hp → Prop) : Prop := ∃ a, x = .ref a ∧ (∃ xs, SqL K H a xs) ∧ R (Itl K a) H
def jR1 (vs : List V) (H : Hp) (R : It → Hp → Prop) : Prop := ∃ j : Int, vs = [.int j] ∧ -(2 ^ 62) ≤ j ∧ j < 2 ^ 62 ∧ R (Itr 0 j.toNat) H
def jR2 (vs : List V) (H : Hp) (R : It → Hp → Prop) : Prop := ∃ i j : Int, vs = [.int i, .int j] ∧ (-(2 ^ 62) ≤ i ∧ i < 2 ^ 62 ∧ -(2 ^ 62) ≤ j ∧ j < 2 ^ 62) ∧ R (Itr i (j - i).toNat) H
def jZip (K : PySem.W.Frag) (vs : List V) (H : Hp) (R : It → Hp → Prop) : Prop := ∃ a b, vs = [.ref a, .ref b] ∧ (∃ xs, SqL K H a xs) ∧ (∃ ys, SqL K H b ys) ∧ R (Itz K a b) H
section
variable {K : PySem.W.Frag} {σ : St} {H : Hp} {R : It → Hp → Prop} {tl te : TE} {ta : TA} {a b : Addr} {xs ys : List V} {wi : TI} {g : TG} {tb : TS} {D : Ends} {tc : TT} {n : Nat} {ix : List Nat} {Q : VK}
theorem s_for (h : wi σ H fun J H1 => ForW J g tb D σ H1) : tFor wi g tb D σ H := h
theorem s_comp {σ' : St} (e : capV n ix σ = σ') (h : wi σ H fun J H1 => ∀ acc, H1 acc = none → CompW J acc g tc te σ' H1 Q) : tComp n ix wi g tc te σ H Q := by
  subst e
  exact h
theorem s_iList (h : tl σ H fun x H1 => jList K x H1 R) : iList K tl σ H R := h
theorem s_iR1 (h : ta σ H fun vs H1 => jR1 vs H1 R) : iRng1 ta σ H R := h
theorem s_iR2 (h : ta σ H fun vs H1 => jR2 vs H1 R) : iRng2 ta σ H R := h
theorem s_iZip (h : ta σ H fun vs H1 => jZip K vs H1 R) : iZip K ta σ H R := h
theorem s_jList (h : SqL K H a xs) (q : R (Itl K a) H) : jList K (.ref a) H R := ⟨a, rfl, ⟨xs, h⟩, q⟩
theorem s_jR1 {j : Int} (h : -(2 ^ 62) ≤ j ∧ j < 2 ^ 62) (q : R (Itr 0 j.toNat) H) : jR1 [.int j] H R := ⟨j, rfl, h.1, h.2, q⟩
theorem s_jR2 {i j : Int} (h1 : -(2 ^ 62) ≤ i ∧ i < 2 ^ 62) (h2 : -(2 ^ 62) ≤ j ∧ j < 2 ^ 62) (q : R (Itr i (j - i).toNat) H) : jR2 [.int i, .int j] H R := ⟨i, j, rfl, ⟨h1.1, h1.2, h2.1, h2.2⟩, q⟩
theorem s_jZip (h1 : SqL K H a xs) (h2 : SqL K H b ys) (q : R (Itz K a b) H) : jZip K [.ref a, .ref b] H R := ⟨a, b, rfl, ⟨xs, h1⟩, ⟨ys, h2⟩, q⟩
/-- slices -/
theorem s_sl {r : V → Option Int → Option Int → Hp → VK → Prop} {lo hi : TO} (h : te σ H fun x H1 => lo σ H1 fun l H2 => hi σ H2 fun u H3 => r x l u H3 Q) : tSl r te lo hi σ H Q := h
theorem s_noPart {P : Option Int → Hp → Prop} (h : P none H) : tNoPart σ H P := h
theorem s_part {P : Option Int → Hp → Prop} (h : te σ H fun x H1 => ∃ i, x = .int i ∧ P (some i) H1) : tPart te σ H P := h
theorem s_exI {P : Int → Prop} {i : Int} (h : P i) : ∃ j, V.int i = .int j ∧ P j := ⟨i, rfl, h⟩
theorem s_slL {lo hi : Option Int} (h : SqL K H a xs) (q : ∀ p H', H p = none → Same H H' → H' p = some (.lst (cutV xs lo hi)) → Q (.ref p) H') : rSlL K (.ref a) lo hi H Q := ⟨a, xs, rfl, h, fun p hp => q p _ hp (Same.new hp) upd_same⟩
theorem s_slT {lo hi : Option Int} (h : SqT K H a xs) (hw : ¬ (HT.sIx xs.length 0 lo = 0 ∧ HT.sIx xs.length xs.length hi = xs.length)) (q : ∀ p H', H p = none → Same H H' → H' p = some (.tup (cutV xs lo hi)) → Q (.ref p) H') : rSlT K (.ref a) lo hi H Q := ⟨a, xs, rfl, h, hw, fun p hp => q p _ hp (Same.new hp) upd_same⟩
theorem cut_to {k : Nat} : cutV xs none (some (k : Int)) = xs.take k := by
  unfold cutV
  rw [HT.sIx_none, HT.sIx_nat, List.drop_zero, Nat.sub_zero, Nat.min_comm]
  rw [← List.take_take]
  exact List.take_of_length_le (by rw [List.length_take]; omega)
theorem cut_from {k : Nat} : cutV xs (some (k : Int)) none = xs.drop k := by
  unfold cutV
  rw [HT.sIx_none, HT.sIx_nat]
  by_cases h : k ≤ xs.length
  · rw [Nat.min_eq_left h]
    exact List.take_of_length_le (by rw [List.length_drop]; omega)
  · rw [Nat.min_eq_right (by omega), List.drop_length, List.take_nil]
    exact (List.drop_eq_nil_of_le (by omega)).symm
/-- unpacking -/
theorem s_gt2 {t : Addr} {v w : V} {i j : Nat} {σ' : St} {P : St → Hp → Prop} (h : SqT K H t [v, w]) (e : (σ.set i (some v)).set j (some w) = σ') (q : P σ' H) : gTup K 2 (gCons (gName i) (gCons (gName j) gNil)) (.ref t) σ H P := by
  subst e
  exact ⟨t, [v, w], rfl, h, rfl, v, [w], rfl, w, [], rfl, rfl, q⟩
theorem s_gt5 {t : Addr} {v1 v2 v3 v4 v5 : V} {i1 i2 i3 i4 i5 : Nat} {σ' : St} {P : St → Hp → Prop} (h : SqT K H t [v1, v2, v3, v4, v5]) (e : ((((σ.set i1 (some v1)).set i2 (some v2)).set i3 (some v3)).set i4 (some v4)).set i5 (some v5) = σ') (q : P σ' H) :
    gTup K 5 (gCons (gName i1) (gCons (gName i2) (gCons (gName i3) (gCons (gName i4) (gCons (gName i5) gNil))))) (.ref t) σ H P := by
  subst e
  exact ⟨t, [v1, v2, v3, v4, v5], rfl, h, rfl, v1, _, rfl, v2, _, rfl, v3, _, rfl, v4, _, rfl, v5, _, rfl, rfl, q⟩
theorem s_asgG (h : te σ H fun x H1 => g x σ H1 D.nx) : tAsg te g D σ H := h
/-- xs[k] = v -/
theorem s_gsub {to ti : TE} {v : V} {P : St → Hp → Prop} (h : to σ H fun o H1 => ti σ H1 fun i H2 => rSetL o i v H2 fun H3 => P σ H3) : gSub to ti rSetL v σ H P := h
theorem s_setL {p : Addr} {k : Nat} {v : V} {P : Hp → Prop} (h : H p = some (.lst xs)) (hk : k < xs.length) (q : P (upd H p (.lst (xs.set k v)))) : rSetL (.ref p) (.int (k : Int)) v H P := by
  refine ⟨p, xs, _, k, rfl, rfl, h, ?_, q⟩
  unfold ixN
  rw [if_pos (by omega), if_pos (by omega)]
  rfl
end
section
variable {K : PySem.W.Frag} {a b acc : Addr} {xs ys : List V} {g : TG} {tb : TS} {tc : TT} {te : TE} {D : Ends} {σ : St} {H : Hp} {Q : VK} {lo : Int} {n : Nat}
/-- what a turn of a block comes to -/
abbrev blk (acc : Addr) (tc : TT) (te : TE) (N : St → Hp → Prop) : St → Hp → Prop := fun σ3 H3 => tc σ3 H3 fun ok H4 => if ok = true then te σ3 H4 fun v H5 => ∃ ys, H5 acc = some (.lst ys) ∧ ys.length < sizeLine ∧ N σ3 (upd H5 acc (.lst (ys ++ [v]))) else N σ3 H4
theorem comp_range (Pv : Nat → St → Hp → Prop) (h0 : Pv 0 σ (upd H acc (.lst []))) (hs : ∀ i σ H, i < n → Pv i σ H → g (.int (lo + i)) σ H (blk acc tc te (Pv (i + 1)))) (hd : ∀ σ H, Pv n σ H → Q (.ref acc) H) :
    ∃ W : Nat → Nat → St → Hp → Prop, (∃ m, W 0 m σ (upd H acc (.lst []))) ∧ ∀ i m σ' H', W i m σ' H' → ((Itr lo n).stop i H' ∧ Q (.ref acc) H') ∨ ((Itr lo n).go i H' ∧ ∃ N : St → Hp → Prop, (∀ σ2 H2, N σ2 H2 → ∃ m', m' < m ∧ W (i + 1) m' σ2 H2) ∧
      ∀ x H2, (Itr lo n).yld i H' x H2 → g x σ' H2 (blk acc tc te N)) := by
  refine ⟨fun i m σ H => m = n - i ∧ i ≤ n ∧ Pv i σ H, ⟨n, by simp, Nat.zero_le _, h0⟩, ?_⟩
  rintro i m σ' H' ⟨rfl, hi, p⟩
  by_cases hlt : i < n
  · refine .inr ⟨hlt, Pv (i + 1), fun σ2 H2 p' => ⟨n - (i + 1), by omega, rfl, hlt, p'⟩, fun x H2 y => ?_⟩
    obtain ⟨e, y⟩ := y
    subst e y
    exact hs i σ' _ hlt p
  · have e : i = n := by omega
    subst e
    exact .inl ⟨Nat.le_refl _, hd σ' H' p⟩
/-- for x, y in zip(xs, ys), as long as one another -/
theorem for_zip (hxy : xs.length = ys.length) (Pv : Nat → St → Hp → Prop) (h0 : Pv 0 σ H) (hl : ∀ i σ H, i ≤ xs.length → Pv i σ H → SqL K H a xs ∧ SqL K H b ys)
    (hs : ∀ i x y t σ H H', xs[i]? = some x → ys[i]? = some y → Pv i σ H → Same H H' → H' t = some (.tup [x, y]) → g (.ref t) σ H' fun σ2 H2 => tb { D with nx := Pv (i + 1), ct := Pv (i + 1), bk := D.nx } σ2 H2) (hd : ∀ σ H, Pv xs.length σ H → D.nx σ H) :
    ∃ W : Nat → Nat → St → Hp → Prop, (∃ m, W 0 m σ H) ∧ ∀ i m σ H, W i m σ H →
      ((Itz K a b).stop i H ∧ D.nx σ H) ∨ ((Itz K a b).go i H ∧ ∃ N : St → Hp → Prop, (∀ σ' H', N σ' H' → ∃ m', m' < m ∧ W (i + 1) m' σ' H') ∧ ∀ x H', (Itz K a b).yld i H x H' → g x σ H' fun σ2 H2 => tb { D with nx := N, ct := N, bk := D.nx } σ2 H2) := by
  refine ⟨fun i m σ H => m = xs.length - i ∧ i ≤ xs.length ∧ Pv i σ H, ⟨_, rfl, Nat.zero_le _, h0⟩, ?_⟩
  rintro i m σ' H' ⟨rfl, hi, p⟩
  obtain ⟨q1, q2⟩ := hl i σ' H' hi p
  by_cases hlt : i < xs.length
  · have hlt2 : i < ys.length := by omega
    refine .inr ⟨⟨xs, ys, xs[i], ys[i], q1, q2, by simp [hlt], by simp [hlt2]⟩, Pv (i + 1), fun σ2 H2 p' => ⟨xs.length - (i + 1), by omega, rfl, hlt, p'⟩, fun v H2 y => ?_⟩
    obtain ⟨x, y', t, hx, hy, rfl, ht, rfl⟩ := y
    exact hs i x y' t σ' H' _ (hx xs q1) (hy ys q2) p (Same.new ht) upd_same
  · have e : i = xs.length := by omega
    subst e
    exact .inl ⟨⟨xs, ys, q1, q2, .inl (Nat.le_refl _)⟩, hd σ' H' p⟩
end
end L2

end

section
set_option maxHeartbeats 1000000
namespace K3
open PySem L2 Fr
theorem tyOf_same {K : PySem.W.Frag} {H H' : Hp} {x : V} {T : String} (s : Same H H') (h : TyOf K H x (.type T)) : TyOf K H' x (.type T) := by
  cases h with
  | non => exact .non
  | bl b => exact .bl b
  | int i => exact .int i
  | str y => exact .str y
  | flt y => exact .flt y
  | lst e => exact .lst (s _ _ e)
  | frz e => exact .frz (s _ _ e)
  | tup e => exact .tup (s _ _ e)
  | dK e => exact .dK (s _ _ e)
  | dT e => exact .dT (s _ _ e)
/-- whether two values make a fraction -/
def fr2 : V → V → Bool
  | .int t, .int b => decide (0 < b) && decide (Int.gcd t b = 1)
  | _, _ => false
inductive IsF (K : PySem.W.Frag) (H : Hp) : V → Bool → Prop where
  | two {a : Addr} {x y : V} {T U : String} (h : H a = some (.tup [x, y])) (hx : TyOf K H x (.type T)) (hy : TyOf K H y (.type U)) : IsF K H (.ref a) (fr2 x y)
  | long {a : Addr} {xs : List V} (h : H a = some (.tup xs)) (n : xs.length ≠ 2) : IsF K H (.ref a) false
  | no {x : V} {T : String} (h : TyOf K H x (.type T)) (n : T ≠ "tuple") : IsF K H x false
inductive FN (K : PySem.W.Frag) (H : Hp) : V → Bool → Prop where
  | no {x : V} (h : IsF K H x false) : FN K H x false
  | yes {a : Addr} {t b : Int} (h : H a = some (.tup [.int t, .int b])) (f : fr2 (.int t) (.int b) = true) : FN K H (.ref a) (decide (0 ≤ t))
def placeB (many : Int) : V → Bool
  | .int i => decide (0 ≤ i) && decide (i < many)
  | _ => false
def isBl : V → Bool
  | .bl _ => true
  | _ => false
def unl (many : Int) (x y : V) : Bool := placeB many x && (placeB many y && !decide (x = y))
inductive RoadB (K : PySem.W.Frag) (H : Hp) (many : Int) : List V → Bool → Prop where
  | len {xs : List V} (h : xs.length ≠ 5) : RoadB K H many xs false
  | five {s e ba sl la : V} {S E L : String} {b1 b2 : Bool} (hs : TyOf K H s (.type S)) (he : TyOf K H e (.type E)) (h1 : FN K H ba b1) (h2 : FN K H sl b2) (hl : TyOf K H la (.type L)) : RoadB K H many [s, e, ba, sl, la] (unl many s e && (b1 && (b2 && isBl la)))
def RdB (K : PySem.W.Frag) (H : Hp) (many : Int) (r : V) (b : Bool) : Prop := ∃ p xs, r = .ref p ∧ H p = some (.tup xs) ∧ RoadB K H many xs b
def FrG (H : Hp) (v : V) (x y : Int) : Prop := FrV H v x y ∧ 0 ≤ x ∧ 0 < y ∧ Int.gcd x y = 1
structure GoodR (H : Hp) (many s e : Int) (v1 v2 : V) : Prop where
  s0 : 0 ≤ s
  s1 : s < many
  e0 : 0 ≤ e
  e1 : e < many
  ne : s ≠ e
  f1 : ∃ x y, FrG H v1 x y
  f2 : ∃ x y, FrG H v2 x y
def GoodV (H : Hp) (many : Int) (r : V) : Prop := ∃ p s e v1 v2 la, r = .ref p ∧ H p = some (.tup [.int s, .int e, v1, v2, .bl la]) ∧ GoodR H many s e v1 v2
def manyB : V → Bool
  | .int i => decide (2 ≤ i) && decide (i ≤ 6)
  | _ => false
def NetBad (K : PySem.W.Frag) (H : Hp) (m : V) (rs : List V) : Prop := manyB m = false ∨ 12 < rs.length ∨ ∃ many, m = .int many ∧ (∀ r ∈ rs, ∃ b, RdB K H many r b) ∧ ∃ r ∈ rs, RdB K H many r false
def spWhole (K : PySem.W.Frag) : Sp := fun vs H Q _ => ∃ x T, vs = [x] ∧ TyOf K H x (.type T) ∧ Q (.bl (isInt x)) H
def spGcd : Sp := fun vs H Q _ => ∃ a b : Int, vs = [.int a, .int b] ∧ 0 ≤ a ∧ 0 ≤ b ∧ Q (.int (Int.gcd a b)) H
def spIsF (K : PySem.W.Frag) : Sp := fun vs H Q _ => ∃ x b, vs = [x] ∧ IsF K H x b ∧ Q (.bl b) H
def spFN (K : PySem.W.Frag) : Sp := fun vs H Q _ => ∃ x b, vs = [x] ∧ FN K H x b ∧ Q (.bl b) H
def spPlace (K : PySem.W.Frag) : Sp := fun vs H Q _ => ∃ (many : Int) (x : V) (T : String), vs = [.int many, x] ∧ TyOf K H x (.type T) ∧ Q (.bl (placeB many x)) H
def spUnlike (K : PySem.W.Frag) : Sp := fun vs H Q _ => ∃ (many : Int) (x y : V) (S T : String), vs = [.int many, x, y] ∧ TyOf K H x (.type S) ∧ TyOf K H y (.type T) ∧ Q (.bl (unl many x y)) H
def spFault (K : PySem.W.Frag) : Sp := fun vs H Q _ => ∃ (many : Int) (p : Addr) (xs : List V) (b : Bool), vs = [.int many, .ref p] ∧ H p = some (.tup xs) ∧ RoadB K H many xs b ∧ (b = true → Q .non H) ∧ (b = false → ∀ y : Str, y.length ≤ 100 → Q (.str y) H)
def spMade (K : PySem.W.Frag) (c : Cs) : Sp := fun vs H Q E => ∃ (m : V) (l : Addr) (rs : List V) (T : String), vs = [m, .ref l] ∧ TyOf K H m (.type T) ∧ SqL K H l rs ∧
  ((∃ many : Int, m = .int many ∧ 2 ≤ many ∧ many ≤ 6 ∧ rs.length ≤ 12 ∧ (∀ r ∈ rs, RdB K H many r true) ∧ ∀ p l' H', Same H H' → H' p = some (.tup [.int many, .ref l']) → H' l' = some (.lst rs) → H l' = none → Q (.ref p) H') ∨
   (NetBad K H m rs ∧ ∀ H', Same H H' → E (.ref c.NoNet) none H'))
def spCell (K : PySem.W.Frag) : Sp := fun vs H Q _ => ∃ (a : Addr) (ns : List Int) (k : Int), vs = [.ref a, .int k] ∧ SqL K H a (ns.map V.int) ∧ 0 ≤ k ∧ ∀ z : Int, Q (.int z) H
def spLFrac (K : PySem.W.Frag) : Sp := fun vs H Q _ => ∃ n : Int, vs = [.int n] ∧ 0 ≤ n ∧ n < 2 ^ 40 ∧ ∀ x y v H', Same H H' → FrG H' v x y → Q v H'
def spLRoad (K : PySem.W.Frag) : Sp := fun vs H Q _ => ∃ cl many : Int, vs = [.int cl, .int many] ∧ 2 ≤ many ∧ many ≤ 6 ∧ ∀ v H', Same H H' → GoodV H' many v → Q v H'
def spLRoads (K : PySem.W.Frag) : Sp := fun vs H Q _ => ∃ (a : Addr) (ns : List Int) (many : Int), vs = [.ref a, .int many] ∧ SqL K H a (ns.map V.int) ∧ ns.length ≤ 63 ∧ 2 ≤ many ∧ many ≤ 6 ∧
  ∀ l rs H', H l = none → Same H H' → H' l = some (.lst rs) → rs.length ≤ 12 → (∀ r ∈ rs, GoodV H' many r) → Q (.ref l) H'
def spOdd (K : PySem.W.Frag) : Sp := fun vs H Q _ => ∃ n : Int, vs = [.int n] ∧ ∀ v T H', Same H H' → TyOf K H' v (.type T) → isInt v = false → Q v H'
def spNoFr (K : PySem.W.Frag) : Sp := fun vs H Q _ => ∃ n : Int, vs = [.int n] ∧ ∀ v H', Same H H' → FN K H' v false → Q v H'
def spRoadOff (K : PySem.W.Frag) : Sp := fun vs H Q _ => ∃ (r : V) (many n : Int), vs = [r, .int many, .int n] ∧ GoodV H many r ∧ 2 ≤ many ∧ 0 ≤ n ∧ n < 2 ^ 40 ∧ ∀ v H', Same H H' → RdB K H' many v false → Q v H'
def spOff (K : PySem.W.Frag) : Sp := fun vs H Q _ => ∃ (many : Int) (l : Addr) (rs : List V) (n : Int), vs = [.int many, .ref l, .int n] ∧ SqL K H l rs ∧ rs.length ≤ 12 ∧ 2 ≤ many ∧ many ≤ 6 ∧ (∀ r ∈ rs, GoodV H many r) ∧ 0 ≤ n ∧ n < 2 ^ 40 ∧
  ∀ p m' l' rs' T H', Same H H' → H' p = some (.lst [m', .ref l']) → SqL K H' l' rs' → TyOf K H' m' (.type T) → NetBad K H' m' rs' → rs'.all plainV = true → rs'.length ≤ 20 → Q (.ref p) H'
def spRefused (K : PySem.W.Frag) : Sp := fun vs H Q _ => ∃ (m : V) (l : Addr) (rs : List V), vs = [m, .ref l] ∧ (∃ T, TyOf K H m (.type T)) ∧ SqL K H l rs ∧ NetBad K H m rs ∧ ∀ H', Same H H' → Q (.bl true) H'
def spGood (K : PySem.W.Frag) : Sp := fun vs H Q _ => ∃ (p l l' : Addr) (many : Int) (rs : List V), vs = [.ref p, .int many, .ref l] ∧ H p = some (.tup [.int many, .ref l']) ∧ H l' = some (.lst rs) ∧ SqL K H l rs ∧ (∀ r ∈ rs, GoodV H many r) ∧ ∀ H', Same H H' → Q (.bl true) H'
def spLaw (K : PySem.W.Frag) : Sp := fun vs H Q _ => ∃ (a : Addr) (ns : List Int), vs = [.ref a] ∧ SqL K H a (ns.map V.int) ∧ ns.length ≤ 63 ∧ ∀ H', Q (.bl true) H'
abbrev t_is_whole (K : PySem.W.Frag) : TS :=
  (tRet (tAndV (tCB (rIsi K) (tCons (tVar 0) (tCons (tC (.ty "int")) tNil))) (tNotV (tCB (rIsi K) (tCons (tVar 0) (tCons (tC (.ty "bool")) tNil))))))
abbrev t_common_divisor (K : PySem.W.Frag) : TS :=
  (tSeq (tWhile (tTest (tOp (rNeA K) (tVar 1) (tC (.int 0)))) (tSeq (tAsg (tOp (rI (fun _ j => 0 < j) fun i j => .int (i % j)) (tVar 0) (tVar 1)) (gName 2))
    (tSeq (tAsg (tVar 1) (gName 0))
    (tAsg (tVar 2) (gName 1)))))
    (tRet (tVar 0)))
abbrev t_is_fraction (K : PySem.W.Frag) : TS :=
  (tSeq (tIfS (tOr (tNot (tB (tCB (rIsi K) (tCons (tVar 0) (tCons (tC (.ty "tuple")) tNil))))) (tTest (tOp (rNeA K) (tCB (rLen K) (tCons (tVar 0) tNil)) (tC (.int 2))))) (tRet (tC (.bl false))) tNext)
    (tSeq (tAsg (tOp (rIx K) (tVar 0) (tC (.int 0))) (gName 1))
    (tSeq (tAsg (tOp (rIx K) (tVar 0) (tC (.int 1))) (gName 2))
    (tSeq (tIfS (tOr (tNot (tB (tCall (spWhole K) [] E0 (tCons (tVar 1) tNil)))) (tNot (tB (tCall (spWhole K) [] E0 (tCons (tVar 2) tNil))))) (tRet (tC (.bl false))) tNext)
    (tRet (tAndV (tOp (rI0 fun i j => .bl (decide (j < i))) (tVar 2) (tC (.int 0))) (tOp (rEqA K) (tCall spGcd [] E0 (tCons (tCB rAbs (tCons (tVar 1) tNil)) (tCons (tVar 2) tNil))) (tC (.int 1)))))))))
abbrev t_is_from_nought (K : PySem.W.Frag) : TS :=
  (tRet (tAndV (tCall (spIsF K) [] E0 (tCons (tVar 0) tNil)) (tOp (rI0 fun i j => .bl (decide (j ≤ i))) (tOp (rIx K) (tVar 0) (tC (.int 0))) (tC (.int 0)))))
abbrev t_is_number_of (K : PySem.W.Frag) : TS :=
  (tRet (tAndV (tCall (spWhole K) [] E0 (tCons (tVar 1) tNil)) (tChain (rI0 fun i j => .bl (decide (i ≤ j))) (rI0 fun i j => .bl (decide (i < j))) (tC (.int 0)) (tVar 1) (tVar 0))))
abbrev t_are_unlike_places (K : PySem.W.Frag) : TS :=
  (tRet (tAndV (tCall (spPlace K) [] E0 (tCons (tVar 0) (tCons (tVar 1) tNil))) (tAndV (tCall (spPlace K) [] E0 (tCons (tVar 0) (tCons (tVar 2) tNil))) (tOp (rNeA K) (tVar 1) (tVar 2)))))
abbrev t_road_fault (K : PySem.W.Frag) : TS :=
  (tSeq (tIfS (tTest (tOp (rNeA K) (tCB (rLen K) (tCons (tVar 1) tNil)) (tC (.int 5)))) (tRet (tC (.str "it has not five things"))) tNext)
    (tSeq (tIfS (tNot (tB (tCall (spUnlike K) [] E0 (tCons (tVar 0) (tCons (tOp (rIx K) (tVar 1) (tC (.int 0))) (tCons (tOp (rIx K) (tVar 1) (tC (.int 1))) tNil)))))) (tRet (tC (.str "its start and its end are not two unlike places"))) tNext)
    (tSeq (tIfS (tNot (tB (tCall (spFN K) [] E0 (tCons (tOp (rIx K) (tVar 1) (tC (.int 2))) tNil)))) (tRet (tC (.str "its base is no fraction from nought on"))) tNext)
    (tSeq (tIfS (tNot (tB (tCall (spFN K) [] E0 (tCons (tOp (rIx K) (tVar 1) (tC (.int 3))) tNil)))) (tRet (tC (.str "its slope is no fraction from nought on"))) tNext)
    (tSeq (tIfS (tNot (tB (tCB (rIsi K) (tCons (tOp (rIx K) (tVar 1) (tC (.int 4))) (tCons (tC (.ty "bool")) tNil))))) (tRet (tC (.str "whether it is a lane is told by no truth"))) tNext)
    (tRet (tC .non)))))))
abbrev t_made_net (K : PySem.W.Frag) (c : Cs) (E : XK) : TS :=
  (tSeq (tIfS (tNot (tAnd (tB (tCall (spWhole K) [] E0 (tCons (tVar 0) tNil))) (tTest (tChain (rI0 fun i j => .bl (decide (i ≤ j))) (rI0 fun i j => .bl (decide (i ≤ j))) (tC (.int 2)) (tVar 0) (tC (.int 6)))))) (tRaise c.NoNet E (tCons (tC (.str "the places are not two to six")) tNil)) tNext)
    (tSeq (tIfS (tTest (tOp (rI0 fun i j => .bl (decide (j < i))) (tCB (rLen K) (tCons (tVar 1) tNil)) (tC (.int 12)))) (tRaise c.NoNet E (tCons (tC (.str "there are more than twelve roads")) tNil)) tNext)
    (tSeq (tFor (iEnum K (tCons (tVar 1) tNil)) (gTup K 2 (gCons (gName 2) (gCons (gName 3) gNil))) (tSeq (tAsg (tCall (spFault K) [] E0 (tCons (tVar 0) (tCons (tVar 3) tNil))) (gName 4))
    (tIfS (tTest (tOp rNotN (tVar 4) (tC .non))) (tRaise c.NoNet E (tCons (tJoin (jCons (tC (.str "road ")) (jCons (tFmt (tVar 2)) (jCons (tC (.str ": ")) (jCons (tFmt (tVar 4)) jNil))))) tNil)) tNext)))
    (tRet (tTup (tCons (tVar 0) (tCons (tCB (rListOf K) (tCons (tVar 1) tNil)) tNil)))))))
abbrev t__law_cell (K : PySem.W.Frag) : TS :=
  (tSeq (tIfS (tTest (tOp (rI0 fun i j => .bl (decide (i < j))) (tVar 1) (tCB (rLen K) (tCons (tVar 0) tNil)))) (tRet (tOp (rIx K) (tVar 0) (tVar 1))) tNext)
    (tRet (tC (.int 0))))
abbrev t__law_whole (K : PySem.W.Frag) : TS :=
  (tRet (tAndV (tCB (rIsi K) (tCons (tVar 0) (tCons (tC (.ty "int")) tNil))) (tNotV (tCB (rIsi K) (tCons (tVar 0) (tCons (tC (.ty "bool")) tNil))))))
abbrev t__law_divisor (K : PySem.W.Frag) : TS :=
  (tSeq (tWhile (tTest (tOp (rNeA K) (tVar 1) (tC (.int 0)))) (tPar 0 1 (tCons (tVar 1) (tCons (tOp (rI (fun _ j => 0 < j) fun i j => .int (i % j)) (tVar 0) (tVar 1)) tNil))))
    (tRet (tVar 0)))
abbrev t__law_fraction (K : PySem.W.Frag) : TS :=
  (tSeq (tIfS (tTest (tOp (rEqA K) (tOp (rI (fun _ j => 0 < j) fun i j => .int (i % j)) (tVar 0) (tC (.int 4))) (tC (.int 0)))) (tRet (tTup (tCons (tC (.int 0)) (tCons (tC (.int 1)) tNil)))) tNext)
    (tSeq (tAsg (tOp (rAddA K) (tC (.int 1)) (tOp (rI (fun _ j => 0 < j) fun i j => .int (i % j)) (tOp (rI CDivB fun i j => .int (i.fdiv j)) (tVar 0) (tC (.int 4))) (tC (.int 12)))) (gName 1))
    (tSeq (tAsg (tOp (rI (fun _ j => 0 < j) fun i j => .int (i % j)) (tOp (rI CDivB fun i j => .int (i.fdiv j)) (tVar 0) (tC (.int 48))) (tC (.int 25))) (gName 2))
    (tSeq (tIfS (tTest (tOp (rEqA K) (tOp (rI (fun _ j => 0 < j) fun i j => .int (i % j)) (tVar 0) (tC (.int 4))) (tC (.int 3)))) (tAsg (tOp (rI (fun _ j => 0 < j) fun i j => .int (i % j)) (tOp (rI CMulX fun i j => .int (i * j)) (tOp (rI CMulX fun i j => .int (i * j)) (tVar 0) (tVar 0)) (tC (.int 6700417))) (tOp (rI CPow fun i j => .int (i ^ j.toNat)) (tC (.int 10)) (tC (.int 18)))) (gName 2)) tNext)
    (tSeq (tAsg (tCall spGcd [] E0 (tCons (tVar 2) (tCons (tVar 1) tNil))) (gName 3))
    (tRet (tTup (tCons (tOp (rI CDivB fun i j => .int (i.fdiv j)) (tVar 2) (tVar 3)) (tCons (tOp (rI CDivB fun i j => .int (i.fdiv j)) (tVar 1) (tVar 3)) tNil)))))))))
abbrev t__law_road (K : PySem.W.Frag) : TS :=
  (tSeq (tAsg (tOp (rI (fun _ j => 0 < j) fun i j => .int (i % j)) (tOp (rI CMulX fun i j => .int (i * j)) (tVar 0) (tC (.int 1103515245))) (tC (.int 4294967291))) (gName 2))
    (tSeq (tAsg (tOp (rI (fun _ j => 0 < j) fun i j => .int (i % j)) (tVar 2) (tVar 1)) (gName 3))
    (tSeq (tAsg (tOp (rI (fun _ j => 0 < j) fun i j => .int (i % j)) (tOp (rAddA K) (tOp (rAddA K) (tVar 3) (tC (.int 1))) (tOp (rI (fun _ j => 0 < j) fun i j => .int (i % j)) (tOp (rI CDivB fun i j => .int (i.fdiv j)) (tVar 2) (tC (.int 6))) (tOp (rI0 fun i j => .int (i - j)) (tVar 1) (tC (.int 1))))) (tVar 1)) (gName 4))
    (tSeq (tAsg (tCall (spLFrac K) [] E0 (tCons (tOp (rI CDivB fun i j => .int (i.fdiv j)) (tVar 2) (tC (.int 37))) tNil)) (gName 5))
    (tRet (tTup (tCons (tVar 3) (tCons (tVar 4) (tCons (tVar 5) (tCons (tCall (spLFrac K) [] E0 (tCons (tOp (rAddA K) (tOp (rI CDivB fun i j => .int (i.fdiv j)) (tVar 2) (tC (.int 41))) (tC (.int 1))) tNil)) (tCons (tOp (rEqA K) (tOp (rI (fun _ j => 0 < j) fun i j => .int (i % j)) (tOp (rI CDivB fun i j => .int (i.fdiv j)) (tVar 2) (tC (.int 43))) (tC (.int 3))) (tC (.int 1))) tNil)))))))))))
abbrev t__law_roads (K : PySem.W.Frag) : TS :=
  (tSeq (tAsg (tComp 1 [1, 0] (iRng2 (tCons (tC (.int 1)) (tCons (tCB rMin2 (tCons (tC (.int 13)) (tCons (tCB (rLen K) (tCons (tVar 0) tNil)) tNil))) tNil))) (gName 0) tNoIf (tCall (spLRoad K) [] E0 (tCons (tOp (rIx K) (tVar 2) (tVar 0)) (tCons (tVar 1) tNil)))) (gName 2))
    (tSeq (tFor (iRng2 (tCons (tC (.int 13)) (tCons (tCB (rLen K) (tCons (tVar 0) tNil)) tNil))) (gName 3) (tSeq (tAsg (tOp (rIx K) (tVar 2) (tOp (rI (fun _ j => 0 < j) fun i j => .int (i % j)) (tVar 3) (tC (.int 12)))) (gTup K 5 (gCons (gName 5) (gCons (gName 6) (gCons (gName 7) (gCons (gName 8) (gCons (gName 9) gNil)))))))
    (tSeq (tAsg (tOp (rI (fun _ j => 0 < j) fun i j => .int (i % j)) (tOp (rI CMulX fun i j => .int (i * j)) (tOp (rIx K) (tVar 0) (tVar 3)) (tC (.int 69621))) (tC (.int 2147483647))) (gName 4))
    (tSeq (tIfS (tTest (tOp (rEqA K) (tOp (rI (fun _ j => 0 < j) fun i j => .int (i % j)) (tOp (rI CDivB fun i j => .int (i.fdiv j)) (tVar 3) (tC (.int 12))) (tC (.int 2))) (tC (.int 1)))) (tAsg (tTup (tCons (tOp (rAddA K) (tOp (rIx K) (tVar 7) (tC (.int 0))) (tOp (rI CMulX fun i j => .int (i * j)) (tVar 4) (tOp (rIx K) (tVar 7) (tC (.int 1))))) (tCons (tOp (rIx K) (tVar 7) (tC (.int 1))) tNil))) (gName 7)) (tAsg (tTup (tCons (tOp (rAddA K) (tOp (rIx K) (tVar 8) (tC (.int 0))) (tOp (rI CMulX fun i j => .int (i * j)) (tVar 4) (tOp (rIx K) (tVar 8) (tC (.int 1))))) (tCons (tOp (rIx K) (tVar 8) (tC (.int 1))) tNil))) (gName 8)))
    (tAsg (tTup (tCons (tVar 5) (tCons (tVar 6) (tCons (tVar 7) (tCons (tVar 8) (tCons (tVar 9) tNil)))))) (gSub (tVar 2) (tOp (rI (fun _ j => 0 < j) fun i j => .int (i % j)) (tVar 3) (tC (.int 12))) rSetL))))))
    (tSeq (tIfS (tTest (tOp (rEqA K) (tOp (rI (fun _ j => 0 < j) fun i j => .int (i % j)) (tOp (rI CDivB fun i j => .int (i.fdiv j)) (tCall (spCell K) [] E0 (tCons (tVar 0) (tCons (tC (.int 0)) tNil))) (tC (.int 5))) (tC (.int 8))) (tC (.int 1)))) (tAsg (tOp (rAddA K) (tVar 2) (tComp 1 [1] (iRng1 (tCons (tOp (rI0 fun i j => .int (i - j)) (tC (.int 12)) (tCB (rLen K) (tCons (tVar 2) tNil))) tNil)) (gName 0) tNoIf (tCall (spLRoad K) [] E0 (tCons (tOp (rAddA K) (tOp (rI CMulX fun i j => .int (i * j)) (tVar 0) (tVar 0)) (tOp (rI CMulX fun i j => .int (i * j)) (tC (.int 7)) (tVar 0))) (tCons (tVar 1) tNil))))) (gName 2)) tNext)
    (tRet (tVar 2)))))
abbrev t__law_odd (K : PySem.W.Frag) : TS :=
  (tRet (tOp (rIx K) (tLst (tCons (tC .non) (tCons (tC (.bl true)) (tCons (tC (.bl false)) (tCons (tC (.str "1")) (tCons (tTup (tCons (tC (.int 1)) (tCons (tC (.int 1)) tNil))) (tCons (tLst (tCons (tC (.int 1)) tNil)) (tCons tDict0 (tCons (tC (.str "")) tNil))))))))) (tOp (rI (fun _ j => 0 < j) fun i j => .int (i % j)) (tVar 0) (tC (.int 8)))))
abbrev t__law_no_fraction (K : PySem.W.Frag) : TS :=
  (tSeq (tAsg (tLst (tCons (tTup (tCons (tUn (rU fun i => .int (-i)) (tC (.int 1))) (tCons (tOp (rAddA K) (tC (.int 1)) (tOp (rI (fun _ j => 0 < j) fun i j => .int (i % j)) (tOp (rI CDivB fun i j => .int (i.fdiv j)) (tVar 0) (tC (.int 12))) (tC (.int 7)))) tNil))) (tCons (tTup (tCons (tC (.int 2)) (tCons (tC (.int 4)) tNil))) (tCons (tTup (tCons (tC (.int 0)) (tCons (tC (.int 2)) tNil))) (tCons (tTup (tCons (tC (.int 1)) (tCons (tC (.int 0)) tNil))) (tCons (tTup (tCons (tC (.int 1)) (tCons (tUn (rU fun i => .int (-i)) (tC (.int 3))) tNil))) (tCons (tC (.int 1)) (tCons (tC .non) (tCons (tC (.bl true)) (tCons (tC (.str "1")) (tCons (tLst (tCons (tC (.int 1)) (tCons (tC (.int 2)) tNil))) (tCons (tTup (tCons (tC (.int 1)) (tCons (tC (.int 2)) (tCons (tC (.int 1)) tNil)))) tNil)))))))))))) (gName 1))
    (tRet (tOp (rIx K) (tOp (rAddA K) (tVar 1) (tLst (tCons (tTup (tCons (tC (.bl true)) (tCons (tC (.int 1)) tNil))) tNil))) (tOp (rI (fun _ j => 0 < j) fun i j => .int (i % j)) (tVar 0) (tC (.int 12))))))
abbrev t__law_road_off (K : PySem.W.Frag) : TS :=
  (tSeq (tAsg (tOp (rI (fun _ j => 0 < j) fun i j => .int (i % j)) (tVar 2) (tC (.int 9))) (gName 3))
    (tSeq (tAsg (tCB (rListOf K) (tCons (tVar 0) tNil)) (gName 4))
    (tSeq (tIfS (tTest (tOp (rEqA K) (tVar 3) (tC (.int 0)))) (tRet (tOp (rIx K) (tLst (tCons (tSl (rSlT K) (tVar 0) tNoPart (tPart (tC (.int 4)))) (tCons (tOp (rAddA K) (tVar 0) (tTup (tCons (tC (.bl false)) tNil))) tNil))) (tOp (rI (fun _ j => 0 < j) fun i j => .int (i % j)) (tOp (rI CDivB fun i j => .int (i.fdiv j)) (tVar 2) (tC (.int 9))) (tC (.int 2))))) tNext)
    (tSeq (tIfS (tTest (tOp (rEqA K) (tVar 3) (tC (.int 1)))) (tAsg (tOp (rI0 fun i j => .int (i - j)) (tUn (rU fun i => .int (-i)) (tC (.int 1))) (tOp (rI CMulX fun i j => .int (i * j)) (tOp (rI (fun _ j => 0 < j) fun i j => .int (i % j)) (tOp (rI CDivB fun i j => .int (i.fdiv j)) (tVar 2) (tC (.int 18))) (tC (.int 2))) (tOp (rI CDivB fun i j => .int (i.fdiv j)) (tVar 2) (tC (.int 36))))) (gSub (tVar 4) (tOp (rI (fun _ j => 0 < j) fun i j => .int (i % j)) (tOp (rI CDivB fun i j => .int (i.fdiv j)) (tVar 2) (tC (.int 9))) (tC (.int 2))) rSetL)) tNext)
    (tSeq (tIfS (tTest (tOp (rEqA K) (tVar 3) (tC (.int 2)))) (tAsg (tOp (rAddA K) (tVar 1) (tOp (rI CMulX fun i j => .int (i * j)) (tOp (rI (fun _ j => 0 < j) fun i j => .int (i % j)) (tOp (rI CDivB fun i j => .int (i.fdiv j)) (tVar 2) (tC (.int 18))) (tC (.int 2))) (tOp (rI CDivB fun i j => .int (i.fdiv j)) (tVar 2) (tC (.int 36))))) (gSub (tVar 4) (tOp (rI (fun _ j => 0 < j) fun i j => .int (i % j)) (tOp (rI CDivB fun i j => .int (i.fdiv j)) (tVar 2) (tC (.int 9))) (tC (.int 2))) rSetL)) tNext)
    (tSeq (tIfS (tTest (tOp (rEqA K) (tVar 3) (tC (.int 3)))) (tAsg (tCall (spOdd K) [] E0 (tCons (tOp (rI CDivB fun i j => .int (i.fdiv j)) (tVar 2) (tC (.int 18))) tNil)) (gSub (tVar 4) (tOp (rI (fun _ j => 0 < j) fun i j => .int (i % j)) (tOp (rI CDivB fun i j => .int (i.fdiv j)) (tVar 2) (tC (.int 9))) (tC (.int 2))) rSetL)) tNext)
    (tSeq (tIfS (tTest (tOp (rEqA K) (tVar 3) (tC (.int 4)))) (tAsg (tOp (rIx K) (tVar 4) (tOp (rI0 fun i j => .int (i - j)) (tC (.int 1)) (tOp (rI (fun _ j => 0 < j) fun i j => .int (i % j)) (tOp (rI CDivB fun i j => .int (i.fdiv j)) (tVar 2) (tC (.int 9))) (tC (.int 2))))) (gSub (tVar 4) (tOp (rI (fun _ j => 0 < j) fun i j => .int (i % j)) (tOp (rI CDivB fun i j => .int (i.fdiv j)) (tVar 2) (tC (.int 9))) (tC (.int 2))) rSetL)) tNext)
    (tSeq (tIfS (tOr (tTest (tOp (rEqA K) (tVar 3) (tC (.int 5)))) (tTest (tOp (rEqA K) (tVar 3) (tC (.int 6))))) (tAsg (tCall (spNoFr K) [] E0 (tCons (tOp (rI CDivB fun i j => .int (i.fdiv j)) (tVar 2) (tC (.int 9))) tNil)) (gSub (tVar 4) (tOp (rI0 fun i j => .int (i - j)) (tVar 3) (tC (.int 3))) rSetL)) tNext)
    (tSeq (tIfS (tTest (tOp (rI0 fun i j => .bl (decide (j < i))) (tVar 3) (tC (.int 6)))) (tAsg (tOp (rIx K) (tLst (tCons (tC .non) (tCons (tC (.int 0)) (tCons (tC (.int 1)) (tCons (tC (.str "")) (tCons (tC (.str "True")) (tCons (tTup (tCons (tC (.bl true)) tNil)) (tCons (tLst (tCons (tC (.bl false)) tNil)) (tCons (tC (.int 2)) tNil))))))))) (tOp (rI (fun _ j => 0 < j) fun i j => .int (i % j)) (tOp (rI CDivB fun i j => .int (i.fdiv j)) (tVar 2) (tC (.int 9))) (tC (.int 8)))) (gSub (tVar 4) (tC (.int 4)) rSetL)) tNext)
    (tRet (tCB (rTupOf K) (tCons (tVar 4) tNil))))))))))))
abbrev t__law_off (K : PySem.W.Frag) : TS :=
  (tSeq (tIfS (tTest (tOp (rEqA K) (tOp (rI (fun _ j => 0 < j) fun i j => .int (i % j)) (tVar 2) (tC (.int 7))) (tC (.int 0)))) (tSeq (tAsg (tOp (rI CMulX fun i j => .int (i * j)) (tOp (rI (fun _ j => 0 < j) fun i j => .int (i % j)) (tOp (rI CDivB fun i j => .int (i.fdiv j)) (tVar 2) (tC (.int 49))) (tC (.int 2))) (tOp (rI CDivB fun i j => .int (i.fdiv j)) (tVar 2) (tC (.int 98)))) (gName 5))
    (tRet (tLst (tCons (tOp (rIx K) (tLst (tCons (tC (.int 0)) (tCons (tC (.int 1)) (tCons (tC (.int 7)) (tCons (tOp (rAddA K) (tC (.int 7)) (tVar 5)) (tCons (tOp (rI0 fun i j => .int (i - j)) (tUn (rU fun i => .int (-i)) (tC (.int 1))) (tVar 5)) (tCons (tCall (spOdd K) [] E0 (tCons (tOp (rI CDivB fun i j => .int (i.fdiv j)) (tVar 2) (tC (.int 7))) tNil)) tNil))))))) (tOp (rI (fun _ j => 0 < j) fun i j => .int (i % j)) (tOp (rI CDivB fun i j => .int (i.fdiv j)) (tVar 2) (tC (.int 7))) (tC (.int 6)))) (tCons (tVar 1) tNil))))) tNext)
    (tSeq (tIfS (tTest (tOp (rEqA K) (tOp (rI (fun _ j => 0 < j) fun i j => .int (i % j)) (tVar 2) (tC (.int 7))) (tC (.int 1)))) (tSeq (tAsg (tOp (rAddA K) (tOp (rI0 fun i j => .int (i - j)) (tC (.int 13)) (tCB (rLen K) (tCons (tVar 1) tNil))) (tOp (rI (fun _ j => 0 < j) fun i j => .int (i % j)) (tOp (rI CDivB fun i j => .int (i.fdiv j)) (tVar 2) (tC (.int 7))) (tC (.int 3)))) (gName 6))
    (tRet (tLst (tCons (tVar 0) (tCons (tOp (rAddA K) (tVar 1) (tComp 1 [0] (iRng1 (tCons (tVar 6) tNil)) (gName 0) tNoIf (tCall (spLRoad K) [] E0 (tCons (tVar 0) (tCons (tVar 1) tNil))))) tNil))))) tNext)
    (tSeq (tAsg (tOp (rI (fun _ j => 0 < j) fun i j => .int (i % j)) (tOp (rI CDivB fun i j => .int (i.fdiv j)) (tVar 2) (tC (.int 7))) (tOp (rAddA K) (tCB (rLen K) (tCons (tVar 1) tNil)) (tC (.int 1)))) (gName 3))
    (tSeq (tAsg (tCall (spLRoad K) [] E0 (tCons (tVar 2) (tCons (tVar 0) tNil))) (gName 4))
    (tSeq (tIfS (tTest (tOp (rI0 fun i j => .bl (decide (i < j))) (tVar 3) (tCB (rLen K) (tCons (tVar 1) tNil)))) (tAsg (tOp (rIx K) (tVar 1) (tVar 3)) (gName 4)) tNext)
    (tRet (tLst (tCons (tVar 0) (tCons (tOp (rAddA K) (tOp (rAddA K) (tSl (rSlL K) (tVar 1) tNoPart (tPart (tVar 3))) (tLst (tCons (tCall (spRoadOff K) [] E0 (tCons (tVar 4) (tCons (tVar 0) (tCons (tOp (rI CDivB fun i j => .int (i.fdiv j)) (tVar 2) (tC (.int 91))) tNil)))) tNil))) (tSl (rSlL K) (tVar 1) (tPart (tOp (rAddA K) (tVar 3) (tC (.int 1)))) tNoPart)) tNil)))))))))
abbrev t__law_refused (K : PySem.W.Frag) (c : Cs) (EX : XK) : TS :=
  (tSeq (tAsg (tC (.bl false)) (gName 2))
    (tSeq (tTry K 4 EX c.RoadError 3 (tDrop (tCall (spMade K c) [] EX (tCons (tVar 0) (tCons (tVar 1) tNil)))) (tSeq (tAsg (tAndV (tCB (rIsi K) (tCons (tVar 3) (tCons (tC (.ref c.NoNet)) tNil))) (tCB (rIsi K) (tCons (tVar 3) (tCons (tC (.ty "ValueError")) tNil)))) (gName 2))
    (tAsg (tAndV (tVar 2) (tNotV (tCB (rIsiT K) (tCons (tVar 3) (tCons (tTup (tCons (tC (.ref c.NoNumber)) (tCons (tC (.ref c.NoShare)) (tCons (tC (.ref c.NoStep)) (tCons (tC (.ref c.NoSuch)) (tCons (tC (.ref c.NoText)) (tCons (tC (.ref c.NoWay)) (tCons (tC (.ref c.NoWish)) (tCons (tC (.ref c.TooMany)) tNil))))))))) tNil))))) (gName 2))))
    (tRet (tVar 2))))
abbrev t__law_good (K : PySem.W.Frag) : TS :=
  (tSeq (tIfS (tOr (tNot (tB (tCB (rIsi K) (tCons (tVar 0) (tCons (tC (.ty "tuple")) tNil))))) (tOr (tTest (tOp (rNeA K) (tCB (rLen K) (tCons (tVar 0) tNil)) (tC (.int 2)))) (tOr (tNot (tB (tCall (spWhole K) [] E0 (tCons (tOp (rIx K) (tVar 0) (tC (.int 0))) tNil)))) (tTest (tOp (rNeA K) (tOp (rIx K) (tVar 0) (tC (.int 0))) (tVar 1)))))) (tRet (tC (.bl false))) tNext)
    (tSeq (tIfS (tOr (tNot (tB (tCB (rIsi K) (tCons (tOp (rIx K) (tVar 0) (tC (.int 1))) (tCons (tC (.ty "list")) tNil))))) (tTest (tOp (rNeA K) (tCB (rLen K) (tCons (tOp (rIx K) (tVar 0) (tC (.int 1))) tNil)) (tCB (rLen K) (tCons (tVar 2) tNil))))) (tRet (tC (.bl false))) tNext)
    (tSeq (tFor (iZip K (tCons (tOp (rIx K) (tVar 0) (tC (.int 1))) (tCons (tVar 2) tNil))) (gTup K 2 (gCons (gName 3) (gCons (gName 4) gNil))) (tSeq (tIfS (tOr (tNot (tB (tCB (rIsi K) (tCons (tVar 3) (tCons (tC (.ty "tuple")) tNil))))) (tOr (tTest (tOp (rNeA K) (tVar 3) (tVar 4))) (tNot (tB (tCB (rIsi K) (tCons (tOp (rIx K) (tVar 3) (tC (.int 4))) (tCons (tC (.ty "bool")) tNil))))))) (tRet (tC (.bl false))) tNext)
    (tFor (iList K (tLst (tCons (tOp (rIx K) (tVar 3) (tC (.int 0))) (tCons (tOp (rIx K) (tVar 3) (tC (.int 1))) (tCons (tOp (rIx K) (tOp (rIx K) (tVar 3) (tC (.int 2))) (tC (.int 0))) (tCons (tOp (rIx K) (tOp (rIx K) (tVar 3) (tC (.int 2))) (tC (.int 1))) (tCons (tOp (rIx K) (tOp (rIx K) (tVar 3) (tC (.int 3))) (tC (.int 0))) (tCons (tOp (rIx K) (tOp (rIx K) (tVar 3) (tC (.int 3))) (tC (.int 1))) tNil)))))))) (gName 5) (tIfS (tNot (tB (tCall (spWhole K) [] E0 (tCons (tVar 5) tNil)))) (tRet (tC (.bl false))) tNext))))
    (tRet (tC (.bl true))))))
abbrev t_law (K : PySem.W.Frag) (c : Cs) : TS :=
  (tSeq (tAsg (tOp (rAddA K) (tC (.int 2)) (tOp (rI (fun _ j => 0 < j) fun i j => .int (i % j)) (tCall (spCell K) [] E0 (tCons (tVar 0) (tCons (tC (.int 0)) tNil))) (tC (.int 5)))) (gName 1))
    (tSeq (tAsg (tCall (spLRoads K) [] E0 (tCons (tVar 0) (tCons (tVar 1) tNil))) (gName 2))
    (tSeq (tAsg (tOp (rAddA K) (tOp (rI (fun _ j => 0 < j) fun i j => .int (i % j)) (tOp (rI CMulX fun i j => .int (i * j)) (tCall (spCell K) [] E0 (tCons (tVar 0) (tCons (tC (.int 0)) tNil))) (tC (.int 69621))) (tC (.int 2147483647))) (tOp (rI (fun _ j => 0 < j) fun i j => .int (i % j)) (tOp (rI CMulX fun i j => .int (i * j)) (tOp (rI CMulX fun i j => .int (i * j)) (tC (.int 7)) (tCall (spCell K) [] E0 (tCons (tVar 0) (tCons (tC (.int 1)) tNil)))) (tC (.int 48271))) (tC (.int 2147483629)))) (gName 3))
    (tSeq (tAsg (tCB (rListOf K) (tCons (tVar 2) tNil)) (gName 4))
    (tSeq (tAsg (tCall (fun vs H Q _ => (spMade K c) vs H Q E0) [] E0 (tCons (tVar 1) (tCons (tVar 4) tNil))) (gName 5))
    (tSeq (tIfS (tOr (tNot (tB (tCall (spGood K) [] E0 (tCons (tVar 5) (tCons (tVar 1) (tCons (tVar 2) tNil)))))) (tTest (tOp (rNeA K) (tVar 4) (tVar 2)))) (tRet (tC (.bl false))) tNext)
    (tSeq (tDrop (tBM0 K "list" rClear (tVar 4)))
    (tSeq (tAsg (tCall (spOff K) [] E0 (tCons (tVar 1) (tCons (tVar 2) (tCons (tVar 3) tNil)))) (gName 6))
    (tSeq (tAsg (tCB (rListOf K) (tCons (tOp (rIx K) (tVar 6) (tC (.int 1))) tNil)) (gName 7))
    (tSeq (tIfS (tOr (tNot (tB (tCall (spRefused K) [] E0 (tCons (tOp (rIx K) (tVar 6) (tC (.int 0))) (tCons (tOp (rIx K) (tVar 6) (tC (.int 1))) tNil))))) (tTest (tOp (rNeA K) (tOp (rIx K) (tVar 6) (tC (.int 1))) (tVar 7)))) (tRet (tC (.bl false))) tNext)
    (tSeq (tAsg (tCall (fun vs H Q _ => (spMade K c) vs H Q E0) [] E0 (tCons (tVar 1) (tCons (tVar 2) tNil))) (gName 8))
    (tSeq (tDrop (tBM K "list" rAppend (tOp (rIx K) (tVar 8) (tC (.int 1))) (tCons (tTup (tCons (tC (.int 0)) (tCons (tC (.int 1)) (tCons (tTup (tCons (tC (.int 0)) (tCons (tC (.int 1)) tNil))) (tCons (tTup (tCons (tC (.int 0)) (tCons (tC (.int 1)) tNil))) (tCons (tC (.bl false)) tNil)))))) tNil)))
    (tSeq (tIfS (tNot (tB (tCall (spGood K) [] E0 (tCons (tCall (fun vs H Q _ => (spMade K c) vs H Q E0) [] E0 (tCons (tVar 1) (tCons (tVar 2) tNil))) (tCons (tVar 1) (tCons (tVar 2) tNil)))))) (tRet (tC (.bl false))) tNext)
    (tRet (tAndV (tCall (spGood K) [] E0 (tCons (tVar 5) (tCons (tVar 1) (tCons (tVar 2) tNil)))) (tAndV (tOp (rEqA K) (tCB (rLen K) (tCons (tOp (rIx K) (tVar 8) (tC (.int 1))) tNil)) (tOp (rAddA K) (tCB (rLen K) (tCons (tVar 2) tNil)) (tC (.int 1)))) (tCall (spRefused K) [] E0 (tCons (tOp (rIx K) (tVar 6) (tC (.int 0))) (tCons (tOp (rIx K) (tVar 6) (tC (.int 1))) tNil)))))))))))))))))))
end K3

end

section
set_option maxHeartbeats 1000000
namespace K3
open PySem L2 Fr
local macro_rules | `(tactic| walk_at "rd1") => `(tactic| first | ((with_reducible refine' s_set2 ?hs ?_); (case hs => ((simp only [List.set_cons_succ, List.set_cons_zero]) <;> exact rfl))) | ((with_reducible refine' s_set ?hs ?_); (case hs => ((simp only [List.set_cons_succ, List.set_cons_zero]) <;> exact rfl))) | (with_reducible refine s_seq ?_) | (with_reducible refine s_asg ?_) | (with_reducible refine s_if ?_) | (with_reducible refine s_ret ?_) | (with_reducible refine s_op ?_) | (with_reducible refine s_c ?_) | (with_reducible refine s_cons ?_) | (with_reducible refine s_nil ?_) | (with_reducible refine s_call ?_) | (with_reducible refine s_cb ?_) | (with_reducible refine s_test ?_) | (with_reducible refine s_b ?_) | (with_reducible refine s_and ?_) | (with_reducible refine s_or ?_) | (with_reducible refine s_not ?_) | (with_reducible refine s_andV ?_) | (with_reducible refine s_orV ?_) | (with_reducible refine s_notV ?_) | (with_reducible refine s_ifx ?_) | (with_reducible refine s_chain ?_) | (with_reducible refine s_un ?_) | (with_reducible refine s_tup ?_) | (with_reducible refine s_lst ?_) | (with_reducible refine s_drop ?_) | (with_reducible refine s_retN ?_) | (with_reducible refine s_next ?_) | (with_reducible refine s_break ?_) | (with_reducible refine s_cont ?_) | (with_reducible refine s_par ?_) | ((with_reducible refine' s_var ?hv ?_); (case hv => exact rfl)) | (with_reducible refine s_bl ?_) | (with_reducible refine s_rI0 ?_) | (with_reducible refine s_eqI ?_) | (with_reducible refine s_neI ?_) | (with_reducible refine s_eqB ?_) | (with_reducible refine s_rU ?_) | (with_reducible refine s_eqAI ?_) | (with_reducible refine s_neAI ?_) | (with_reducible refine s_eqAB ?_) | (with_reducible refine s_addI ?_) | ((with_reducible refine' s_ixST ?hq ?he ?_); (case hq => assumption); (case he => exact rfl)) | ((with_reducible refine' s_ixSL ?hq ?he ?_); (case hq => assumption); (case he => exact rfl)) | ((with_reducible refine' s_abs1 ?_)) | ((with_reducible refine' s_lenL ?hq ?_); (case hq => assumption)) | ((with_reducible refine' s_lenT ?hq ?_); (case hq => assumption)) | (with_reducible refine s_isN ?_) | (with_reducible refine s_notN ?_) | (with_reducible refine s_min2 ?_) | (with_reducible refine s_max2 ?_) | (with_reducible refine s_nx ?_) | (with_reducible refine s_rt ?_) | (with_reducible refine s_bk ?_) | (with_reducible refine s_ct ?_) | (with_reducible refine iteT ?_) | (with_reducible refine iteNt ?_) | (with_reducible refine iteNf ?_) | ((with_reducible refine iteN ?hz ?_); (case hz => exact rfl)) | ((with_reducible refine iteY ?hz ?_); (case hz => exact rfl)) | (with_reducible refine iteF ?_) | ((with_reducible refine' s_ixT ?hq ?he ?_); (case hq => assumption); (case he => exact rfl)) | ((with_reducible refine' s_ixL ?hq ?he ?_); (case hq => assumption); (case he => exact rfl)) | ((with_reducible refine s_rI ?hc ?_); (case hc => first | assumption | exact mulOk (by assumption) (by assumption) | exact (show (0 : Int) < _ by decide) | omega)))
local macro_rules | `(tactic| walk_at "rd") => `(tactic| repeat walk_at "rd1")
variable {K : PySem.W.Frag} {c : Cs} {H : Hp} {vs : List V} {Q : VK} {E : XK}
abbrev EN (Q : VK) : Ends := { nx := fun _ H' => Q .non H', rt := Q }
theorem isF_same {H H' : Hp} {x : V} {b : Bool} (s : Same H H') (h : IsF K H x b) : IsF K H' x b := by
  cases h with
  | two e hx hy => exact .two (s _ _ e) (tyOf_same s hx) (tyOf_same s hy)
  | long e n => exact .long (s _ _ e) n
  | no e n => exact .no (tyOf_same s e) n
theorem fn_same {H H' : Hp} {x : V} {b : Bool} (s : Same H H') (h : FN K H x b) : FN K H' x b := by
  cases h with
  | no h => exact .no (isF_same s h)
  | yes h f => exact .yes (s _ _ h) f
theorem roadB_same {H H' : Hp} {m : Int} {xs : List V} {b : Bool} (s : Same H H') (h : RoadB K H m xs b) : RoadB K H' m xs b := by
  cases h with
  | len h => exact .len h
  | five hs he h1 h2 hl => exact .five (tyOf_same s hs) (tyOf_same s he) (fn_same s h1) (fn_same s h2) (tyOf_same s hl)
theorem rdB_same {H H' : Hp} {m : Int} {r : V} {b : Bool} (s : Same H H') (h : RdB K H m r b) : RdB K H' m r b := by
  obtain ⟨p, xs, rfl, e, q⟩ := h
  exact ⟨p, xs, rfl, s _ _ e, roadB_same s q⟩
theorem netBad_same {H H' : Hp} {m : V} {rs : List V} (s : Same H H') (h : NetBad K H m rs) : NetBad K H' m rs := by
  rcases h with h | h | ⟨many, e, h1, r, hr, h2⟩
  · exact .inl h
  · exact .inr (.inl h)
  · exact .inr (.inr ⟨many, e, fun r hr => (h1 r hr).imp fun b q => rdB_same s q, r, hr, rdB_same s h2⟩)
theorem FrG.mono {H H' : Hp} {v : V} {x y : Int} (t : Tups H H') (h : FrG H v x y) : FrG H' v x y := ⟨h.1.mono t, h.2⟩
theorem GoodR.mono {H H' : Hp} {m s e : Int} {v1 v2 : V} (t : Tups H H') (h : GoodR H m s e v1 v2) : GoodR H' m s e v1 v2 :=
  ⟨h.s0, h.s1, h.e0, h.e1, h.ne, h.f1.imp fun x q => q.imp fun y q => q.mono t, h.f2.imp fun x q => q.imp fun y q => q.mono t⟩
theorem GoodV.mono {H H' : Hp} {m : Int} {r : V} (t : Tups H H') (h : GoodV H m r) : GoodV H' m r := by
  obtain ⟨p, s, e, v1, v2, la, rfl, hp, g⟩ := h
  exact ⟨p, s, e, v1, v2, la, rfl, t.1 _ _ hp, g.mono t⟩
theorem FrG.fn {H : Hp} {v : V} {x y : Int} (h : FrG H v x y) : FN K H v true := by
  obtain ⟨⟨p, rfl, hp⟩, x0, y0, g⟩ := h
  have f : fr2 (.int x) (.int y) = true := by
    show (decide (0 < y) && decide (Int.gcd x y = 1)) = true
    rw [g]
    simp [y0]
  have z := FN.yes (K := K) hp f
  rwa [decide_eq_true x0] at z
theorem GoodV.rdb {H : Hp} {m : Int} {r : V} (h : GoodV H m r) : RdB K H m r true := by
  obtain ⟨p, s, e, v1, v2, la, rfl, hp, g⟩ := h
  obtain ⟨x1, y1, f1⟩ := g.f1
  obtain ⟨x2, y2, f2⟩ := g.f2
  refine ⟨p, _, rfl, hp, ?_⟩
  have z := RoadB.five (K := K) (H := H) (many := m) (.int s) (.int e) f1.fn f2.fn (.bl la)
  have u : unl m (.int s) (.int e) = true := by
    unfold unl placeB
    simp [g.s0, g.s1, g.e0, g.e1, g.ne]
  rw [u] at z
  exact z
theorem gcd_emod (a : Int) {b : Int} (hb : 0 < b) (ha : 0 ≤ a) : Int.gcd b (a % b) = Int.gcd a b := by
  have := gcd_step ha (Int.le_of_lt hb)
  rwa [Int.fmod_eq_emod_of_nonneg a (Int.le_of_lt hb)] at this
theorem ne_mono {σ : St} {H : Hp} {Q Q' : Bool → Hp → Prop} (hQ : ∀ b H1, Q b H1 → Q' b H1) (h : tTest (tOp (rNeA K) (tVar 1) (tC (.int 0))) σ H Q) : tTest (tOp (rNeA K) (tVar 1) (tC (.int 0))) σ H Q' := by
  obtain ⟨v, e, h⟩ := h
  refine ⟨v, e, ?_⟩
  rcases h with ⟨h1, k, e2, q⟩ | ⟨d, e', h1, h2, h3, h4, k, e2, q⟩ | ⟨h1, k, e2, q⟩
  · exact .inl ⟨h1, k, e2, hQ _ _ q⟩
  · exact .inr (.inl ⟨d, e', h1, h2, h3, h4, k, e2, hQ _ _ q⟩)
  · exact .inr (.inr ⟨h1, k, e2, hQ _ _ q⟩)
theorem rd_common_divisor (h : spGcd vs H Q E) : t_common_divisor K (EN Q) (start ["one", "other", "left"] vs) H := by
  obtain ⟨a, b, rfl, ha, hb, q⟩ := h
  show t_common_divisor K (EN Q) [some (.int a), some (.int b), none] H
  refine s_seq ?_
  refine while_by (fun σ H' => H' = H ∧ ∃ a' b' l, σ = [some (.int a'), some (.int b'), l] ∧ 0 ≤ a' ∧ 0 ≤ b' ∧ Int.gcd a' b' = Int.gcd a b)
    (fun σ _ => match σ with | [_, some (.int b'), _] => b'.toNat | _ => 0) ⟨rfl, a, b, none, rfl, ha, hb, rfl⟩ ?_ (fun σ H Q Q' hQ h => ne_mono hQ h)
  rintro σ H' ⟨rfl, a', b', l, rfl, ha', hb', e⟩
  walk_at "rd"
  by_cases z : b' = 0
  · subst z
    refine iteN (by simp) ?_
    walk_at "rd"
    rw [← e, gcd_end ha'] at q
    exact q
  · refine iteY (by simp [z]) ?_
    have b0 : 0 < b' := by omega
    walk_at "rd"
    refine ⟨⟨rfl, b', a' % b', _, rfl, hb', Int.emod_nonneg _ z, by rw [gcd_emod a' b0 ha', e]⟩, ?_⟩
    have h1 := Int.emod_lt_of_pos a' b0
    have h2 := Int.emod_nonneg a' z
    show (a' % b').toNat < b'.toNat
    omega
theorem rd__law_divisor (h : spGcd vs H Q E) : t__law_divisor K (EN Q) (start ["_law_one", "_law_other"] vs) H := by
  obtain ⟨a, b, rfl, ha, hb, q⟩ := h
  show t__law_divisor K (EN Q) [some (.int a), some (.int b)] H
  refine s_seq ?_
  refine while_by (fun σ H' => H' = H ∧ ∃ a' b', σ = [some (.int a'), some (.int b')] ∧ 0 ≤ a' ∧ 0 ≤ b' ∧ Int.gcd a' b' = Int.gcd a b)
    (fun σ _ => match σ with | [_, some (.int b')] => b'.toNat | _ => 0) ⟨rfl, _, _, rfl, ha, hb, rfl⟩ ?_ (fun σ H Q Q' hQ h => ne_mono hQ h)
  rintro σ H' ⟨rfl, a', b', rfl, ha', hb', e⟩
  walk_at "rd"
  by_cases z : b' = 0
  · subst z
    refine iteN (by simp) ?_
    walk_at "rd"
    rw [← e, gcd_end ha'] at q
    exact q
  · refine iteY (by simp [z]) ?_
    have b0 : 0 < b' := by omega
    walk_at "rd"
    refine ⟨_, _, rfl, ?_⟩
    walk_at "rd"
    refine ⟨⟨rfl, b', a' % b', rfl, hb', Int.emod_nonneg _ z, by rw [gcd_emod a' b0 ha', e]⟩, ?_⟩
    have h1 := Int.emod_lt_of_pos a' b0
    have h2 := Int.emod_nonneg a' z
    show (a' % b').toNat < b'.toNat
    omega
theorem rd_is_whole (h : spWhole K vs H Q E) : t_is_whole K (EN Q) (start ["thing"] vs) H := by
  obtain ⟨x, t, rfl, ty, q⟩ := h
  show t_is_whole K (EN Q) [some x] H
  obtain ⟨b1, b2, e1, e2, eb⟩ := ty_whole ty
  walk_at "rd"
  refine ⟨_, _, _, _, b1, rfl, .of ty, .ty _, e1, ?_⟩
  walk_at "rd"
  rw [eb] at q
  cases b1 with
  | false => exact iteF q
  | true =>
    refine iteT ?_
    walk_at "rd"
    refine ⟨_, _, _, _, b2, rfl, .of ty, .ty _, e2, ?_⟩
    walk_at "rd"
    exact q
theorem rd__law_whole (h : spWhole K vs H Q E) : t__law_whole K (EN Q) (start ["_law_found"] vs) H := rd_is_whole h
theorem fr2_no {x y : V} (h : isInt x = false ∨ isInt y = false) : fr2 x y = false := by
  cases x <;> first | rfl | (cases y <;> first | rfl | (rcases h with h | h <;> cases h))
theorem rd_is_fraction (h : spIsF K vs H Q E) : t_is_fraction K (EN Q) (start ["thing", "top", "bottom"] vs) H := by
  obtain ⟨x, b, rfl, is, q⟩ := h
  show t_is_fraction K (EN Q) [some x, none, none] H
  walk_at "rd"
  cases is with
  | no h n =>
    rcases ty_tuple h with ⟨_, _, _, _, e⟩ | ⟨_, e⟩
    · exact absurd e n
    · refine ⟨_, _, _, _, false, rfl, .of h, .ty _, e, ?_⟩
      walk_at "rd"
      exact q
  | @long a xs h n =>
    refine ⟨_, _, _, _, true, rfl, .of (.tup h), .ty _, kit_tt, ?_⟩
    have S := SqT.of (K := K) h
    walk_at "rd"
    refine iteY (by
      have : ¬ ((xs.length : Int) = 2) := by omega
      simp [this]) ?_
    walk_at "rd"
    exact q
  | @two a x y tx ty h hx hy =>
    refine ⟨_, _, _, _, true, rfl, .of (.tup h), .ty _, kit_tt, ?_⟩
    have S := SqT.of (K := K) h
    walk_at "rd"
    refine ⟨_, _, rfl, hx, ?_⟩
    walk_at "rd"
    cases ex : isInt x with
    | false =>
      rw [fr2_no (.inl ex)] at q
      walk_at "rd"
      exact q
    | true =>
      walk_at "rd"
      refine ⟨_, _, rfl, hy, ?_⟩
      walk_at "rd"
      cases ey : isInt y with
      | false =>
        rw [fr2_no (.inr ey)] at q
        walk_at "rd"
        exact q
      | true =>
        obtain ⟨t, rfl⟩ : ∃ t, x = .int t := by cases x <;> first | exact ⟨_, rfl⟩ | cases ex
        obtain ⟨b, rfl⟩ : ∃ b, y = .int b := by cases y <;> first | exact ⟨_, rfl⟩ | cases ey
        walk_at "rd"
        have q : Q (.bl (decide (0 < b) && decide (Int.gcd t b = 1))) H := q
        by_cases hb : 0 < b
        · rw [decide_eq_true hb] at q ⊢
          walk_at "rd"
          refine ⟨_, _, rfl, by split <;> omega, by omega, ?_⟩
          have e : Int.gcd (if t < 0 then -t else t) b = Int.gcd t b := by split <;> simp
          rw [e]
          walk_at "rd"
          have e2 : decide ((Int.gcd t b : Int) = 1) = (true && decide (Int.gcd t b = 1)) := by
            rw [Bool.true_and]
            by_cases g : Int.gcd t b = 1
            · simp [g]
            · have : ¬ ((Int.gcd t b : Int) = 1) := by omega
              simp [g, this]
          rw [e2]
          exact q
        · rw [decide_eq_false hb] at q ⊢
          walk_at "rd"
          exact q
theorem rd_is_from_nought (h : spFN K vs H Q E) : t_is_from_nought K (EN Q) (start ["thing"] vs) H := by
  obtain ⟨x, b, rfl, is, q⟩ := h
  show t_is_from_nought K (EN Q) [some x] H
  walk_at "rd"
  cases is with
  | no h =>
    refine ⟨_, _, rfl, h, ?_⟩
    walk_at "rd"
    exact q
  | @yes a t b h f =>
    have S := SqT.of (K := K) h
    refine ⟨_, true, rfl, ?_, ?_⟩
    · have z := IsF.two (K := K) h (.int t) (.int b)
      rwa [f] at z
    · walk_at "rd"
      exact q
theorem rd_is_number_of (h : spPlace K vs H Q E) : t_is_number_of K (EN Q) (start ["many", "thing"] vs) H := by
  obtain ⟨many, x, t, rfl, ty, q⟩ := h
  show t_is_number_of K (EN Q) [some (.int many), some x] H
  walk_at "rd"
  refine ⟨_, _, rfl, ty, ?_⟩
  walk_at "rd"
  cases ex : isInt x with
  | false =>
    have e : placeB many x = false := by cases x <;> first | rfl | cases ex
    rw [e] at q
    walk_at "rd"
    exact q
  | true =>
    obtain ⟨i, rfl⟩ : ∃ i, x = .int i := by cases x <;> first | exact ⟨_, rfl⟩ | cases ex
    have q : Q (.bl (decide (0 ≤ i) && decide (i < many))) H := q
    walk_at "rd"
    by_cases hi : 0 ≤ i
    · rw [decide_eq_true hi] at q ⊢
      walk_at "rd"
      exact q
    · rw [decide_eq_false hi] at q ⊢
      walk_at "rd"
      exact q
theorem rd_are_unlike_places (h : spUnlike K vs H Q E) : t_are_unlike_places K (EN Q) (start ["many", "start", "end"] vs) H := by
  obtain ⟨many, x, y, S, T, rfl, tx, ty, q⟩ := h
  show t_are_unlike_places K (EN Q) [some (.int many), some x, some y] H
  walk_at "rd"
  refine ⟨_, _, _, rfl, tx, ?_⟩
  walk_at "rd"
  unfold unl at q
  cases ex : placeB many x with
  | false =>
    rw [ex] at q
    walk_at "rd"
    exact q
  | true =>
    rw [ex] at q
    walk_at "rd"
    refine ⟨_, _, _, rfl, ty, ?_⟩
    walk_at "rd"
    cases ey : placeB many y with
    | false =>
      rw [ey] at q
      walk_at "rd"
      exact q
    | true =>
      rw [ey] at q
      obtain ⟨i, rfl⟩ : ∃ i, x = .int i := by cases x <;> first | exact ⟨_, rfl⟩ | cases ex
      obtain ⟨j, rfl⟩ : ∃ j, y = .int j := by cases y <;> first | exact ⟨_, rfl⟩ | cases ey
      walk_at "rd"
      have e : decide (V.int i = V.int j) = decide (i = j) := by rw [Bool.eq_iff_iff]; simp
      rw [e] at q
      exact q
theorem isb {x : V} {T : String} (h : TyOf K H x (.type T)) : PySem.W.kitOne K (.type T) (.type "bool") = some (isBl x) := by
  cases h with
  | bl _ => exact kit_t (b := true) (by decide +kernel)
  | non => exact kit_t (b := false) (by decide +kernel)
  | int _ => exact kit_t (b := false) (by decide +kernel)
  | str _ => exact kit_t (b := false) (by decide +kernel)
  | flt _ => exact kit_t (b := false) (by decide +kernel)
  | lst _ => exact kit_t (b := false) (by decide +kernel)
  | frz _ => exact kit_t (b := false) (by decide +kernel)
  | tup _ => exact kit_t (b := false) (by decide +kernel)
  | dK _ => exact kit_t (b := false) (by decide +kernel)
  | dT _ => exact kit_t (b := false) (by decide +kernel)
theorem rd_road_fault (h : spFault K vs H Q E) : t_road_fault K (EN Q) (start ["many", "road"] vs) H := by
  obtain ⟨many, p, xs, b, rfl, hp, rb, qt, qf⟩ := h
  show t_road_fault K (EN Q) [some (.int many), some (.ref p)] H
  have S := SqT.of (K := K) hp
  cases rb with
  | len n =>
    walk_at "rd"
    refine iteY (by
      have : ¬ ((xs.length : Int) = 5) := by omega
      simp [this]) ?_
    walk_at "rd"
    exact qf rfl _ (by decide +kernel)
  | @five s e ba sl la S' E' L' b1 b2 hs he h1 h2 hl =>
    walk_at "rd"
    refine ⟨_, _, _, _, _, rfl, hs, he, ?_⟩
    walk_at "rd"
    cases eu : unl many s e with
    | false =>
      rw [eu] at qf
      walk_at "rd"
      exact qf rfl _ (by decide +kernel)
    | true =>
      rw [eu] at qf qt
      walk_at "rd"
      refine ⟨_, _, rfl, h1, ?_⟩
      walk_at "rd"
      cases b1 with
      | false =>
        walk_at "rd"
        exact qf rfl _ (by decide +kernel)
      | true =>
        walk_at "rd"
        refine ⟨_, _, rfl, h2, ?_⟩
        walk_at "rd"
        cases b2 with
        | false =>
          walk_at "rd"
          exact qf rfl _ (by decide +kernel)
        | true =>
          walk_at "rd"
          refine ⟨_, _, _, _, isBl la, rfl, .of hl, .ty _, isb hl, ?_⟩
          walk_at "rd"
          cases eb : isBl la with
          | false =>
            rw [eb] at qf
            walk_at "rd"
            exact qf rfl _ (by decide +kernel)
          | true =>
            rw [eb] at qt
            walk_at "rd"
            exact qt rfl
end K3

end

section
set_option maxHeartbeats 1000000
namespace K3
open PySem L2 Fr
local macro_rules | `(tactic| walk_at "rd1") => `(tactic| first | ((with_reducible refine' s_set2 ?hs ?_); (case hs => ((simp only [List.set_cons_succ, List.set_cons_zero]) <;> exact rfl))) | ((with_reducible refine' s_set ?hs ?_); (case hs => ((simp only [List.set_cons_succ, List.set_cons_zero]) <;> exact rfl))) | (with_reducible refine s_seq ?_) | (with_reducible refine s_asg ?_) | (with_reducible refine s_if ?_) | (with_reducible refine s_ret ?_) | (with_reducible refine s_op ?_) | (with_reducible refine s_c ?_) | (with_reducible refine s_cons ?_) | (with_reducible refine s_nil ?_) | (with_reducible refine s_call ?_) | (with_reducible refine s_cb ?_) | (with_reducible refine s_test ?_) | (with_reducible refine s_b ?_) | (with_reducible refine s_and ?_) | (with_reducible refine s_or ?_) | (with_reducible refine s_not ?_) | (with_reducible refine s_andV ?_) | (with_reducible refine s_orV ?_) | (with_reducible refine s_notV ?_) | (with_reducible refine s_ifx ?_) | (with_reducible refine s_chain ?_) | (with_reducible refine s_un ?_) | (with_reducible refine s_tup ?_) | (with_reducible refine s_lst ?_) | (with_reducible refine s_drop ?_) | (with_reducible refine s_retN ?_) | (with_reducible refine s_next ?_) | (with_reducible refine s_break ?_) | (with_reducible refine s_cont ?_) | (with_reducible refine s_par ?_) | ((with_reducible refine' s_var ?hv ?_); (case hv => exact rfl)) | (with_reducible refine s_bl ?_) | (with_reducible refine s_rI0 ?_) | (with_reducible refine s_eqI ?_) | (with_reducible refine s_neI ?_) | (with_reducible refine s_eqB ?_) | (with_reducible refine s_rU ?_) | (with_reducible refine s_eqAI ?_) | (with_reducible refine s_neAI ?_) | (with_reducible refine s_eqAB ?_) | (with_reducible refine s_addI ?_) | ((with_reducible refine' s_ixST ?hq ?he ?_); (case hq => assumption); (case he => exact rfl)) | ((with_reducible refine' s_ixSL ?hq ?he ?_); (case hq => assumption); (case he => exact rfl)) | ((with_reducible refine' s_abs1 ?_)) | ((with_reducible refine' s_lenL ?hq ?_); (case hq => assumption)) | ((with_reducible refine' s_lenT ?hq ?_); (case hq => assumption)) | (with_reducible refine s_isN ?_) | (with_reducible refine s_notN ?_) | (with_reducible refine s_min2 ?_) | (with_reducible refine s_max2 ?_) | (with_reducible refine s_nx ?_) | (with_reducible refine s_rt ?_) | (with_reducible refine s_bk ?_) | (with_reducible refine s_ct ?_) | (with_reducible refine iteT ?_) | (with_reducible refine iteNt ?_) | (with_reducible refine iteNf ?_) | ((with_reducible refine iteN ?hz ?_); (case hz => exact rfl)) | ((with_reducible refine iteY ?hz ?_); (case hz => exact rfl)) | (with_reducible refine iteF ?_) | ((with_reducible refine' s_ixT ?hq ?he ?_); (case hq => assumption); (case he => exact rfl)) | ((with_reducible refine' s_ixL ?hq ?he ?_); (case hq => assumption); (case he => exact rfl)) | ((with_reducible refine s_rI ?hc ?_); (case hc => first | assumption | exact mulOk (by assumption) (by assumption) | exact (show (0 : Int) < _ by decide) | omega)))
local macro_rules | `(tactic| walk_at "rd") => `(tactic| repeat walk_at "rd1")
variable {K : PySem.W.Frag} {c : Cs} {H : Hp} {vs : List V} {Q : VK} {E : XK}
theorem fr2_tt {H : Hp} {a : Addr} {b : Bool} (h : IsF K H (.ref a) b) {x y : V} (e : H a = some (.tup [x, y])) : b = fr2 x y := by
  cases h with
  | two h _ _ => rw [e] at h; cases h; rfl
  | long h n => rw [e] at h; cases h; exact absurd rfl n
  | no h n =>
    cases h with
    | tup _ => exact absurd rfl n
    | lst h => rw [e] at h; cases h
    | frz h => rw [e] at h; cases h
    | dK h => rw [e] at h; cases h
    | dT h => rw [e] at h; cases h
theorem fn_fun {H : Hp} {x : V} {b b' : Bool} (h : FN K H x b) (h' : FN K H x b') : b = b' := by
  cases h with
  | no h =>
    cases h' with
    | no _ => rfl
    | yes e f =>
      have := fr2_tt h e
      rw [f] at this
      cases this
  | yes e f =>
    cases h' with
    | no h =>
      have := fr2_tt h e
      rw [f] at this
      cases this
    | yes e' _ => rw [e] at e'; cases e'; rfl
theorem roadB_fun {H : Hp} {m : Int} {xs : List V} {b b' : Bool} (h : RoadB K H m xs b) (h' : RoadB K H m xs b') : b = b' := by
  cases h with
  | len n =>
    cases h' with
    | len _ => rfl
    | five _ _ _ _ _ => exact absurd rfl n
  | five _ _ h1 h2 _ =>
    cases h' with
    | len n => exact absurd rfl n
    | five _ _ h1' h2' _ => rw [fn_fun h1 h1', fn_fun h2 h2']
theorem str_app (x y : Str) : (x ++ y).length = x.length + y.length := strLen_append x y
theorem tostr_len {i : Int} (h0 : 0 ≤ i) (h1 : i < 12) : ((toString i : Str)).length ≤ 2 ∧ i.natAbs.log2 < 1920 := by
  rcases (by omega : i = 0 ∨ i = 1 ∨ i = 2 ∨ i = 3 ∨ i = 4 ∨ i = 5 ∨ i = 6 ∨ i = 7 ∨ i = 8 ∨ i = 9 ∨ i = 10 ∨ i = 11) with rfl | rfl | rfl | rfl | rfl | rfl | rfl | rfl | rfl | rfl | rfl | rfl <;> exact ⟨by decide +kernel, by decide +kernel⟩
theorem manyB_int {i : Int} : manyB (.int i) = (decide (2 ≤ i) && decide (i ≤ 6)) := rfl
abbrev tMadeRest (K : PySem.W.Frag) (c : Cs) (E : XK) : TS :=
    (tSeq (tFor (iEnum K (tCons (tVar 1) tNil)) (gTup K 2 (gCons (gName 2) (gCons (gName 3) gNil))) (tSeq (tAsg (tCall (spFault K) [] E0 (tCons (tVar 0) (tCons (tVar 3) tNil))) (gName 4))
    (tIfS (tTest (tOp rNotN (tVar 4) (tC .non))) (tRaise c.NoNet E (tCons (tJoin (jCons (tC (.str "road ")) (jCons (tFmt (tVar 2)) (jCons (tC (.str ": ")) (jCons (tFmt (tVar 4)) jNil))))) tNil)) tNext)))
    (tRet (tTup (tCons (tVar 0) (tCons (tCB (rListOf K) (tCons (tVar 1) tNil)) tNil)))))
theorem made_rest {m : Int} {l : Addr} {rs : List V} (hl : SqL K H l rs) (h12 : rs.length ≤ 12) (st : ∀ r ∈ rs, ∃ b, RdB K H m r b)
    (good : (∀ r ∈ rs, RdB K H m r true) → ∀ p l' H', Same H H' → H' p = some (.tup [.int m, .ref l']) → H' l' = some (.lst rs) → H l' = none → Q (.ref p) H')
    (bad : (∃ r ∈ rs, RdB K H m r false) → ∀ H', Same H H' → E (.ref c.NoNet) none H') :
    tMadeRest K c E (EN Q) [some (.int m), some (.ref l), none, none, none] H := by
  refine s_seq ?_
  refine ⟨_, rfl, l, rfl, ⟨_, hl⟩, ?_⟩
  refine ⟨fun i n σ H' => n = rs.length - i ∧ i ≤ rs.length ∧ ∃ v2 v3 v4, σ = [some (.int m), some (.ref l), v2, v3, v4] ∧ Same H H' ∧ ∀ j r, j < i → rs[j]? = some r → RdB K H m r true, ⟨_, rfl, Nat.zero_le _, none, none, none, rfl, Same.refl _, fun j r hj => absurd hj (Nat.not_lt_zero _)⟩, ?_⟩
  rintro i n σ H' ⟨rfl, hi, v2, v3, v4, rfl, s1, ok⟩
  by_cases hlt : i < rs.length
  · refine .inr ⟨⟨rs, rs[i], s1.seq hl, by simp [hlt]⟩, fun σ' H'' => ∃ v2 v3 v4, σ' = [some (.int m), some (.ref l), v2, v3, v4] ∧ Same H H'' ∧ ∀ j r, j < i + 1 → rs[j]? = some r → RdB K H m r true, fun σ' H'' h => ⟨rs.length - (i + 1), by omega, rfl, hlt, h⟩, ?_⟩
    rintro x H2 ⟨y, t, hy, rfl, ht, rfl⟩
    have ey : rs[i]? = some y := hy rs (s1.seq hl)
    have s2 : Same H (upd H' t (.tup [.int i, y])) := Same.trans s1 (Same.new ht)
    refine ⟨t, [.int i, y], rfl, SqT.of upd_same, rfl, .int i, [y], rfl, y, [], rfl, rfl, ?_⟩
    generalize upd H' t (.tup [.int i, y]) = H3 at s2
    show tSeq _ _ _ [some (.int m), some (.ref l), some (.int i), some y, v4] H3
    dsimp only
    have hm : y ∈ rs := List.mem_of_getElem? ey
    obtain ⟨b, hb⟩ := st y hm
    obtain ⟨p, xs, rfl, hp, rb⟩ := rdB_same s2 hb
    walk_at "rd"
    refine ⟨m, p, xs, b, rfl, hp, rb, fun e => ?_, fun e z hz => ?_⟩
    · subst e
      walk_at "rd"
      refine ⟨_, _, _, rfl, s2, fun j r hj hr => ?_⟩
      by_cases hji : j = i
      · subst hji
        rw [ey] at hr
        cases hr
        exact hb
      · exact ok j r (by omega) hr
    · subst e
      walk_at "rd"
      obtain ⟨t1, t2⟩ := tostr_len (i := (i : Int)) (by omega) (by omega)
      have l5 : (("road " : Str)).length = 5 := by decide +kernel
      have l2 : ((": " : Str)).length = 2 := by decide +kernel
      have l0 : (Str.empty).length = 0 := by decide +kernel
      have big : 1000 ≤ sizeLine := by decide
      refine ⟨_, rfl, ?_, ?_⟩
      · rw [str_app]; omega
      refine ⟨_, rfl, .inr ⟨_, rfl, t2, _, rfl, ?_, ?_⟩⟩
      · rw [str_app, str_app]; omega
      refine ⟨_, rfl, ?_, ?_⟩
      · rw [str_app, str_app, str_app]; omega
      refine ⟨_, rfl, .inl ⟨_, rfl, by omega, _, rfl, ?_, ?_⟩⟩
      · rw [str_app, str_app, str_app, str_app]; omega
      refine ⟨?_, ?_⟩
      · rw [str_app, str_app, str_app, str_app]; omega
      exact ⟨ln1, bad ⟨_, hm, hb⟩ _ s2⟩
  · have e : i = rs.length := by omega
    subst e
    refine .inl ⟨⟨rs, s1.seq hl, Nat.le_refl _⟩, ?_⟩
    walk_at "rd"
    refine s_listL (s1.seq hl) fun l2 H2 n2 s2 e2 => ?_
    walk_at "rd"
    refine s_al ln2 fun p H3 s3 e3 => ?_
    refine good (fun r hr => ?_) p l2 H3 (Same.trans s1 (Same.trans s2 s3)) e3 (s3 _ _ e2) (s1.free n2)
    obtain ⟨j, hj, ej⟩ := List.getElem_of_mem hr
    exact ok j r hj (by simp [hj, ej])
theorem rd_made_net (h : spMade K c vs H Q E) : t_made_net K c E (EN Q) (start ["many", "roads", "number", "road", "fault"] vs) H := by
  obtain ⟨m, l, rs, T, rfl, tm, hl, h⟩ := h
  show t_made_net K c E (EN Q) [some m, some (.ref l), none, none, none] H
  walk_at "rd"
  refine ⟨_, _, rfl, tm, ?_⟩
  walk_at "rd"
  have refuse : NetBad K H m rs → ∀ H', Same H H' → E (.ref c.NoNet) none H' := fun b => by
    rcases h with ⟨many, rfl, h2, h6, h12, ok, _⟩ | ⟨_, q⟩
    · rcases b with b | b | ⟨many', e, _, r, hr, b⟩
      · rw [manyB_int] at b
        simp [h2, h6] at b
      · omega
      · cases e
        obtain ⟨p, xs, rfl, hp, b1⟩ := ok r hr
        obtain ⟨p', xs', e, hp', b2⟩ := b
        cases e
        rw [hp] at hp'
        cases hp'
        exact absurd (roadB_fun b1 b2) (by simp)
    · exact q
  cases ei : isInt m with
  | false =>
    have e : manyB m = false := by cases m <;> first | rfl | cases ei
    walk_at "rd"
    exact ⟨ln1, refuse (.inl e) _ (Same.refl _)⟩
  | true =>
    obtain ⟨i, rfl⟩ : ∃ i, m = .int i := by cases m <;> first | exact ⟨_, rfl⟩ | cases ei
    walk_at "rd"
    by_cases h2 : 2 ≤ i
    · rw [decide_eq_true h2]
      walk_at "rd"
      by_cases h6 : i ≤ 6
      · rw [decide_eq_true h6]
        walk_at "rd"
        by_cases h12 : rs.length ≤ 12
        · refine iteN (decide_eq_false (by omega)) ?_
          refine s_next ?_
          refine s_nx ?_
          have st : ∀ r ∈ rs, ∃ b, RdB K H i r b := fun r hr => by
            rcases h with ⟨many, e, _, _, _, ok, _⟩ | ⟨b, _⟩
            · cases e
              exact ⟨_, ok r hr⟩
            · rcases b with b | b | ⟨many', e, st, _⟩
              · rw [manyB_int] at b
                simp [h2, h6] at b
              · omega
              · cases e
                exact st r hr
          refine made_rest hl h12 st (fun ok p l' H' s e1 e2 n => ?_) (fun ⟨r, hr, b⟩ => refuse (.inr (.inr ⟨i, rfl, st, r, hr, b⟩)))
          rcases h with ⟨many, e, _, _, _, _, q⟩ | ⟨b, _⟩
          · cases e
            exact q p l' H' s e1 e2 n
          · rcases b with b | b | ⟨many', e, st, r, hr, b⟩
            · rw [manyB_int] at b
              simp [h2, h6] at b
            · omega
            · cases e
              obtain ⟨p, xs, rfl, hp, b1⟩ := ok r hr
              obtain ⟨p', xs', e, hp', b2⟩ := b
              cases e
              rw [hp] at hp'
              cases hp'
              exact absurd (roadB_fun b1 b2) (by simp)
        · refine iteY (decide_eq_true (by omega)) ?_
          walk_at "rd"
          exact ⟨ln1, refuse (.inr (.inl (by omega))) _ (Same.refl _)⟩
      · rw [decide_eq_false h6]
        walk_at "rd"
        exact ⟨ln1, refuse (.inl (by rw [manyB_int]; simp [h6])) _ (Same.refl _)⟩
    · rw [decide_eq_false h2]
      walk_at "rd"
      exact ⟨ln1, refuse (.inl (by rw [manyB_int]; simp [h2])) _ (Same.refl _)⟩
end K3

end

section
set_option maxHeartbeats 1000000
namespace K3
open PySem L2 Fr
local macro_rules | `(tactic| walk_at "rd1") => `(tactic| first | ((with_reducible refine' s_set2 ?hs ?_); (case hs => ((simp only [List.set_cons_succ, List.set_cons_zero]) <;> exact rfl))) | ((with_reducible refine' s_set ?hs ?_); (case hs => ((simp only [List.set_cons_succ, List.set_cons_zero]) <;> exact rfl))) | (with_reducible refine s_seq ?_) | (with_reducible refine s_asg ?_) | (with_reducible refine s_if ?_) | (with_reducible refine s_ret ?_) | (with_reducible refine s_op ?_) | (with_reducible refine s_c ?_) | (with_reducible refine s_cons ?_) | (with_reducible refine s_nil ?_) | (with_reducible refine s_call ?_) | (with_reducible refine s_cb ?_) | (with_reducible refine s_test ?_) | (with_reducible refine s_b ?_) | (with_reducible refine s_and ?_) | (with_reducible refine s_or ?_) | (with_reducible refine s_not ?_) | (with_reducible refine s_andV ?_) | (with_reducible refine s_orV ?_) | (with_reducible refine s_notV ?_) | (with_reducible refine s_ifx ?_) | (with_reducible refine s_chain ?_) | (with_reducible refine s_un ?_) | (with_reducible refine s_tup ?_) | (with_reducible refine s_lst ?_) | (with_reducible refine s_drop ?_) | (with_reducible refine s_retN ?_) | (with_reducible refine s_next ?_) | (with_reducible refine s_break ?_) | (with_reducible refine s_cont ?_) | (with_reducible refine s_par ?_) | ((with_reducible refine' s_var ?hv ?_); (case hv => exact rfl)) | (with_reducible refine s_bl ?_) | (with_reducible refine s_rI0 ?_) | (with_reducible refine s_eqI ?_) | (with_reducible refine s_neI ?_) | (with_reducible refine s_eqB ?_) | (with_reducible refine s_rU ?_) | (with_reducible refine s_eqAI ?_) | (with_reducible refine s_neAI ?_) | (with_reducible refine s_eqAB ?_) | (with_reducible refine s_addI ?_) | ((with_reducible refine' s_ixST ?hq ?he ?_); (case hq => assumption); (case he => exact rfl)) | ((with_reducible refine' s_ixSL ?hq ?he ?_); (case hq => assumption); (case he => exact rfl)) | ((with_reducible refine' s_abs1 ?_)) | ((with_reducible refine' s_lenL ?hq ?_); (case hq => assumption)) | ((with_reducible refine' s_lenT ?hq ?_); (case hq => assumption)) | (with_reducible refine s_isN ?_) | (with_reducible refine s_for ?_) | (with_reducible refine s_iList ?_) | (with_reducible refine s_iTup ?_) | (with_reducible refine s_iR1 ?_) | (with_reducible refine s_iR2 ?_) | (with_reducible refine s_iEnum ?_) | (with_reducible refine s_iZip ?_) | ((with_reducible refine' s_jList ?hq ?_); (case hq => assumption)) | ((with_reducible refine' s_jTup ?hq ?_); (case hq => assumption)) | ((with_reducible refine' s_jEnum ?hq ?_); (case hq => assumption)) | ((with_reducible refine' s_jZip ?hq ?hr ?_); (case hq => assumption); (case hr => assumption)) | (with_reducible refine s_notN ?_) | (with_reducible refine s_min2 ?_) | (with_reducible refine s_max2 ?_) | (with_reducible refine s_nx ?_) | (with_reducible refine s_rt ?_) | (with_reducible refine s_bk ?_) | (with_reducible refine s_ct ?_) | (with_reducible refine iteT ?_) | (with_reducible refine iteNt ?_) | (with_reducible refine iteNf ?_) | ((with_reducible refine iteN ?hz ?_); (case hz => exact rfl)) | ((with_reducible refine iteY ?hz ?_); (case hz => exact rfl)) | (with_reducible refine iteF ?_) | ((with_reducible refine' s_ixT ?hq ?he ?_); (case hq => assumption); (case he => exact rfl)) | ((with_reducible refine' s_ixL ?hq ?he ?_); (case hq => assumption); (case he => exact rfl)) | ((with_reducible refine s_rI ?hc ?_); (case hc => first | assumption | exact mulOk (by assumption) (by assumption) | exact (show (0 : Int) < _ by decide) | omega)))
local macro_rules | `(tactic| walk_at "rd") => `(tactic| repeat walk_at "rd1")
variable {K : PySem.W.Frag} {c : Cs} {H : Hp} {vs : List V} {Q : VK} {E : XK}
theorem cm {i j : Int} (h : -(2 ^ 64) < j ∧ j < 2 ^ 64) : CMulX i j := .inl (.inr h)
theorem cml {i j : Int} (h : -(2 ^ 64) < i ∧ i < 2 ^ 64) : CMulX i j := .inl (.inl h)
theorem cd {i j : Int} (h : j ≠ 0) (l : j.natAbs < 2 ^ 64) : CDivB i j := ⟨h, Nat.lt_trans l (Nat.pow_lt_pow_right (by decide) (by decide))⟩
theorem fd {m k : Int} (m0 : 0 ≤ m) (k0 : 0 < k) : 0 ≤ m.fdiv k ∧ m.fdiv k ≤ m := by
  rw [Int.fdiv_eq_ediv_of_nonneg m (by omega)]
  exact ⟨Int.ediv_nonneg m0 (by omega), Int.ediv_le_self _ m0⟩
theorem rd__law_cell (h : spCell K vs H Q E) : t__law_cell K (EN Q) (start ["_law_script", "_law_k"] vs) H := by
  obtain ⟨a, ns, k, rfl, S, k0, q⟩ := h
  show t__law_cell K (EN Q) [some (.ref a), some (.int k)] H
  walk_at "rd"
  by_cases hk : k < ((ns.map V.int).length : Int)
  · refine iteY (decide_eq_true hk) ?_
    walk_at "rd"
    rw [List.length_map] at hk
    obtain ⟨j, rfl⟩ := Int.eq_ofNat_of_zero_le k0
    have hj : j < ns.length := by omega
    exact s_ixSL S (atI_nat (v := .int ns[j]) (by simp [hj])) (q _)
  · refine iteN (decide_eq_false hk) ?_
    walk_at "rd"
    exact q _
theorem rd__law_fraction (h : spLFrac K vs H Q E) : t__law_fraction K (EN Q) (start ["_law_number", "_law_bottom", "_law_top", "_law_share"] vs) H := by
  obtain ⟨n, rfl, n0, n1, q⟩ := h
  show t__law_fraction K (EN Q) [some (.int n), none, none, none] H
  have d4 : CDivB n 4 := cd (by decide) (by decide)
  have d48 : CDivB n 48 := cd (by decide) (by decide)
  have nn : CMulX n n := cml ⟨by omega, by omega⟩
  have nt : CMulX (n * n) 6700417 := cm (by decide)
  have cp : CPow 10 18 := ⟨by decide, by decide, by decide⟩
  have e18 : (10 : Int) ^ (18 : Int).toNat = 10 ^ 18 := rfl
  have a1 := Int.emod_nonneg (n * n * 6700417) (show (10 : Int) ^ (18 : Int).toNat ≠ 0 by decide)
  have a3 := Int.emod_nonneg (n.fdiv 4) (show (12 : Int) ≠ 0 by decide)
  have a4 := Int.emod_lt_of_pos (n.fdiv 4) (show (0 : Int) < 12 by decide)
  have a5 := Int.emod_nonneg (n.fdiv 48) (show (25 : Int) ≠ 0 by decide)
  have fin : ∀ (t b : Int), 0 ≤ t → 1 ≤ b → b ≤ 12 → CDivB t (Int.gcd t b : Int) ∧ CDivB b (Int.gcd t b : Int) ∧ ∀ p H', Same H H' → H' p = some (.tup [.int (t.fdiv (Int.gcd t b : Int)), .int (b.fdiv (Int.gcd t b : Int))]) → Q (.ref p) H' := fun t b t0 b0 b1 => by
    obtain ⟨d0, dl, L, x1, y1⟩ := low2 (t := t) (b := b) (d := (Int.gcd t b : Int)) (by omega) (by rw [if_neg (by omega)])
    have sb : Sz 4 b := by
      show b.natAbs < 16
      omega
    refine ⟨⟨d0, Nat.lt_of_le_of_lt dl sb.sm⟩, ⟨d0, Nat.lt_of_le_of_lt dl sb.sm⟩, fun p H' s e => q _ _ _ _ s ⟨.of e, ?_, L.pos, L.cop⟩⟩
    rw [Int.fdiv_eq_ediv_of_nonneg t (by omega)]
    exact Int.ediv_nonneg t0 (by omega)
  walk_at "rd"
  refine ite2 (fun _ => ?_) (fun _ => ?_)
  · walk_at "rd"
    exact s_al ln2 fun p H' s e => q _ _ _ _ s ⟨.of e, by decide, by decide, by decide⟩
  · walk_at "rd"
    refine ite2 (fun _ => ?_) (fun _ => ?_)
    · walk_at "rd"
      obtain ⟨f1, f2, f3⟩ := fin _ (1 + n.fdiv 4 % 12) a1 (by omega) (by omega)
      refine ⟨_, _, rfl, a1, by omega, ?_⟩
      walk_at "rd"
      exact s_al ln2 fun p H' s e => f3 p H' s e
    · walk_at "rd"
      obtain ⟨f1, f2, f3⟩ := fin _ (1 + n.fdiv 4 % 12) a5 (by omega) (by omega)
      refine ⟨_, _, rfl, a5, by omega, ?_⟩
      walk_at "rd"
      exact s_al ln2 fun p H' s e => f3 p H' s e
theorem rd__law_road (h : spLRoad K vs H Q E) : t__law_road K (EN Q) (start ["_law_cell_here", "_law_many", "_law_number", "_law_start", "_law_end", "_law_base"] vs) H := by
  obtain ⟨cl, many, rfl, h2, h6, q⟩ := h
  show t__law_road K (EN Q) [some (.int cl), some (.int many), none, none, none, none] H
  have c1 : CMulX cl 1103515245 := cm (by decide)
  have m0 : 0 ≤ cl * 1103515245 % 4294967291 := Int.emod_nonneg _ (by decide)
  have m1 : cl * 1103515245 % 4294967291 < 4294967291 := Int.emod_lt_of_pos _ (by decide)
  have p1 : (0 : Int) < many := by omega
  have p2 : (0 : Int) < many - 1 := by omega
  walk_at "rd"
  generalize cl * 1103515245 % 4294967291 = m at m0 m1 ⊢
  have d6 : CDivB m 6 := cd (by decide) (by decide)
  have d37 : CDivB m 37 := cd (by decide) (by decide)
  have d41 : CDivB m 41 := cd (by decide) (by decide)
  have d43 : CDivB m 43 := cd (by decide) (by decide)
  walk_at "rd"
  have f37 := fd m0 (show (0 : Int) < 37 by decide)
  have f41 := fd m0 (show (0 : Int) < 41 by decide)
  refine ⟨_, rfl, f37.1, by omega, fun x1 y1 v1 H1 s1 f1 => ?_⟩
  walk_at "rd"
  refine ⟨_, rfl, by omega, by omega, fun x2 y2 v2 H2 s2 f2 => ?_⟩
  walk_at "rd"
  refine s_al ln5 fun p H3 s3 e3 => ?_
  refine q _ _ (Same.trans s1 (Same.trans s2 s3)) ⟨p, _, _, _, _, _, rfl, e3, ?_⟩
  have b1 := Int.emod_nonneg m (show many ≠ 0 by omega)
  have b2 := Int.emod_lt_of_pos m p1
  have b3 := Int.emod_nonneg (m.fdiv 6) (show many - 1 ≠ 0 by omega)
  have b4 := Int.emod_lt_of_pos (m.fdiv 6) p2
  have b5 := Int.emod_nonneg (m % many + 1 + m.fdiv 6 % (many - 1)) (show many ≠ 0 by omega)
  have b6 := Int.emod_lt_of_pos (m % many + 1 + m.fdiv 6 % (many - 1)) p1
  refine ⟨b1, b2, b5, b6, fun e => ?_, ⟨x1, y1, (f1.mono s2.tups).mono s3.tups⟩, ⟨x2, y2, f2.mono s3.tups⟩⟩
  generalize m % many = u at *
  generalize m.fdiv 6 % (many - 1) = w at *
  by_cases hw : u + 1 + w < many
  · rw [Int.emod_eq_of_lt (by omega) hw] at e
    omega
  · have e2 : (u + 1 + w) % many = u + 1 + w - many := by
      rw [← Int.sub_emod_right]
      exact Int.emod_eq_of_lt (by omega) (by omega)
    omega
end K3

end

section
set_option maxHeartbeats 1000000
namespace K3
open PySem L2 Fr
local macro_rules | `(tactic| walk_at "rd1") => `(tactic| first | ((with_reducible refine' s_set2 ?hs ?_); (case hs => ((simp only [List.set_cons_succ, List.set_cons_zero]) <;> exact rfl))) | ((with_reducible refine' s_set ?hs ?_); (case hs => ((simp only [List.set_cons_succ, List.set_cons_zero]) <;> exact rfl))) | (with_reducible refine s_seq ?_) | (with_reducible refine s_asg ?_) | (with_reducible refine s_if ?_) | (with_reducible refine s_asgG ?_) | (with_reducible refine s_gsub ?_) | (with_reducible refine s_sl ?_) | (with_reducible refine s_noPart ?_) | (with_reducible refine s_part ?_) | (with_reducible refine s_exI ?_) | (with_reducible refine s_ret ?_) | (with_reducible refine s_op ?_) | (with_reducible refine s_c ?_) | (with_reducible refine s_cons ?_) | (with_reducible refine s_nil ?_) | (with_reducible refine s_call ?_) | (with_reducible refine s_cb ?_) | (with_reducible refine s_test ?_) | (with_reducible refine s_b ?_) | (with_reducible refine s_and ?_) | (with_reducible refine s_or ?_) | (with_reducible refine s_not ?_) | (with_reducible refine s_andV ?_) | (with_reducible refine s_orV ?_) | (with_reducible refine s_notV ?_) | (with_reducible refine s_ifx ?_) | (with_reducible refine s_chain ?_) | (with_reducible refine s_un ?_) | (with_reducible refine s_tup ?_) | (with_reducible refine s_lst ?_) | (with_reducible refine s_drop ?_) | (with_reducible refine s_retN ?_) | (with_reducible refine s_next ?_) | (with_reducible refine s_break ?_) | (with_reducible refine s_cont ?_) | (with_reducible refine s_par ?_) | ((with_reducible refine' s_var ?hv ?_); (case hv => exact rfl)) | (with_reducible refine s_bl ?_) | (with_reducible refine s_rI0 ?_) | (with_reducible refine s_eqI ?_) | (with_reducible refine s_neI ?_) | (with_reducible refine s_eqB ?_) | (with_reducible refine s_rU ?_) | (with_reducible refine s_eqAI ?_) | (with_reducible refine s_neAI ?_) | (with_reducible refine s_eqAB ?_) | (with_reducible refine s_addI ?_) | ((with_reducible refine' s_ixST ?hq ?he ?_); (case hq => assumption); (case he => exact rfl)) | ((with_reducible refine' s_ixSL ?hq ?he ?_); (case hq => assumption); (case he => exact rfl)) | ((with_reducible refine' s_abs1 ?_)) | ((with_reducible refine' s_lenL ?hq ?_); (case hq => assumption)) | ((with_reducible refine' s_lenT ?hq ?_); (case hq => assumption)) | (with_reducible refine s_isN ?_) | (with_reducible refine s_for ?_) | (with_reducible refine s_iList ?_) | (with_reducible refine s_iTup ?_) | (with_reducible refine s_iR1 ?_) | (with_reducible refine s_iR2 ?_) | (with_reducible refine s_iEnum ?_) | (with_reducible refine s_iZip ?_) | ((with_reducible refine' s_jList ?hq ?_); (case hq => assumption)) | ((with_reducible refine' s_jTup ?hq ?_); (case hq => assumption)) | ((with_reducible refine' s_jEnum ?hq ?_); (case hq => assumption)) | ((with_reducible refine' s_jZip ?hq ?hr ?_); (case hq => assumption); (case hr => assumption)) | (with_reducible refine s_notN ?_) | (with_reducible refine s_min2 ?_) | (with_reducible refine s_max2 ?_) | (with_reducible refine s_nx ?_) | (with_reducible refine s_rt ?_) | (with_reducible refine s_bk ?_) | (with_reducible refine s_ct ?_) | (with_reducible refine iteT ?_) | (with_reducible refine iteNt ?_) | (with_reducible refine iteNf ?_) | ((with_reducible refine iteN ?hz ?_); (case hz => exact rfl)) | ((with_reducible refine iteY ?hz ?_); (case hz => exact rfl)) | (with_reducible refine iteF ?_) | ((with_reducible refine' s_ixT ?hq ?he ?_); (case hq => assumption); (case he => exact rfl)) | ((with_reducible refine' s_ixL ?hq ?he ?_); (case hq => assumption); (case he => exact rfl)) | ((with_reducible refine s_rI ?hc ?_); (case hc => first | assumption | exact mulOk (by assumption) (by assumption) | exact (show (0 : Int) < _ by decide) | omega)))
local macro_rules | `(tactic| walk_at "rd") => `(tactic| repeat walk_at "rd1")
variable {K : PySem.W.Frag} {c : Cs} {H : Hp} {vs : List V} {Q : VK} {E : XK}
theorem rd__law_odd (h : spOdd K vs H Q E) : t__law_odd K (EN Q) (start ["_law_number"] vs) H := by
  obtain ⟨n, rfl, q⟩ := h
  show t__law_odd K (EN Q) [some (.int n)] H
  walk_at "rd"
  refine s_al ln2 fun p1 H1 s1 e1 => ?_
  walk_at "rd"
  refine s_al ln1 fun p2 H2 s2 e2 => ?_
  walk_at "rd"
  refine s_dict0 fun p3 H3 s3 e3 => ?_
  walk_at "rd"
  refine s_al ln8 fun l H4 s4 e4 => ?_
  walk_at "rd"
  have t3 := s4
  have t2 := Same.trans s3 t3
  have t1 := Same.trans s2 t2
  have t0 := Same.trans s1 t1
  have pick : ∃ v, atI ([.non, .bl true, .bl false, .str "1", .ref p1, .ref p2, .ref p3, .str ""] : List V) (n % 8) = some v ∧ isInt v = false ∧ ∃ U, TyOf K H4 v (.type U) := by
    have c0 := Int.emod_nonneg n (show (8 : Int) ≠ 0 by decide)
    have c1 := Int.emod_lt_of_pos n (show (0 : Int) < 8 by decide)
    generalize n % 8 = j at c0 c1
    rcases (by omega : j = 0 ∨ j = 1 ∨ j = 2 ∨ j = 3 ∨ j = 4 ∨ j = 5 ∨ j = 6 ∨ j = 7) with rfl | rfl | rfl | rfl | rfl | rfl | rfl | rfl
    · exact ⟨_, rfl, rfl, _, .non⟩
    · exact ⟨_, rfl, rfl, _, .bl _⟩
    · exact ⟨_, rfl, rfl, _, .bl _⟩
    · exact ⟨_, rfl, rfl, _, .str _⟩
    · exact ⟨_, rfl, rfl, _, .tup (t1 _ _ e1)⟩
    · exact ⟨_, rfl, rfl, _, .lst (t2 _ _ e2)⟩
    · exact ⟨_, rfl, rfl, _, .dK (t3 _ _ e3)⟩
    · exact ⟨_, rfl, rfl, _, .str _⟩
  obtain ⟨v, hv, nv, U, tv⟩ := pick
  exact s_ixSL (SqL.of e4) hv (q v U H4 t0 tv nv)
theorem fnTwo {x y : V} {T U : String} {a : Addr} (h : H a = some (.tup [x, y])) (hx : TyOf K H x (.type T)) (hy : TyOf K H y (.type U)) (f : fr2 x y = false) : FN K H (.ref a) false := .no (f ▸ .two h hx hy)
theorem rd__law_no_fraction (h : spNoFr K vs H Q E) : t__law_no_fraction K (EN Q) (start ["_law_number", "_law_some"] vs) H := by
  obtain ⟨n, rfl, q⟩ := h
  show t__law_no_fraction K (EN Q) [some (.int n), none] H
  have d12 : CDivB n 12 := cd (by decide) (by decide)
  have b0 := Int.emod_nonneg (n.fdiv 12) (show (7 : Int) ≠ 0 by decide)
  walk_at "rd"
  refine s_al ln2 fun p1 H1 s1 e1 => ?_
  walk_at "rd"
  refine s_al ln2 fun p2 H2 s2 e2 => ?_
  walk_at "rd"
  refine s_al ln2 fun p3 H3 s3 e3 => ?_
  walk_at "rd"
  refine s_al ln2 fun p4 H4 s4 e4 => ?_
  walk_at "rd"
  refine s_al ln2 fun p5 H5 s5 e5 => ?_
  walk_at "rd"
  refine s_al ln2 fun p6 H6 s6 e6 => ?_
  walk_at "rd"
  refine s_al ln3 fun p7 H7 s7 e7 => ?_
  walk_at "rd"
  refine s_al ln11 fun l1 H8 s8 e8 => ?_
  walk_at "rd"
  refine s_al ln2 fun p8 H9 s9 e9 => ?_
  walk_at "rd"
  refine s_al ln1 fun l2 HA sA eA => ?_
  refine s_catL (SqL.of (sA _ _ (s9 _ _ e8))) (SqL.of eA) (by show 11 + 1 ≤ sizeLine; decide) fun l3 HB _ sB eB => ?_
  walk_at "rd"
  have u9 := Same.trans sA sB
  have u8 := Same.trans s9 u9
  have u7 := Same.trans s8 u8
  have u6 := Same.trans s7 u7
  have u5 := Same.trans s6 u6
  have u4 := Same.trans s5 u5
  have u3 := Same.trans s4 u4
  have u2 := Same.trans s3 u3
  have u1 := Same.trans s2 u2
  have u0 := Same.trans s1 u1
  have pick : ∃ v, atI ([.ref p1, .ref p2, .ref p3, .ref p4, .ref p5, .int 1, .non, .bl true, .str "1", .ref p6, .ref p7] ++ [.ref p8] : List V) (n % 12) = some v ∧ FN K HB v false := by
    have c0 := Int.emod_nonneg n (show (12 : Int) ≠ 0 by decide)
    have c1 := Int.emod_lt_of_pos n (show (0 : Int) < 12 by decide)
    generalize n % 12 = j at c0 c1
    rcases (by omega : j = 0 ∨ j = 1 ∨ j = 2 ∨ j = 3 ∨ j = 4 ∨ j = 5 ∨ j = 6 ∨ j = 7 ∨ j = 8 ∨ j = 9 ∨ j = 10 ∨ j = 11) with rfl | rfl | rfl | rfl | rfl | rfl | rfl | rfl | rfl | rfl | rfl | rfl
    · refine ⟨_, rfl, ?_⟩
      have f : fr2 (.int (-1)) (.int (1 + n.fdiv 12 % 7)) = true := by
        show (decide (0 < 1 + n.fdiv 12 % 7) && decide (Int.gcd (-1) (1 + n.fdiv 12 % 7) = 1)) = true
        rw [decide_eq_true (by omega)]
        simp
      exact FN.yes (u1 _ _ e1) f
    · exact ⟨_, rfl, fnTwo (u2 _ _ e2) (.int _) (.int _) (by decide)⟩
    · exact ⟨_, rfl, fnTwo (u3 _ _ e3) (.int _) (.int _) (by decide)⟩
    · exact ⟨_, rfl, fnTwo (u4 _ _ e4) (.int _) (.int _) (by decide)⟩
    · exact ⟨_, rfl, fnTwo (u5 _ _ e5) (.int _) (.int _) (by decide)⟩
    · exact ⟨_, rfl, .no (.no (.int 1) (by decide))⟩
    · exact ⟨_, rfl, .no (.no .non (by decide))⟩
    · exact ⟨_, rfl, .no (.no (.bl true) (by decide))⟩
    · exact ⟨_, rfl, .no (.no (.str _) (by decide))⟩
    · exact ⟨_, rfl, .no (.no (.lst (u6 _ _ e6)) (by decide))⟩
    · exact ⟨_, rfl, .no (.long (u7 _ _ e7) (by simp))⟩
    · exact ⟨_, rfl, fnTwo (u9 _ _ e9) (.bl true) (.int 1) rfl⟩
  obtain ⟨v, hv, fv⟩ := pick
  exact s_ixSL (SqL.of eB) hv (q v HB u0 fv)
theorem rd__law_refused (X : XF K c c.NoNet [c.NoNumber, c.NoShare, c.NoStep, c.NoSuch, c.NoText, c.NoWay, c.NoWish, c.TooMany]) (h : spRefused K vs H Q E) :
    t__law_refused K c (fun cls _ H' => cls = .ref c.NoNet ∧ Same H H') (EN Q) (start ["_law_many", "_law_roads_here", "_law_only", "e"] vs) H := by
  obtain ⟨m, l, rs, rfl, ⟨T, tm⟩, hl, bad, q⟩ := h
  show t__law_refused K c _ (EN Q) [some m, some (.ref l), none, none] H
  walk_at "rd"
  refine ⟨?_, ?_⟩
  · walk_at "rd"
    exact ⟨m, l, rs, T, rfl, tm, hl, .inr ⟨bad, fun H' s => ⟨rfl, s⟩⟩⟩
  · rintro cls dx H' ⟨rfl, s1⟩
    refine ⟨c.NoNet, rfl, X.catches, fun ea σ' hl hn => ?_⟩
    obtain ⟨v0, v1, v2, v3, rfl⟩ : ∃ v0 v1 v2 v3, σ' = [v0, v1, v2, v3] := by
      match σ', hl with
      | [v0, v1, v2, v3], _ => exact ⟨v0, v1, v2, v3, rfl⟩
    refine s_seq ?_
    walk_at "rd"
    refine ⟨_, _, _, _, true, rfl, .exc upd_same X.xi, .own _, X.self, ?_⟩
    walk_at "rd"
    refine ⟨_, _, _, _, true, rfl, .exc upd_same X.xi, .ty _, X.isV, ?_⟩
    walk_at "rd"
    refine s_al ln8 fun p H2 s2 e2 => ?_
    walk_at "rd"
    refine ⟨ea, c.NoNet, p, [c.NoNumber, c.NoShare, c.NoStep, c.NoSuch, c.NoText, c.NoWay, c.NoWish, c.TooMany], false, rfl, s2 _ _ upd_same, X.xi, e2, X.other, ?_⟩
    walk_at "rd"
    exact q _ (Same.trans s1 (Same.trans (Same.new hn) s2))
theorem kit_ll : PySem.W.kitOne K (.type "list") (.type "list") = some true := kit_t (by decide +kernel)
theorem goodV_inj {H : Hp} {m : Int} {p : Addr} (h : GoodV H m (.ref p)) : ∃ s e q1 q2 la x1 y1 x2 y2, H p = some (.tup [.int s, .int e, .ref q1, .ref q2, .bl la]) ∧ H q1 = some (.tup [.int x1, .int y1]) ∧ H q2 = some (.tup [.int x2, .int y2]) := by
  obtain ⟨p', s, e, v1, v2, la, ep, hp, g⟩ := h
  cases ep
  obtain ⟨x1, y1, ⟨q1, rfl, h1⟩, _⟩ := g.f1
  obtain ⟨x2, y2, ⟨q2, rfl, h2⟩, _⟩ := g.f2
  exact ⟨s, e, q1, q2, la, x1, y1, x2, y2, hp, h1, h2⟩
theorem rd__law_good (h : spGood K vs H Q E) : t__law_good K (EN Q) (start ["_law_found", "_law_many", "_law_roads_here", "_law_road_here", "_law_due", "_law_number"] vs) H := by
  obtain ⟨p, l, l', many, rs, rfl, hp, hl', hl, ok, q⟩ := h
  show t__law_good K (EN Q) [some (.ref p), some (.int many), some (.ref l), none, none, none] H
  have S := SqT.of (K := K) hp
  have S' := SqL.of (K := K) hl'
  walk_at "rd"
  refine ⟨_, _, _, _, true, rfl, .of (.tup hp), .ty _, kit_tt, ?_⟩
  walk_at "rd"
  refine ⟨_, _, rfl, .int many, ?_⟩
  walk_at "rd"
  refine iteN (by simp) ?_
  walk_at "rd"
  refine ⟨_, _, _, _, true, rfl, .of (.lst hl'), .ty _, kit_ll, ?_⟩
  walk_at "rd"
  refine iteN (by simp) ?_
  walk_at "rd"
  refine for_zip (xs := rs) (ys := rs) rfl (fun i σ H' => ∃ v3 v4 v5, σ = [some (.ref p), some (.int many), some (.ref l), v3, v4, v5] ∧ Same H H') ⟨none, none, none, rfl, Same.refl _⟩ ?_ ?_ ?_
  · rintro i σ H' _ ⟨v3, v4, v5, _, s⟩
    exact ⟨s.seq S', s.seq hl⟩
  · rintro i x y t σ H1 H2 hx hy ⟨v3, v4, v5, rfl, s1⟩ s2 ht
    rw [hx] at hy
    cases hy
    have hm : x ∈ rs := List.mem_of_getElem? hx
    have s12 := Same.trans s1 s2
    obtain ⟨p', _, _, _, _, _, rfl, _⟩ := id (ok x hm)
    obtain ⟨s, e, q1, q2, la, x1, y1, x2, y2, e0, e1, e2⟩ := goodV_inj ((ok _ hm).mono s12.tups)
    have T0 := SqT.of (K := K) e0
    have T1 := SqT.of (K := K) e1
    have T2 := SqT.of (K := K) e2
    refine s_gt2 (SqT.of ht) rfl ?_
    dsimp only [List.set]
    walk_at "rd"
    refine ⟨_, _, _, _, true, rfl, .of (.tup e0), .ty _, kit_tt, ?_⟩
    walk_at "rd"
    refine .inr (.inr ⟨⟨p', p', _, rfl, rfl, .inr ⟨T0, T0⟩, rfl⟩, ?_⟩)
    walk_at "rd"
    refine ⟨_, _, _, _, true, rfl, .of (.bl la), .ty _, kit_bb, ?_⟩
    walk_at "rd"
    refine s_al ln6 fun l6 H3 s3 e3 => ?_
    have S3 := SqL.of (K := K) e3
    walk_at "rd"
    refine for_list (xs := [.int s, .int e, .int x1, .int y1, .int x2, .int y2]) (fun i σ H' => ∃ v3 v4 v5, σ = [some (.ref p), some (.int many), some (.ref l), v3, v4, v5] ∧ Same H3 H') ⟨_, _, _, rfl, Same.refl _⟩ ?_ ?_ ?_
    · rintro i σ H' _ ⟨v3, v4, v5, _, s⟩
      exact s.seq S3
    · rintro i x σ H4 hx4 ⟨v3, v4, v5, rfl, s4⟩
      obtain ⟨z, rfl⟩ : ∃ z, x = .int z := by
        have hm4 := List.mem_of_getElem? hx4
        simp only [List.mem_cons, List.not_mem_nil, or_false] at hm4
        rcases hm4 with rfl | rfl | rfl | rfl | rfl | rfl <;> exact ⟨_, rfl⟩
      refine s_gn (σ' := [some (.ref p), some (.int many), some (.ref l), v3, v4, some (.int z)]) rfl ?_
      dsimp only
      walk_at "rd"
      refine ⟨_, _, rfl, .int z, ?_⟩
      walk_at "rd"
      exact ⟨_, _, _, rfl, s4⟩
    · rintro σ H4 ⟨v3, v4, v5, rfl, s4⟩
      exact ⟨_, _, _, rfl, Same.trans s12 (Same.trans s3 s4)⟩
  · rintro σ H1 ⟨v3, v4, v5, rfl, s1⟩
    walk_at "rd"
    exact q _ s1
end K3

end

section
set_option maxHeartbeats 1000000
namespace K3
open PySem L2 Fr
local macro_rules | `(tactic| walk_at "rd1") => `(tactic| first | ((with_reducible refine' s_set2 ?hs ?_); (case hs => ((simp only [List.set_cons_succ, List.set_cons_zero]) <;> exact rfl))) | ((with_reducible refine' s_set ?hs ?_); (case hs => ((simp only [List.set_cons_succ, List.set_cons_zero]) <;> exact rfl))) | (with_reducible refine s_seq ?_) | (with_reducible refine s_asg ?_) | (with_reducible refine s_if ?_) | (with_reducible refine s_asgG ?_) | (with_reducible refine s_gsub ?_) | (with_reducible refine s_sl ?_) | (with_reducible refine s_noPart ?_) | (with_reducible refine s_part ?_) | (with_reducible refine s_exI ?_) | (with_reducible refine s_ret ?_) | (with_reducible refine s_op ?_) | (with_reducible refine s_c ?_) | (with_reducible refine s_cons ?_) | (with_reducible refine s_nil ?_) | (with_reducible refine s_call ?_) | (with_reducible refine s_cb ?_) | (with_reducible refine s_test ?_) | (with_reducible refine s_b ?_) | (with_reducible refine s_and ?_) | (with_reducible refine s_or ?_) | (with_reducible refine s_not ?_) | (with_reducible refine s_andV ?_) | (with_reducible refine s_orV ?_) | (with_reducible refine s_notV ?_) | (with_reducible refine s_ifx ?_) | (with_reducible refine s_chain ?_) | (with_reducible refine s_un ?_) | (with_reducible refine s_tup ?_) | (with_reducible refine s_lst ?_) | (with_reducible refine s_drop ?_) | (with_reducible refine s_retN ?_) | (with_reducible refine s_next ?_) | (with_reducible refine s_break ?_) | (with_reducible refine s_cont ?_) | (with_reducible refine s_par ?_) | ((with_reducible refine' s_var ?hv ?_); (case hv => exact rfl)) | (with_reducible refine s_bl ?_) | (with_reducible refine s_rI0 ?_) | (with_reducible refine s_eqI ?_) | (with_reducible refine s_neI ?_) | (with_reducible refine s_eqB ?_) | (with_reducible refine s_rU ?_) | (with_reducible refine s_eqAI ?_) | (with_reducible refine s_neAI ?_) | (with_reducible refine s_eqAB ?_) | (with_reducible refine s_addI ?_) | ((with_reducible refine' s_ixST ?hq ?he ?_); (case hq => assumption); (case he => exact rfl)) | ((with_reducible refine' s_ixSL ?hq ?he ?_); (case hq => assumption); (case he => exact rfl)) | ((with_reducible refine' s_abs1 ?_)) | ((with_reducible refine' s_lenL ?hq ?_); (case hq => assumption)) | ((with_reducible refine' s_lenT ?hq ?_); (case hq => assumption)) | (with_reducible refine s_isN ?_) | (with_reducible refine s_for ?_) | (with_reducible refine s_iList ?_) | (with_reducible refine s_iTup ?_) | (with_reducible refine s_iR1 ?_) | (with_reducible refine s_iR2 ?_) | (with_reducible refine s_iEnum ?_) | (with_reducible refine s_iZip ?_) | ((with_reducible refine' s_jList ?hq ?_); (case hq => assumption)) | ((with_reducible refine' s_jTup ?hq ?_); (case hq => assumption)) | ((with_reducible refine' s_jEnum ?hq ?_); (case hq => assumption)) | ((with_reducible refine' s_jZip ?hq ?hr ?_); (case hq => assumption); (case hr => assumption)) | (with_reducible refine s_notN ?_) | (with_reducible refine s_min2 ?_) | (with_reducible refine s_max2 ?_) | (with_reducible refine s_nx ?_) | (with_reducible refine s_rt ?_) | (with_reducible refine s_bk ?_) | (with_reducible refine s_ct ?_) | (with_reducible refine iteT ?_) | (with_reducible refine iteNt ?_) | (with_reducible refine iteNf ?_) | ((with_reducible refine iteN ?hz ?_); (case hz => exact rfl)) | ((with_reducible refine iteY ?hz ?_); (case hz => exact rfl)) | (with_reducible refine iteF ?_) | ((with_reducible refine' s_ixT ?hq ?he ?_); (case hq => assumption); (case he => exact rfl)) | ((with_reducible refine' s_ixL ?hq ?he ?_); (case hq => assumption); (case he => exact rfl)) | ((with_reducible refine s_rI ?hc ?_); (case hc => first | assumption | exact mulOk (by assumption) (by assumption) | exact (show (0 : Int) < _ by decide) | omega)))
local macro_rules | `(tactic| walk_at "rd") => `(tactic| repeat walk_at "rd1")
variable {K : PySem.W.Frag} {c : Cs} {H : Hp} {vs : List V} {Q : VK} {E : XK}
theorem unl_l {many : Int} {x y : V} (h : placeB many x = false) : unl many x y = false := by
  unfold unl
  rw [h]
  rfl
theorem unl_r {many : Int} {x y : V} (h : placeB many y = false) : unl many x y = false := by
  unfold unl
  rw [h]
  simp
theorem unl_e {many : Int} {x : V} : unl many x x = false := by
  unfold unl
  simp
theorem placeB_odd {many : Int} {x : V} (h : isInt x = false) : placeB many x = false := by
  cases x <;> first | rfl | cases h
theorem isF_ls {H H' : Hp} {x : V} {b : Bool} (s : LSame H H') (h : IsF K H x b) : IsF K H' x b := by
  cases h with
  | two e hx hy => exact .two (s.tup e) (tyOf_ls s hx) (tyOf_ls s hy)
  | long e n => exact .long (s.tup e) n
  | no e n => exact .no (tyOf_ls s e) n
theorem fn_ls {H H' : Hp} {x : V} {b : Bool} (s : LSame H H') (h : FN K H x b) : FN K H' x b := by
  cases h with
  | no h => exact .no (isF_ls s h)
  | yes h f => exact .yes (s.tup h) f
theorem rd__law_road_off (h : spRoadOff K vs H Q E) : t__law_road_off K (EN Q) (start ["_law_road_here", "_law_many", "_law_number", "_law_way", "_law_off_here"] vs) H := by
  obtain ⟨_, many, n, rfl, ⟨p, s, e, v1, v2, la, rfl, hp, g⟩, h2, n0, n1, q⟩ := h
  show t__law_road_off K (EN Q) [some (.ref p), some (.int many), some (.int n), none, none] H
  obtain ⟨x1, y1, f1⟩ := g.f1
  obtain ⟨x2, y2, f2⟩ := g.f2
  have S := SqT.of (K := K) hp
  have d9 : CDivB n 9 := cd (by decide) (by decide)
  have d18 : CDivB n 18 := cd (by decide) (by decide)
  have d36 : CDivB n 36 := cd (by decide) (by decide)
  have a0 := Int.emod_nonneg (n.fdiv 18) (show (2 : Int) ≠ 0 by decide)
  have a1 := Int.emod_lt_of_pos (n.fdiv 18) (show (0 : Int) < 2 by decide)
  have f36 := fd n0 (show (0 : Int) < 36 by decide)
  have mm : CMulX (n.fdiv 18 % 2) (n.fdiv 36) := cml ⟨by omega, by omega⟩
  have pr : 0 ≤ n.fdiv 18 % 2 * n.fdiv 36 := Int.mul_nonneg a0 f36.1
  walk_at "rd"
  refine s_listT S fun lo H1 nlo s1 e1 => ?_
  have F1 : FN K H1 v1 true := (f1.mono s1.tups).fn
  have F2 : FN K H1 v2 true := (f2.mono s1.tups).fn
  have w0 := Int.emod_nonneg n (show (9 : Int) ≠ 0 by decide)
  have w1 := Int.emod_lt_of_pos n (show (0 : Int) < 9 by decide)
  have i0 := Int.emod_nonneg (n.fdiv 9) (show (2 : Int) ≠ 0 by decide)
  have i1 := Int.emod_lt_of_pos (n.fdiv 9) (show (0 : Int) < 2 by decide)
  have S1 : SqL K H1 lo [.int s, .int e, v1, v2, .bl la] := SqL.of e1
  have fin : ∀ (H2 : Hp) (xs : List V), Same H H2 → H2 lo = some (.lst xs) → RoadB K H2 many xs false → rTupOf K [.ref lo] H2 Q := fun H2 xs s2 el rb =>
    s_tupL (SqL.of el) fun p' H3 _ s3 e3 => q _ _ (Same.trans s2 s3) ⟨p', xs, rfl, e3, roadB_same s3 rb⟩
  have five : ∀ {H2 : Hp} {s e ba sl la : V} {S E L : String} {b1 b2 : Bool}, TyOf K H2 s (.type S) → TyOf K H2 e (.type E) → FN K H2 ba b1 → FN K H2 sl b2 → TyOf K H2 la (.type L) → (unl many s e && (b1 && (b2 && isBl la))) = false → RoadB K H2 many [s, e, ba, sl, la] false := fun a b c d e f => f ▸ RoadB.five a b c d e
  have set_ok : ∀ {H2 : Hp} {ys : List V}, Same H1 H2 → Same H (upd H2 lo (.lst ys)) ∧ LSame H2 (upd H2 lo (.lst ys)) ∧ H2 lo = some (.lst [.int s, .int e, v1, v2, .bl la]) := fun {H2 ys} s2 =>
    ⟨(Same.trans s1 s2).updN nlo, LSame.upd (s2 _ _ e1), s2 _ _ e1⟩
  rcases (by omega : n % 9 = 0 ∨ n % 9 = 1 ∨ n % 9 = 2 ∨ n % 9 = 3 ∨ n % 9 = 4 ∨ n % 9 = 5 ∨ n % 9 = 6 ∨ n % 9 = 7 ∨ n % 9 = 8) with ew | ew | ew | ew | ew | ew | ew | ew | ew <;> rw [ew]
  · have S1' := s1.tup S
    walk_at "rd"
    refine s_slT S1' (by show ¬ ((0 : Nat) = 0 ∧ (4 : Nat) = 5); decide) fun p4 H2 _ s2 e2 => ?_
    have S2' := s2.tup S1'
    walk_at "rd"
    refine s_al ln1 fun p1 H3 s3 e3 => ?_
    refine s_catT (s3.tup S2') (SqT.of e3) (by simp) (by simp) (by show 5 + 1 ≤ sizeLine; decide) fun p6 H4 _ s4 e4 => ?_
    walk_at "rd"
    refine s_al ln2 fun l2 H5 s5 e5 => ?_
    walk_at "rd"
    have u := Same.trans s1 (Same.trans s2 (Same.trans s3 (Same.trans s4 s5)))
    rcases (by omega : n.fdiv 9 % 2 = 0 ∨ n.fdiv 9 % 2 = 1) with ei | ei <;> rw [ei]
    · exact s_ixSL (v := .ref p4) (SqL.of e5) rfl (q _ _ u ⟨p4, _, rfl, s5 _ _ (s4 _ _ (s3 _ _ e2)), .len (by show (4 : Nat) ≠ 5; decide)⟩)
    · exact s_ixSL (v := .ref p6) (SqL.of e5) rfl (q _ _ u ⟨p6, _, rfl, s5 _ _ e4, .len (by simp)⟩)
  · walk_at "rd"
    have neg : placeB many (.int (-1 - n.fdiv 18 % 2 * n.fdiv 36)) = false := by
      show (decide (0 ≤ -1 - n.fdiv 18 % 2 * n.fdiv 36) && _) = false
      rw [decide_eq_false (by omega)]
      rfl
    obtain ⟨t1, t2, t3⟩ := set_ok (ys := [.int (-1 - n.fdiv 18 % 2 * n.fdiv 36), .int e, v1, v2, .bl la]) (Same.refl H1)
    obtain ⟨u1, u2, u3⟩ := set_ok (ys := [.int s, .int (-1 - n.fdiv 18 % 2 * n.fdiv 36), v1, v2, .bl la]) (Same.refl H1)
    rcases (by omega : n.fdiv 9 % 2 = 0 ∨ n.fdiv 9 % 2 = 1) with ei | ei <;> rw [ei]
    · refine s_setL (k := 0) e1 (by simp) ?_
      walk_at "rd"
      exact fin _ _ t1 upd_same (five (.int _) (.int _) (fn_ls t2 F1) (fn_ls t2 F2) (.bl la) (by rw [unl_l neg]; rfl))
    · refine s_setL (k := 1) e1 (by simp) ?_
      walk_at "rd"
      exact fin _ _ u1 upd_same (five (.int _) (.int _) (fn_ls u2 F1) (fn_ls u2 F2) (.bl la) (by rw [unl_r neg]; rfl))
  · walk_at "rd"
    have neg : placeB many (.int (many + n.fdiv 18 % 2 * n.fdiv 36)) = false := by
      show (_ && decide (many + n.fdiv 18 % 2 * n.fdiv 36 < many)) = false
      rw [show decide (many + n.fdiv 18 % 2 * n.fdiv 36 < many) = false from decide_eq_false (by omega), Bool.and_false]
    obtain ⟨t1, t2, t3⟩ := set_ok (ys := [.int (many + n.fdiv 18 % 2 * n.fdiv 36), .int e, v1, v2, .bl la]) (Same.refl H1)
    obtain ⟨u1, u2, u3⟩ := set_ok (ys := [.int s, .int (many + n.fdiv 18 % 2 * n.fdiv 36), v1, v2, .bl la]) (Same.refl H1)
    rcases (by omega : n.fdiv 9 % 2 = 0 ∨ n.fdiv 9 % 2 = 1) with ei | ei <;> rw [ei]
    · refine s_setL (k := 0) e1 (by simp) ?_
      walk_at "rd"
      exact fin _ _ t1 upd_same (five (.int _) (.int _) (fn_ls t2 F1) (fn_ls t2 F2) (.bl la) (by rw [unl_l neg]; rfl))
    · refine s_setL (k := 1) e1 (by simp) ?_
      walk_at "rd"
      exact fin _ _ u1 upd_same (five (.int _) (.int _) (fn_ls u2 F1) (fn_ls u2 F2) (.bl la) (by rw [unl_r neg]; rfl))
  · walk_at "rd"
    refine ⟨_, rfl, fun v T H2 s2 tv nv => ?_⟩
    walk_at "rd"
    have neg : placeB many v = false := placeB_odd nv
    obtain ⟨t1, t2, t3⟩ := set_ok (ys := [v, .int e, v1, v2, .bl la]) s2
    obtain ⟨u1, u2, u3⟩ := set_ok (ys := [.int s, v, v1, v2, .bl la]) s2
    have G1 := fn_same s2 F1
    have G2 := fn_same s2 F2
    rcases (by omega : n.fdiv 9 % 2 = 0 ∨ n.fdiv 9 % 2 = 1) with ei | ei <;> rw [ei]
    · refine s_setL (k := 0) t3 (by simp) ?_
      walk_at "rd"
      exact fin _ _ t1 upd_same (five (tyOf_ls t2 tv) (.int _) (fn_ls t2 G1) (fn_ls t2 G2) (.bl la) (by rw [unl_l neg]; rfl))
    · refine s_setL (k := 1) u3 (by simp) ?_
      walk_at "rd"
      exact fin _ _ u1 upd_same (five (.int _) (tyOf_ls u2 tv) (fn_ls u2 G1) (fn_ls u2 G2) (.bl la) (by rw [unl_r neg]; rfl))
  · walk_at "rd"
    obtain ⟨t1, t2, t3⟩ := set_ok (ys := [.int e, .int e, v1, v2, .bl la]) (Same.refl H1)
    obtain ⟨u1, u2, u3⟩ := set_ok (ys := [.int s, .int s, v1, v2, .bl la]) (Same.refl H1)
    rcases (by omega : n.fdiv 9 % 2 = 0 ∨ n.fdiv 9 % 2 = 1) with ei | ei <;> rw [ei]
    · refine s_ixSL (v := .int e) S1 rfl ?_
      walk_at "rd"
      rw [ei]
      refine s_setL (k := 0) e1 (by simp) ?_
      walk_at "rd"
      exact fin _ _ t1 upd_same (five (.int _) (.int _) (fn_ls t2 F1) (fn_ls t2 F2) (.bl la) (by rw [unl_e]; rfl))
    · refine s_ixSL (v := .int s) S1 rfl ?_
      walk_at "rd"
      rw [ei]
      refine s_setL (k := 1) e1 (by simp) ?_
      walk_at "rd"
      exact fin _ _ u1 upd_same (five (.int _) (.int _) (fn_ls u2 F1) (fn_ls u2 F2) (.bl la) (by rw [unl_e]; rfl))
  · walk_at "rd"
    refine ⟨_, rfl, fun v H2 s2 fv => ?_⟩
    walk_at "rd"
    obtain ⟨t1, t2, t3⟩ := set_ok (ys := [.int s, .int e, v, v2, .bl la]) s2
    refine s_setL (k := 2) t3 (by simp) ?_
    walk_at "rd"
    exact fin _ _ t1 upd_same (five (.int _) (.int _) (fn_ls t2 fv) (fn_ls t2 (fn_same s2 F2)) (.bl la) (by simp))
  · walk_at "rd"
    refine ⟨_, rfl, fun v H2 s2 fv => ?_⟩
    walk_at "rd"
    obtain ⟨t1, t2, t3⟩ := set_ok (ys := [.int s, .int e, v1, v, .bl la]) s2
    refine s_setL (k := 3) t3 (by simp) ?_
    walk_at "rd"
    exact fin _ _ t1 upd_same (five (.int _) (.int _) (fn_ls t2 (fn_same s2 F1)) (fn_ls t2 fv) (.bl la) (by simp))
  all_goals
    walk_at "rd"
    refine s_al ln1 fun q1 H2 s2 e2 => ?_
    walk_at "rd"
    refine s_al ln1 fun q2 H3 s3 e3 => ?_
    walk_at "rd"
    refine s_al ln8 fun l8 H4 s4 e4 => ?_
    walk_at "rd"
    have u4 := Same.trans s2 (Same.trans s3 s4)
    have pick : ∃ v T, atI ([.non, .int 0, .int 1, .str "", .str "True", .ref q1, .ref q2, .int 2] : List V) (n.fdiv 9 % 8) = some v ∧ isBl v = false ∧ TyOf K H4 v (.type T) := by
      have c0 := Int.emod_nonneg (n.fdiv 9) (show (8 : Int) ≠ 0 by decide)
      have c1 := Int.emod_lt_of_pos (n.fdiv 9) (show (0 : Int) < 8 by decide)
      generalize n.fdiv 9 % 8 = j at c0 c1
      rcases (by omega : j = 0 ∨ j = 1 ∨ j = 2 ∨ j = 3 ∨ j = 4 ∨ j = 5 ∨ j = 6 ∨ j = 7) with rfl | rfl | rfl | rfl | rfl | rfl | rfl | rfl
      · exact ⟨_, _, rfl, rfl, .non⟩
      · exact ⟨_, _, rfl, rfl, .int _⟩
      · exact ⟨_, _, rfl, rfl, .int _⟩
      · exact ⟨_, _, rfl, rfl, .str _⟩
      · exact ⟨_, _, rfl, rfl, .str _⟩
      · exact ⟨_, _, rfl, rfl, .tup (s4 _ _ (s3 _ _ e2))⟩
      · exact ⟨_, _, rfl, rfl, .lst (s4 _ _ e3)⟩
      · exact ⟨_, _, rfl, rfl, .int _⟩
    obtain ⟨v, T, hv, nv, tv⟩ := pick
    refine s_ixSL (SqL.of e4) hv ?_
    walk_at "rd"
    obtain ⟨t1, t2, t3⟩ := set_ok (ys := [.int s, .int e, v1, v2, v]) u4
    refine s_setL (k := 4) t3 (by simp) ?_
    walk_at "rd"
    exact fin _ _ t1 upd_same (five (.int _) (.int _) (fn_ls t2 (fn_same u4 F1)) (fn_ls t2 (fn_same u4 F2)) (tyOf_ls t2 tv) (by rw [nv]; simp))
end K3

end

section
set_option maxHeartbeats 1000000
namespace K3
open PySem L2 Fr
local macro_rules | `(tactic| walk_at "rd1") => `(tactic| first | ((with_reducible refine' s_set2 ?hs ?_); (case hs => ((simp only [List.set_cons_succ, List.set_cons_zero]) <;> exact rfl))) | ((with_reducible refine' s_set ?hs ?_); (case hs => ((simp only [List.set_cons_succ, List.set_cons_zero]) <;> exact rfl))) | (with_reducible refine s_seq ?_) | (with_reducible refine s_asg ?_) | (with_reducible refine s_if ?_) | (with_reducible refine s_asgG ?_) | (with_reducible refine s_gsub ?_) | (with_reducible refine s_sl ?_) | (with_reducible refine s_noPart ?_) | (with_reducible refine s_part ?_) | (with_reducible refine s_exI ?_) | (with_reducible refine s_ret ?_) | (with_reducible refine s_op ?_) | (with_reducible refine s_c ?_) | (with_reducible refine s_cons ?_) | (with_reducible refine s_nil ?_) | (with_reducible refine s_call ?_) | (with_reducible refine s_cb ?_) | (with_reducible refine s_test ?_) | (with_reducible refine s_b ?_) | (with_reducible refine s_and ?_) | (with_reducible refine s_or ?_) | (with_reducible refine s_not ?_) | (with_reducible refine s_andV ?_) | (with_reducible refine s_orV ?_) | (with_reducible refine s_notV ?_) | (with_reducible refine s_ifx ?_) | (with_reducible refine s_chain ?_) | (with_reducible refine s_un ?_) | (with_reducible refine s_tup ?_) | (with_reducible refine s_lst ?_) | (with_reducible refine s_drop ?_) | (with_reducible refine s_retN ?_) | (with_reducible refine s_next ?_) | (with_reducible refine s_break ?_) | (with_reducible refine s_cont ?_) | (with_reducible refine s_par ?_) | ((with_reducible refine' s_var ?hv ?_); (case hv => exact rfl)) | (with_reducible refine s_bl ?_) | (with_reducible refine s_rI0 ?_) | (with_reducible refine s_eqI ?_) | (with_reducible refine s_neI ?_) | (with_reducible refine s_eqB ?_) | (with_reducible refine s_rU ?_) | (with_reducible refine s_eqAI ?_) | (with_reducible refine s_neAI ?_) | (with_reducible refine s_eqAB ?_) | (with_reducible refine s_addI ?_) | ((with_reducible refine' s_ixST ?hq ?he ?_); (case hq => assumption); (case he => exact rfl)) | ((with_reducible refine' s_ixSL ?hq ?he ?_); (case hq => assumption); (case he => exact rfl)) | ((with_reducible refine' s_abs1 ?_)) | ((with_reducible refine' s_lenL ?hq ?_); (case hq => assumption)) | ((with_reducible refine' s_lenT ?hq ?_); (case hq => assumption)) | (with_reducible refine s_isN ?_) | (with_reducible refine s_for ?_) | (with_reducible refine s_iList ?_) | (with_reducible refine s_iTup ?_) | (with_reducible refine s_iR1 ?_) | (with_reducible refine s_iR2 ?_) | (with_reducible refine s_iEnum ?_) | (with_reducible refine s_iZip ?_) | ((with_reducible refine' s_jList ?hq ?_); (case hq => assumption)) | ((with_reducible refine' s_jTup ?hq ?_); (case hq => assumption)) | ((with_reducible refine' s_jEnum ?hq ?_); (case hq => assumption)) | ((with_reducible refine' s_jZip ?hq ?hr ?_); (case hq => assumption); (case hr => assumption)) | (with_reducible refine s_notN ?_) | (with_reducible refine s_min2 ?_) | (with_reducible refine s_max2 ?_) | (with_reducible refine s_nx ?_) | (with_reducible refine s_rt ?_) | (with_reducible refine s_bk ?_) | (with_reducible refine s_ct ?_) | (with_reducible refine iteT ?_) | (with_reducible refine iteNt ?_) | (with_reducible refine iteNf ?_) | ((with_reducible refine iteN ?hz ?_); (case hz => exact rfl)) | ((with_reducible refine iteY ?hz ?_); (case hz => exact rfl)) | (with_reducible refine iteF ?_) | ((with_reducible refine' s_ixT ?hq ?he ?_); (case hq => assumption); (case he => exact rfl)) | ((with_reducible refine' s_ixL ?hq ?he ?_); (case hq => assumption); (case he => exact rfl)) | ((with_reducible refine s_rI ?hc ?_); (case hc => first | assumption | exact mulOk (by assumption) (by assumption) | exact (show (0 : Int) < _ by decide) | omega)))
local macro_rules | `(tactic| walk_at "rd") => `(tactic| repeat walk_at "rd1")
variable {K : PySem.W.Frag} {c : Cs} {H : Hp} {vs : List V} {Q : VK} {E : XK}
theorem put {H H1 H2 : Hp} {acc : Addr} {ys zs : List V} {v : V} {many : Int} (n : H acc = none) (s1 : Same H H1) (s2 : Same H1 H2) (ea : H1 acc = some (.lst ys)) (hy : ∀ r ∈ ys, GoodV H1 many r) (hv : GoodV H2 many v) (hz : ∀ r ∈ zs, r ∈ ys ∨ r = v) :
    Same H (upd H2 acc (.lst zs)) ∧ ∀ r ∈ zs, GoodV (upd H2 acc (.lst zs)) many r := by
  have l : LSame H2 (upd H2 acc (.lst zs)) := LSame.upd (s2 _ _ ea)
  refine ⟨(Same.trans s1 s2).updN n, fun r hr => ?_⟩
  rcases hz r hr with h | rfl
  · exact ((hy r h).mono s2.tups).mono l.tups
  · exact hv.mono l.tups
theorem mem_push {ys : List V} {v : V} : ∀ r ∈ ys ++ [v], r ∈ ys ∨ r = v := fun r hr => by simpa using hr
theorem mem_set' {ys : List V} {v : V} {j : Nat} : ∀ r ∈ ys.set j v, r ∈ ys ∨ r = v := fun r hr => List.mem_or_eq_of_mem_set hr
theorem goodV_plain {H : Hp} {m : Int} {rs : List V} (h : ∀ r ∈ rs, GoodV H m r) : rs.all plainV = true := by
  rw [List.all_eq_true]
  intro r hr
  obtain ⟨p, _, _, _, _, _, rfl, _⟩ := h r hr
  rfl
theorem frg_more {H : Hp} {q : Addr} {x y m : Int} (x0 : 0 ≤ x) (y0 : 0 < y) (g : Int.gcd x y = 1) (m0 : 0 ≤ m) (h : H q = some (.tup [.int (x + m * y), .int y])) : FrG H (.ref q) (x + m * y) y :=
  ⟨⟨q, rfl, h⟩, Int.add_nonneg x0 (Int.mul_nonneg m0 (Int.le_of_lt y0)), y0, by rw [Int.gcd_add_mul_right_left]; exact g⟩
theorem compR {acc : Addr} {g : TG} {tc : TT} {te : TE} {σ : St} {H : Hp} {Q : VK} {lo : Int} {n : Nat} (Pv : Nat → St → Hp → Prop) (h0 : Pv 0 σ (upd H acc (.lst []))) (hs : ∀ i σ H, i < n → Pv i σ H → g (.int (lo + i)) σ H (blk acc tc te (Pv (i + 1)))) (hd : ∀ σ H, Pv n σ H → Q (.ref acc) H) : CompW (Itr lo n) acc g tc te σ H Q := comp_range Pv h0 hs hd
theorem blkN {acc : Addr} {te : TE} {N : St → Hp → Prop} {σ : St} {H : Hp} (h : te σ H fun v H5 => ∃ ys, H5 acc = some (.lst ys) ∧ ys.length < sizeLine ∧ N σ (upd H5 acc (.lst (ys ++ [v])))) : blk acc tNoIf te N σ H := show (if true = true then _ else N σ H) from iteT h
theorem rd__law_roads (h : spLRoads K vs H Q E) : t__law_roads K (EN Q) (start ["_law_script","_law_many","_law_roads_here","_law_k","_law_more","_law_start","_law_end","_law_base","_law_slope","_law_lane"] vs) H := by
  obtain ⟨a, ns, many, rfl, S, n63, h2, h6, q⟩ := h
  show t__law_roads K (EN Q) [some (.ref a), some (.int many), none, none, none, none, none, none, none, none] H
  have le : (ns.map V.int).length = ns.length := List.length_map _
  refine s_seq ?_
  refine s_asg ?_
  refine s_comp (σ' := [none, some (.int many), some (.ref a)]) rfl ?_
  walk_at "rd"
  rw [le]
  refine s_jR2 (by decide) (by split <;> omega) ?_
  intro acc na
  obtain ⟨n1, en1⟩ : ∃ n1, n1 = ((if (ns.length : Int) < 13 then (ns.length : Int) else 13) - 1).toNat := ⟨_, rfl⟩
  have b1 : n1 ≤ 12 ∧ n1 < ns.length ∨ n1 = 0 := by split at en1 <;> omega
  have b12 : 13 < ns.length → n1 = 12 := by intro; split at en1 <;> omega
  rw [← en1]
  refine compR (fun i σ H' => (∃ v, σ = [v, some (.int many), some (.ref a)]) ∧ Same H H' ∧ ∃ ys, H' acc = some (.lst ys) ∧ ys.length = i ∧ ∀ r ∈ ys, GoodV H' many r) ⟨⟨_, rfl⟩, Same.new na, [], upd_same, rfl, fun r hr => by cases hr⟩ ?_ ?_
  · rintro i σ H1 hi ⟨⟨v, rfl⟩, s1, ys, ea, hl, hy⟩
    refine s_gn (σ' := [some (.int (1 + i)), some (.int many), some (.ref a)]) rfl ?_
    have S1 := s1.seq S
    have hj : 1 + i < ns.length := by omega
    have ei : (1 + (i : Int)) = ((1 + i : Nat) : Int) := by omega
    refine blkN ?_
    walk_at "rd"
    rw [ei]
    refine s_ixSL S1 (atI_nat (v := .int ns[1 + i]) (by simp [hj])) ?_
    walk_at "rd"
    refine ⟨_, _, rfl, h2, h6, fun w H2 s2 gw => ?_⟩
    obtain ⟨t1, t2⟩ := put (zs := ys ++ [w]) na s1 s2 ea hy gw mem_push
    exact ⟨ys, s2 _ _ ea, Nat.lt_of_le_of_lt (show ys.length ≤ 12 by omega) (by decide), ⟨_, rfl⟩, t1, _, upd_same, by simp [hl], t2⟩
  · rintro σ H1 ⟨⟨v, rfl⟩, s1, ys, ea, hl, hy⟩
    have S1 := s1.seq S
    have E1 : SqL K H1 acc ys := SqL.of ea
    walk_at "rd"
    rw [le]
    refine s_jR2 (by decide) (by omega) ?_
    refine for_range (fun i σ H' => (∃ v3 v4 v5 v6 v7 v8 v9, σ = [some (.ref a), some (.int many), some (.ref acc), v3, v4, v5, v6, v7, v8, v9]) ∧ Same H H' ∧ ∃ ys, H' acc = some (.lst ys) ∧ ys.length = n1 ∧ ∀ r ∈ ys, GoodV H' many r) ⟨⟨_, _, _, _, _, _, _, rfl⟩, s1, ys, ea, hl, hy⟩ ?_ ?_
    · clear S1 E1 s1 ea hl hy ys
      rintro i σ H1 hi ⟨⟨v3, v4, v5, v6, v7, v8, v9, rfl⟩, s1, ys, ea, hl, hy⟩
      have hj : 13 + i < ns.length := by omega
      rw [b12 (by omega)] at hl
      have S1 := s1.seq S
      have E1 : SqL K H1 acc ys := SqL.of ea
      obtain ⟨j, ej, j12⟩ : ∃ j : Nat, (13 + (i : Int)) % 12 = (j : Int) ∧ j < 12 := ⟨(13 + i) % 12, by omega, by omega⟩
      have hjl : j < ys.length := by omega
      have hm : ys[j] ∈ ys := List.getElem_mem hjl
      obtain ⟨p, s, e, v1, v2, la, er, hp, g⟩ := hy _ hm
      obtain ⟨x1, y1, ⟨q1, rfl, w1⟩, x10, y10, g1⟩ := g.f1
      obtain ⟨x2, y2, ⟨q2, rfl, w2⟩, x20, y20, g2⟩ := g.f2
      refine s_gn (σ' := [some (.ref a), some (.int many), some (.ref acc), some (.int (13 + i)), v4, v5, v6, v7, v8, v9]) rfl ?_
      dsimp only
      walk_at "rd"
      rw [ej]
      refine s_ixSL E1 (atI_nat (v := .ref p) (by rw [List.getElem?_eq_getElem hjl, er])) ?_
      refine s_gt5 (SqT.of hp) rfl ?_
      dsimp only [List.set]
      have ei : (13 + (i : Int)) = ((13 + i : Nat) : Int) := by omega
      walk_at "rd"
      refine s_ixSL S1 (v := .int ns[13 + i]) (by rw [ei]; exact atI_nat (by simp [hj])) ?_
      have c1 : CMulX ns[13 + i] 69621 := cm (by decide)
      have m0 : 0 ≤ ns[13 + i] * 69621 % 2147483647 := Int.emod_nonneg _ (by decide)
      have m1 : ns[13 + i] * 69621 % 2147483647 < 2147483647 := Int.emod_lt_of_pos _ (by decide)
      have d12 : CDivB (13 + (i : Int)) 12 := cd (by decide) (by decide)
      walk_at "rd"
      generalize ns[13 + i] * 69621 % 2147483647 = m at m0 m1 ⊢
      have T1 := SqT.of (K := K) w1
      have T2 := SqT.of (K := K) w2
      have cy1 : CMulX m y1 := cml ⟨by omega, by omega⟩
      have cy2 : CMulX m y2 := cml ⟨by omega, by omega⟩
      by_cases hc : (13 + (i : Int)).fdiv 12 % 2 = 1
      · refine iteY (decide_eq_true hc) ?_
        walk_at "rd"
        refine s_al ln2 fun q3 H2 s2 e2 => ?_
        walk_at "rd"
        refine s_al ln5 fun p5 H3 s3 e3 => ?_
        walk_at "rd"
        rw [ej]
        have ea3 := s3 _ _ (s2 _ _ ea)
        have s23 := Same.trans s2 s3
        refine s_setL (k := j) ea3 hjl ?_
        obtain ⟨t1, t2⟩ := put (v := .ref p5) (zs := ys.set j (.ref p5)) na s1 s23 ea hy ⟨p5, _, _, _, _, _, rfl, e3, g.s0, g.s1, g.e0, g.e1, g.ne, ⟨_, _, (frg_more x10 y10 g1 m0 e2).mono s3.tups⟩, ⟨_, _, ⟨⟨q2, rfl, s23 _ _ w2⟩, x20, y20, g2⟩⟩⟩ mem_set'
        walk_at "rd"
        exact ⟨⟨_, _, _, _, _, _, _, rfl⟩, t1, _, upd_same, by rw [List.length_set, hl, b12 (by omega)], t2⟩
      · refine iteN (decide_eq_false hc) ?_
        walk_at "rd"
        refine s_al ln2 fun q3 H2 s2 e2 => ?_
        walk_at "rd"
        refine s_al ln5 fun p5 H3 s3 e3 => ?_
        walk_at "rd"
        rw [ej]
        have ea3 := s3 _ _ (s2 _ _ ea)
        have s23 := Same.trans s2 s3
        refine s_setL (k := j) ea3 hjl ?_
        obtain ⟨t1, t2⟩ := put (v := .ref p5) (zs := ys.set j (.ref p5)) na s1 s23 ea hy ⟨p5, _, _, _, _, _, rfl, e3, g.s0, g.s1, g.e0, g.e1, g.ne, ⟨_, _, ⟨⟨q1, rfl, s23 _ _ w1⟩, x10, y10, g1⟩⟩, ⟨_, _, (frg_more x20 y20 g2 m0 e2).mono s3.tups⟩⟩ mem_set'
        walk_at "rd"
        exact ⟨⟨_, _, _, _, _, _, _, rfl⟩, t1, _, upd_same, by rw [List.length_set, hl, b12 (by omega)], t2⟩
    · clear S1 E1 s1 ea hl hy ys
      rintro σ H1 ⟨⟨v3, v4, v5, v6, v7, v8, v9, rfl⟩, s1, ys, ea, hl, hy⟩
      have S1 := s1.seq S
      have E1 : SqL K H1 acc ys := SqL.of ea
      walk_at "rd"
      refine ⟨_, _, _, rfl, S1, by decide, fun z => ?_⟩
      have d5 : CDivB z 5 := cd (by decide) (by decide)
      walk_at "rd"
      by_cases hc : z.fdiv 5 % 8 = 1
      · refine iteY (decide_eq_true hc) ?_
        walk_at "rd"
        refine s_comp (σ' := [none, some (.int many)]) rfl ?_
        walk_at "rd"
        refine s_jR1 (by omega) ?_
        intro ac2 na2
        obtain ⟨n2, en2⟩ : ∃ n2, n2 = (12 - (ys.length : Int)).toNat := ⟨_, rfl⟩
        rw [← en2]
        refine compR (fun i σ H' => (∃ v, σ = [v, some (.int many)]) ∧ Same H1 H' ∧ ∃ zs, H' ac2 = some (.lst zs) ∧ zs.length = i ∧ ∀ r ∈ zs, GoodV H' many r) ⟨⟨_, rfl⟩, Same.new na2, [], upd_same, rfl, fun r hr => by cases hr⟩ ?_ ?_
        · rintro i σ H2 hi ⟨⟨v, rfl⟩, s2, zs, ea2, hl2, hy2⟩
          refine s_gn (σ' := [some (.int (0 + i)), some (.int many)]) rfl ?_
          refine blkN ?_
          have c1 : CMulX (0 + (i : Int)) (0 + (i : Int)) := cml ⟨by omega, by omega⟩
          have c2 : CMulX 7 (0 + (i : Int)) := cml (by decide)
          walk_at "rd"
          refine ⟨_, _, rfl, h2, h6, fun w H3 s3 gw => ?_⟩
          obtain ⟨t1, t2⟩ := put (zs := zs ++ [w]) na2 s2 s3 ea2 hy2 gw mem_push
          exact ⟨zs, s3 _ _ ea2, Nat.lt_of_le_of_lt (show zs.length ≤ 12 by omega) (by decide), ⟨_, rfl⟩, t1, _, upd_same, by simp [hl2], t2⟩
        · rintro σ H2 ⟨⟨v, rfl⟩, s2, zs, ea2, hl2, hy2⟩
          refine s_catL (s2.seq E1) (SqL.of ea2) (Nat.le_trans (show ys.length + zs.length ≤ 12 by omega) (by decide)) fun l H3 nl s3 e3 => ?_
          walk_at "rd"
          have nl0 : H l = none := by
            cases hh : H l with
            | none => rfl
            | some o => rw [(Same.trans s1 s2) _ _ hh] at nl; cases nl
          refine q l _ H3 nl0 (Same.trans s1 (Same.trans s2 s3)) e3 (by rw [List.length_append]; omega) fun r hr => ?_
          rcases List.mem_append.1 hr with h | h
          · exact ((hy r h).mono s2.tups).mono s3.tups
          · exact (hy2 r h).mono s3.tups
      · refine iteN (decide_eq_false hc) ?_
        walk_at "rd"
        exact q acc ys H1 na s1 ea (by omega) hy
theorem manyB_odd {x : V} (h : isInt x = false) : manyB x = false := by
  cases x <;> first | rfl | cases h
theorem manyB_out {i : Int} (h : i < 2 ∨ 6 < i) : manyB (.int i) = false := by
  show (decide (2 ≤ i) && decide (i ≤ 6)) = false
  rcases h with h | h
  · rw [decide_eq_false (by omega : ¬ 2 ≤ i)]
    rfl
  · rw [decide_eq_false (by omega : ¬ i ≤ 6), Bool.and_false]
theorem rd__law_off (h : spOff K vs H Q E) : t__law_off K (EN Q) (start ["_law_many","_law_roads_here","_law_number","_law_at","_law_road_here","_law_far","_law_long"] vs) H := by
  obtain ⟨many, l, rs, n, rfl, S, l12, h2, h6, gd, n0, n1, q⟩ := h
  show t__law_off K (EN Q) [some (.int many), some (.ref l), some (.int n), none, none, none, none] H
  have d7 : CDivB n 7 := cd (by decide) (by decide)
  have d49 : CDivB n 49 := cd (by decide) (by decide)
  have d91 : CDivB n 91 := cd (by decide) (by decide)
  have d98 : CDivB n 98 := cd (by decide) (by decide)
  have f7 := fd n0 (show (0 : Int) < 7 by decide)
  have f91 := fd n0 (show (0 : Int) < 91 by decide)
  have f98 := fd n0 (show (0 : Int) < 98 by decide)
  have a0 := Int.emod_nonneg (n.fdiv 49) (show (2 : Int) ≠ 0 by decide)
  have a1 := Int.emod_lt_of_pos (n.fdiv 49) (show (0 : Int) < 2 by decide)
  have mm : CMulX (n.fdiv 49 % 2) (n.fdiv 98) := cml ⟨by omega, by omega⟩
  have pr : 0 ≤ n.fdiv 49 % 2 * n.fdiv 98 := Int.mul_nonneg a0 f98.1
  walk_at "rd"
  by_cases c0 : n % 7 = 0
  · refine iteY (decide_eq_true c0) ?_
    walk_at "rd"
    refine ⟨_, rfl, fun v T H1 s1 tv nv => ?_⟩
    walk_at "rd"
    refine s_al ln6 fun l6 H2 s2 e2 => ?_
    generalize n.fdiv 49 % 2 * n.fdiv 98 = far at pr e2
    have pick : ∃ v' T', atI ([.int 0, .int 1, .int 7, .int (7 + far), .int (-1 - far), v] : List V) (n.fdiv 7 % 6) = some v' ∧ manyB v' = false ∧ TyOf K H2 v' (.type T') := by
      have c0 := Int.emod_nonneg (n.fdiv 7) (show (6 : Int) ≠ 0 by decide)
      have c1 := Int.emod_lt_of_pos (n.fdiv 7) (show (0 : Int) < 6 by decide)
      generalize n.fdiv 7 % 6 = j at c0 c1
      rcases (by omega : j = 0 ∨ j = 1 ∨ j = 2 ∨ j = 3 ∨ j = 4 ∨ j = 5) with rfl | rfl | rfl | rfl | rfl | rfl
      · exact ⟨_, _, rfl, rfl, .int _⟩
      · exact ⟨_, _, rfl, rfl, .int _⟩
      · exact ⟨_, _, rfl, rfl, .int _⟩
      · exact ⟨_, _, rfl, manyB_out (by omega), .int _⟩
      · exact ⟨_, _, rfl, manyB_out (by omega), .int _⟩
      · exact ⟨_, _, rfl, manyB_odd nv, tyOf_same s2 tv⟩
    obtain ⟨v', T', hv, nv', tv'⟩ := pick
    walk_at "rd"
    refine s_ixSL (SqL.of e2) hv ?_
    walk_at "rd"
    refine s_al ln2 fun p H3 s3 e3 => ?_
    exact q p v' l rs T' H3 (Same.trans s1 (Same.trans s2 s3)) e3 ((Same.trans s1 (Same.trans s2 s3)).seq S) (tyOf_same s3 tv') (.inl nv') (goodV_plain gd) (by omega)
  · refine iteN (decide_eq_false c0) ?_
    walk_at "rd"
    by_cases c1 : n % 7 = 1
    · refine iteY (decide_eq_true c1) ?_
      walk_at "rd"
      have k0 := Int.emod_nonneg (n.fdiv 7) (show (3 : Int) ≠ 0 by decide)
      have k1 := Int.emod_lt_of_pos (n.fdiv 7) (show (0 : Int) < 3 by decide)
      generalize n.fdiv 7 % 3 = k at k0 k1 ⊢
      refine s_comp (σ' := [none, some (.int many)]) rfl ?_
      walk_at "rd"
      refine s_jR1 (by omega) ?_
      intro acc na
      obtain ⟨n2, en2⟩ : ∃ n2, n2 = (13 - (rs.length : Int) + k).toNat := ⟨_, rfl⟩
      rw [← en2]
      refine compR (fun i σ H' => (∃ v, σ = [v, some (.int many)]) ∧ Same H H' ∧ ∃ zs, H' acc = some (.lst zs) ∧ zs.length = i ∧ ∀ r ∈ zs, GoodV H' many r) ⟨⟨_, rfl⟩, Same.new na, [], upd_same, rfl, fun r hr => by cases hr⟩ ?_ ?_
      · rintro i σ H2 hi ⟨⟨v, rfl⟩, s2, zs, ea2, hl2, hy2⟩
        refine s_gn (σ' := [some (.int (0 + i)), some (.int many)]) rfl ?_
        refine blkN ?_
        walk_at "rd"
        refine ⟨_, _, rfl, h2, h6, fun w H3 s3 gw => ?_⟩
        obtain ⟨t1, t2⟩ := put (zs := zs ++ [w]) na s2 s3 ea2 hy2 gw mem_push
        exact ⟨zs, s3 _ _ ea2, Nat.lt_of_le_of_lt (show zs.length ≤ 15 by omega) (by decide), ⟨_, rfl⟩, t1, _, upd_same, by simp [hl2], t2⟩
      · rintro σ H2 ⟨⟨v, rfl⟩, s2, zs, ea2, hl2, hy2⟩
        refine s_catL (s2.seq S) (SqL.of ea2) (Nat.le_trans (show rs.length + zs.length ≤ 15 by omega) (by decide)) fun l' H3 nl s3 e3 => ?_
        walk_at "rd"
        refine s_al ln2 fun p H4 s4 e4 => ?_
        have s34 := Same.trans s3 s4
        have al : ∀ r ∈ rs ++ zs, GoodV H2 many r := fun r hr => by
          rcases List.mem_append.1 hr with h | h
          · exact (gd r h).mono s2.tups
          · exact hy2 r h
        have ll : (rs ++ zs).length = rs.length + zs.length := List.length_append
        exact q p (.int many) l' (rs ++ zs) _ H4 (Same.trans s2 s34) e4 (SqL.of (s4 _ _ e3)) (.int many) (.inr (.inl (by omega))) (goodV_plain al) (by omega)
    · refine iteN (decide_eq_false c1) ?_
      walk_at "rd"
      obtain ⟨j, ej, jl⟩ : ∃ j : Nat, n.fdiv 7 % ((rs.length : Int) + 1) = (j : Int) ∧ j ≤ rs.length := by
        have k0 := Int.emod_nonneg (n.fdiv 7) (show (rs.length : Int) + 1 ≠ 0 by omega)
        have k1 := Int.emod_lt_of_pos (n.fdiv 7) (show (0 : Int) < (rs.length : Int) + 1 by omega)
        obtain ⟨j, ej⟩ := Int.eq_ofNat_of_zero_le k0
        exact ⟨j, ej, by omega⟩
      rw [ej]
      refine ⟨_, _, rfl, h2, h6, fun v0 H1 s1 g0 => ?_⟩
      have S1 := s1.seq S
      walk_at "rd"
      by_cases c2 : (j : Int) < (rs.length : Int)
      · refine iteY (decide_eq_true c2) ?_
        walk_at "rd"
        have hj : j < rs.length := by omega
        refine s_ixSL S1 (atI_nat (v := rs[j]) (List.getElem?_eq_getElem hj)) ?_
        obtain ⟨w, hw⟩ : ∃ w, w = rs[j] := ⟨_, rfl⟩
        have gw : GoodV H1 many w := hw ▸ (gd _ (List.getElem_mem hj)).mono s1.tups
        rw [← hw]
        walk_at "rd"
        refine s_slL S1 fun pa H2 _ t2 e2 => ?_
        rw [cut_to] at e2
        walk_at "rd"
        refine ⟨_, _, _, rfl, gw.mono t2.tups, h2, f91.1, by omega, fun v H3 t3 b3 => ?_⟩
        walk_at "rd"
        refine s_al ln1 fun pb H4 t4 e4 => ?_
        have l1 : (rs.take j).length ≤ 12 := by rw [List.length_take]; omega
        have l2 : (rs.drop (j + 1)).length ≤ 12 - j := by rw [List.length_drop]; omega
        have l1' : (rs.take j).length ≤ j := by rw [List.length_take]; omega
        have t24 := Same.trans t2 (Same.trans t3 t4)
        have t34 := Same.trans t3 t4
        refine s_catL (SqL.of (t34 _ _ e2)) (SqL.of e4) (Nat.le_trans (show (rs.take j).length + 1 ≤ 13 by omega) (by decide)) fun pc H5 _ t5 e5 => ?_
        have S5 := t5.seq (t24.seq S1)
        walk_at "rd"
        refine s_slL S5 fun pd H6 _ t6 e6 => ?_
        rw [show (j : Int) + 1 = ((j + 1 : Nat) : Int) from rfl, cut_from] at e6
        have ll : (rs.take j ++ [v]).length = (rs.take j).length + 1 := by simp
        refine s_catL (SqL.of (t6 _ _ e5)) (SqL.of e6) (Nat.le_trans (show (rs.take j ++ [v]).length + (rs.drop (j + 1)).length ≤ 20 by omega) (by decide)) fun pe H7 _ t7 e7 => ?_
        walk_at "rd"
        refine s_al ln2 fun p H8 t8 e8 => ?_
        have u3 := Same.trans t4 (Same.trans t5 (Same.trans t6 (Same.trans t7 t8)))
        have u0 := Same.trans s1 (Same.trans t2 (Same.trans t3 u3))
        have lq : (rs.take j ++ [v] ++ rs.drop (j + 1)).length = (rs.take j).length + 1 + (rs.drop (j + 1)).length := by rw [List.length_append, ll]
        have B : RdB K H8 many v false := rdB_same u3 b3
        have mem : ∀ r ∈ rs.take j ++ [v] ++ rs.drop (j + 1), r ∈ rs ∨ r = v := fun r hr => by
          rcases List.mem_append.1 hr with h | h
          · rcases List.mem_append.1 h with h | h
            · exact .inl (List.mem_of_mem_take h)
            · exact .inr (by simpa using h)
          · exact .inl (List.mem_of_mem_drop h)
        have pl : (rs.take j ++ [v] ++ rs.drop (j + 1)).all plainV = true := by
          rw [List.all_eq_true]
          intro r hr
          rcases mem r hr with h | rfl
          · exact List.all_eq_true.1 (goodV_plain gd) r h
          · obtain ⟨p', _, rfl, _⟩ := b3
            rfl
        refine q p (.int many) pe _ _ H8 u0 e8 (SqL.of (t8 _ _ e7)) (.int many) (.inr (.inr ⟨many, rfl, fun r hr => ?_, v, by simp, B⟩)) pl (by omega)
        rcases mem r hr with h | rfl
        · exact ⟨true, ((gd r h).mono u0.tups).rdb⟩
        · exact ⟨false, B⟩
      · refine iteN (decide_eq_false c2) ?_
        have gw : GoodV H1 many v0 := g0
        walk_at "rd"
        refine s_slL S1 fun pa H2 _ t2 e2 => ?_
        rw [cut_to] at e2
        walk_at "rd"
        refine ⟨_, _, _, rfl, gw.mono t2.tups, h2, f91.1, by omega, fun v H3 t3 b3 => ?_⟩
        walk_at "rd"
        refine s_al ln1 fun pb H4 t4 e4 => ?_
        have l1 : (rs.take j).length ≤ 12 := by rw [List.length_take]; omega
        have l2 : (rs.drop (j + 1)).length ≤ 12 - j := by rw [List.length_drop]; omega
        have l1' : (rs.take j).length ≤ j := by rw [List.length_take]; omega
        have t24 := Same.trans t2 (Same.trans t3 t4)
        have t34 := Same.trans t3 t4
        refine s_catL (SqL.of (t34 _ _ e2)) (SqL.of e4) (Nat.le_trans (show (rs.take j).length + 1 ≤ 13 by omega) (by decide)) fun pc H5 _ t5 e5 => ?_
        have S5 := t5.seq (t24.seq S1)
        walk_at "rd"
        refine s_slL S5 fun pd H6 _ t6 e6 => ?_
        rw [show (j : Int) + 1 = ((j + 1 : Nat) : Int) from rfl, cut_from] at e6
        have ll : (rs.take j ++ [v]).length = (rs.take j).length + 1 := by simp
        refine s_catL (SqL.of (t6 _ _ e5)) (SqL.of e6) (Nat.le_trans (show (rs.take j ++ [v]).length + (rs.drop (j + 1)).length ≤ 20 by omega) (by decide)) fun pe H7 _ t7 e7 => ?_
        walk_at "rd"
        refine s_al ln2 fun p H8 t8 e8 => ?_
        have u3 := Same.trans t4 (Same.trans t5 (Same.trans t6 (Same.trans t7 t8)))
        have u0 := Same.trans s1 (Same.trans t2 (Same.trans t3 u3))
        have lq : (rs.take j ++ [v] ++ rs.drop (j + 1)).length = (rs.take j).length + 1 + (rs.drop (j + 1)).length := by rw [List.length_append, ll]
        have B : RdB K H8 many v false := rdB_same u3 b3
        have mem : ∀ r ∈ rs.take j ++ [v] ++ rs.drop (j + 1), r ∈ rs ∨ r = v := fun r hr => by
          rcases List.mem_append.1 hr with h | h
          · rcases List.mem_append.1 h with h | h
            · exact .inl (List.mem_of_mem_take h)
            · exact .inr (by simpa using h)
          · exact .inl (List.mem_of_mem_drop h)
        have pl : (rs.take j ++ [v] ++ rs.drop (j + 1)).all plainV = true := by
          rw [List.all_eq_true]
          intro r hr
          rcases mem r hr with h | rfl
          · exact List.all_eq_true.1 (goodV_plain gd) r h
          · obtain ⟨p', _, rfl, _⟩ := b3
            rfl
        refine q p (.int many) pe _ _ H8 u0 e8 (SqL.of (t8 _ _ e7)) (.int many) (.inr (.inr ⟨many, rfl, fun r hr => ?_, v, by simp, B⟩)) pl (by omega)
        rcases mem r hr with h | rfl
        · exact ⟨true, ((gd r h).mono u0.tups).rdb⟩
        · exact ⟨false, B⟩
end K3

end

section
set_option maxHeartbeats 1000000
namespace K3
open PySem L2 Fr
local macro_rules | `(tactic| walk_at "rd1") => `(tactic| first | ((with_reducible refine' s_set2 ?hs ?_); (case hs => ((simp only [List.set_cons_succ, List.set_cons_zero]) <;> exact rfl))) | ((with_reducible refine' s_set ?hs ?_); (case hs => ((simp only [List.set_cons_succ, List.set_cons_zero]) <;> exact rfl))) | (with_reducible refine s_seq ?_) | (with_reducible refine s_asg ?_) | (with_reducible refine s_if ?_) | (with_reducible refine s_asgG ?_) | (with_reducible refine s_gsub ?_) | (with_reducible refine s_sl ?_) | (with_reducible refine s_noPart ?_) | (with_reducible refine s_part ?_) | (with_reducible refine s_exI ?_) | (with_reducible refine s_ret ?_) | (with_reducible refine s_op ?_) | (with_reducible refine s_c ?_) | (with_reducible refine s_cons ?_) | (with_reducible refine s_nil ?_) | (with_reducible refine s_call ?_) | (with_reducible refine s_cb ?_) | (with_reducible refine s_test ?_) | (with_reducible refine s_b ?_) | (with_reducible refine s_and ?_) | (with_reducible refine s_or ?_) | (with_reducible refine s_not ?_) | (with_reducible refine s_andV ?_) | (with_reducible refine s_orV ?_) | (with_reducible refine s_notV ?_) | (with_reducible refine s_ifx ?_) | (with_reducible refine s_chain ?_) | (with_reducible refine s_un ?_) | (with_reducible refine s_tup ?_) | (with_reducible refine s_lst ?_) | (with_reducible refine s_drop ?_) | (with_reducible refine s_retN ?_) | (with_reducible refine s_next ?_) | (with_reducible refine s_break ?_) | (with_reducible refine s_cont ?_) | (with_reducible refine s_par ?_) | ((with_reducible refine' s_var ?hv ?_); (case hv => exact rfl)) | (with_reducible refine s_bl ?_) | (with_reducible refine s_rI0 ?_) | (with_reducible refine s_eqI ?_) | (with_reducible refine s_neI ?_) | (with_reducible refine s_eqB ?_) | (with_reducible refine s_rU ?_) | (with_reducible refine s_eqAI ?_) | (with_reducible refine s_neAI ?_) | (with_reducible refine s_eqAB ?_) | (with_reducible refine s_addI ?_) | ((with_reducible refine' s_ixST ?hq ?he ?_); (case hq => assumption); (case he => exact rfl)) | ((with_reducible refine' s_ixSL ?hq ?he ?_); (case hq => assumption); (case he => exact rfl)) | ((with_reducible refine' s_abs1 ?_)) | ((with_reducible refine' s_lenL ?hq ?_); (case hq => assumption)) | ((with_reducible refine' s_lenT ?hq ?_); (case hq => assumption)) | (with_reducible refine s_isN ?_) | (with_reducible refine s_for ?_) | (with_reducible refine s_iList ?_) | (with_reducible refine s_iTup ?_) | (with_reducible refine s_iR1 ?_) | (with_reducible refine s_iR2 ?_) | (with_reducible refine s_iEnum ?_) | (with_reducible refine s_iZip ?_) | ((with_reducible refine' s_jList ?hq ?_); (case hq => assumption)) | ((with_reducible refine' s_jTup ?hq ?_); (case hq => assumption)) | ((with_reducible refine' s_jEnum ?hq ?_); (case hq => assumption)) | ((with_reducible refine' s_jZip ?hq ?hr ?_); (case hq => assumption); (case hr => assumption)) | (with_reducible refine s_notN ?_) | (with_reducible refine s_min2 ?_) | (with_reducible refine s_max2 ?_) | (with_reducible refine s_nx ?_) | (with_reducible refine s_rt ?_) | (with_reducible refine s_bk ?_) | (with_reducible refine s_ct ?_) | (with_reducible refine iteT ?_) | (with_reducible refine iteNt ?_) | (with_reducible refine iteNf ?_) | ((with_reducible refine iteN ?hz ?_); (case hz => exact rfl)) | ((with_reducible refine iteY ?hz ?_); (case hz => exact rfl)) | (with_reducible refine iteF ?_) | ((with_reducible refine' s_ixT ?hq ?he ?_); (case hq => assumption); (case he => exact rfl)) | ((with_reducible refine' s_ixL ?hq ?he ?_); (case hq => assumption); (case he => exact rfl)) | ((with_reducible refine s_rI ?hc ?_); (case hc => first | assumption | exact mulOk (by assumption) (by assumption) | exact (show (0 : Int) < _ by decide) | omega)))
local macro_rules | `(tactic| walk_at "rd") => `(tactic| repeat walk_at "rd1")
variable {K : PySem.W.Frag} {c : Cs} {H : Hp} {vs : List V} {Q : VK} {E : XK}
theorem s_bm {T : String} {r : V → List V → Hp → VK → Prop} {to : TE} {t : TA} {σ : St} (h : to σ H fun x H1 => tyV K T x H1 ∧ t σ H1 fun xs H2 => r x xs H2 Q) : tBM K T r to t σ H Q := h
theorem goods {H H' : Hp} {m : Int} {rs : List V} (s : Same H H') (h : ∀ r ∈ rs, GoodV H m r) : ∀ r ∈ rs, GoodV H' m r := fun r hr => (h r hr).mono s.tups
theorem rd_law (h : spLaw K vs H Q E) : t_law K c (EN Q) (start ["_law_script","_law_many","_law_roads_here","_law_number","_law_handed","_law_found","_law_off_here","_law_kept","_law_later"] vs) H := by
  obtain ⟨a, ns, rfl, S, n63, q⟩ := h
  show t_law K c (EN Q) [some (.ref a), none, none, none, none, none, none, none, none] H
  walk_at "rd"
  refine ⟨_, _, _, rfl, S, by decide, fun z => ?_⟩
  walk_at "rd"
  have z0 := Int.emod_nonneg z (show (5 : Int) ≠ 0 by decide)
  have z1 := Int.emod_lt_of_pos z (show (0 : Int) < 5 by decide)
  generalize em : 2 + z % 5 = many
  have h2 : 2 ≤ many := by omega
  have h6 : many ≤ 6 := by omega
  refine ⟨_, _, _, rfl, S, n63, h2, h6, fun l rs H1 nl s1 el l12 gd => ?_⟩
  have S1 := s1.seq S
  walk_at "rd"
  refine ⟨_, _, _, rfl, S1, by decide, fun z2 => ?_⟩
  have c1 : CMulX z2 69621 := cm (by decide)
  walk_at "rd"
  refine ⟨_, _, _, rfl, S1, by decide, fun z3 => ?_⟩
  have c2 : CMulX 7 z3 := cml (by decide)
  have c3 : CMulX (7 * z3) 48271 := cm (by decide)
  walk_at "rd"
  have n1 := Int.emod_nonneg (z2 * 69621) (show (2147483647 : Int) ≠ 0 by decide)
  have n2 := Int.emod_lt_of_pos (z2 * 69621) (show (0 : Int) < 2147483647 by decide)
  have n3 := Int.emod_nonneg (7 * z3 * 48271) (show (2147483629 : Int) ≠ 0 by decide)
  have n4 := Int.emod_lt_of_pos (7 * z3 * 48271) (show (0 : Int) < 2147483629 by decide)
  obtain ⟨n, en⟩ : ∃ n, n = z2 * 69621 % 2147483647 + 7 * z3 * 48271 % 2147483629 := ⟨_, rfl⟩
  have m0 : 0 ≤ n := by omega
  have m1 : n < 2 ^ 40 := by omega
  rw [← en]
  refine s_listL (SqL.of el) fun lh H2 nlh s2 eh => ?_
  walk_at "rd"
  refine ⟨.int many, lh, rs, _, rfl, .int many, SqL.of eh, .inl ⟨many, rfl, h2, h6, l12, fun r hr => (goods s2 gd r hr).rdb, fun pf lf H3 s3 ef elf nlf => ?_⟩⟩
  walk_at "rd"
  have s23 := Same.trans s2 s3
  refine ⟨pf, l, lf, many, rs, rfl, ef, elf, SqL.of (s23 _ _ el), goods s23 gd, fun H4 s4 => ?_⟩
  have s24 := Same.trans s23 s4
  have pl := goodV_plain gd
  have eh4 : H4 lh = some (.lst rs) := s4 _ _ (s3 _ _ eh)
  walk_at "rd"
  refine .inr (.inr ⟨⟨lh, l, rs, rfl, rfl, .inl ⟨SqL.of eh4, SqL.of (s24 _ _ el)⟩, pl⟩, ?_⟩)
  walk_at "rd"
  refine ⟨.ref lh, rfl, .inl ⟨rfl, _, SqL.of eh4⟩, lh, rs, rfl, rfl, eh4, ?_⟩
  have ne : lf ≠ lh := fun e => by
    subst e
    rw [eh] at nlf
    cases nlf
  have s15 : Same H1 (upd H4 lh (.lst [])) := s24.updN nlh
  have ef5 : upd H4 lh (.lst []) pf = some (.tup [.int many, .ref lf]) := (LSame.upd eh4).tup (s4 _ _ ef)
  have el5 : upd H4 lh (.lst []) lf = some (.lst rs) := by
    rw [upd_ne ne]
    exact s4 _ _ elf
  generalize upd H4 lh (.lst []) = H5 at s15 ef5 el5 ⊢
  walk_at "rd"
  refine ⟨many, l, rs, n, rfl, SqL.of (s15 _ _ el), l12, h2, h6, goods s15 gd, m0, m1, fun po m' l' rs' T H6 s6 eo So tm nb pl' l20 => ?_⟩
  have Eo := SqL.of (K := K) eo
  walk_at "rd"
  refine s_listL So fun lk H7 nk s7 ek => ?_
  have So7 := s7.seq So
  have Eo7 := s7.seq Eo
  have tm7 := tyOf_same s7 tm
  have nb7 := netBad_same s7 nb
  walk_at "rd"
  refine ⟨m', l', rs', rfl, ⟨T, tm7⟩, So7, nb7, fun H8 s8 => ?_⟩
  have So8 := s8.seq So7
  have Eo8 := s8.seq Eo7
  walk_at "rd"
  refine .inr (.inr ⟨⟨l', lk, rs', rfl, rfl, .inl ⟨So8, SqL.of (s8 _ _ ek)⟩, pl'⟩, ?_⟩)
  walk_at "rd"
  have s58 := Same.trans s6 (Same.trans s7 s8)
  have s18 := Same.trans s15 s58
  have gd8 := goods s18 gd
  refine ⟨.int many, l, rs, _, rfl, .int many, SqL.of (s18 _ _ el), .inl ⟨many, rfl, h2, h6, l12, fun r hr => (gd8 r hr).rdb, fun pq lq H9 s9 eq elq nlq => ?_⟩⟩
  walk_at "rd"
  refine s_bm ?_
  have Tq := SqT.of (K := K) eq
  walk_at "rd"
  refine ⟨.inl ⟨rfl, _, SqL.of elq⟩, ?_⟩
  walk_at "rd"
  refine s_al ln2 fun q1 G1 u1 _ => ?_
  walk_at "rd"
  refine s_al ln2 fun q2 G2 u2 _ => ?_
  walk_at "rd"
  refine s_al ln5 fun q3 G3 u3 _ => ?_
  walk_at "rd"
  have u := Same.trans u1 (Same.trans u2 u3)
  have elq3 := u _ _ elq
  refine ⟨lq, rs, .ref q3, rfl, rfl, elq3, Nat.lt_of_le_of_lt l12 (by decide), ?_⟩
  have s8x : Same H8 (upd G3 lq (.lst (rs ++ [.ref q3]))) := (Same.trans s9 u).updN nlq
  have eqx : upd G3 lq (.lst (rs ++ [.ref q3])) pq = some (.tup [.int many, .ref lq]) := (LSame.upd elq3).tup (u _ _ eq)
  have elx : upd G3 lq (.lst (rs ++ [.ref q3])) lq = some (.lst (rs ++ [.ref q3])) := upd_same
  generalize upd G3 lq (.lst (rs ++ [.ref q3])) = Hx at s8x eqx elx ⊢
  have s1x := Same.trans s18 s8x
  have gdx := goods s1x gd
  walk_at "rd"
  refine ⟨.int many, l, rs, _, rfl, .int many, SqL.of (s1x _ _ el), .inl ⟨many, rfl, h2, h6, l12, fun r hr => (gdx r hr).rdb, fun pr lr Hy sy ey ely nly => ?_⟩⟩
  walk_at "rd"
  refine ⟨pr, l, lr, many, rs, rfl, ey, ely, SqL.of (sy _ _ (s1x _ _ el)), goods (Same.trans s1x sy) gd, fun Hz sz => ?_⟩
  have sxz := Same.trans sy sz
  have s1z := Same.trans s1x sxz
  have s5z := Same.trans s58 (Same.trans s8x sxz)
  walk_at "rd"
  refine ⟨pf, l, lf, many, rs, rfl, s5z _ _ ef5, s5z _ _ el5, SqL.of (s1z _ _ el), goods s1z gd, fun Hw sw => ?_⟩
  have sxw := Same.trans sxz sw
  have Tw := SqT.of (K := K) (sxw _ _ eqx)
  have Lw := SqL.of (K := K) (sxw _ _ elx)
  have Rw := SqL.of (K := K) (sw _ _ (s1z _ _ el))
  have s8w := Same.trans s8x sxw
  have Eow := s8w.seq Eo8
  have Sow := s8w.seq So8
  walk_at "rd"
  have lw : ((rs ++ [V.ref q3]).length : Int) = (rs.length : Int) + 1 := by simp
  rw [lw]
  refine iteY (by simp) ?_
  walk_at "rd"
  exact ⟨m', l', rs', rfl, ⟨T, tyOf_same (Same.trans s8 s8w) tm7⟩, Sow, netBad_same (Same.trans s8 s8w) nb7, fun Hv _ => q Hv⟩
end K3

end

section
set_option maxHeartbeats 1000000
namespace K3
open PySem L2 Fr
def top (i : Nat) : Stmt := PySem.Challenge.pw_crowdroads_k03_a_net_made.main.body.getD i (.Pass ⟨0, 0, 0, 0⟩)
/-- what the walk asks of the text's names -/
structure Txt (K : PySem.W.Frag) (mg : Str → Option Value) (c : Cs) : Prop where
  n_isinstance : mg "isinstance" = none
  n_int : mg "int" = none
  n_bool : mg "bool" = none
  n_tuple : mg "tuple" = none
  n_list : mg "list" = none
  n_len : mg "len" = none
  n_abs : mg "abs" = none
  n_range : mg "range" = none
  n_min : mg "min" = none
  n_enumerate : mg "enumerate" = none
  n_zip : mg "zip" = none
  n_ValueError : mg "ValueError" = none
  m_RoadError : mg "RoadError" = some (.ref c.RoadError)
  m_NoNumber : mg "NoNumber" = some (.ref c.NoNumber)
  m_NoNet : mg "NoNet" = some (.ref c.NoNet)
  m_NoWish : mg "NoWish" = some (.ref c.NoWish)
  m_NoWay : mg "NoWay" = some (.ref c.NoWay)
  m_TooMany : mg "TooMany" = some (.ref c.TooMany)
  m_NoShare : mg "NoShare" = some (.ref c.NoShare)
  m_NoStep : mg "NoStep" = some (.ref c.NoStep)
  m_NoSuch : mg "NoSuch" = some (.ref c.NoSuch)
  m_NoText : mg "NoText" = some (.ref c.NoText)
  m_FEWEST_PLACES : ∃ t, mg "FEWEST_PLACES" = some (.int 2 t)
  m_MOST_PLACES : ∃ t, mg "MOST_PLACES" = some (.int 6 t)
  m_MOST_ROADS : ∃ t, mg "MOST_ROADS" = some (.int 12 t)
  m_THINGS_OF_ROAD : ∃ t, mg "THINGS_OF_ROAD" = some (.int 5 t)
  x_NoNet : Xc K c.NoNet
  X_NoNet : XF K c c.NoNet [c.NoNumber, c.NoShare, c.NoStep, c.NoSuch, c.NoText, c.NoWay, c.NoWish, c.TooMany]
variable {P : Program} {w : World} {K : PySem.W.Frag} {mg : Str → Option Value} {base : Heap} {c : Cs}
/-! ### is_whole -/
abbrev s_is_whole : Stmt := top 12
theorem sc_is_whole : FnScope ["thing"] ["thing"] (defScope s_is_whole) := ⟨rfl, rfl, rfl, by decide +kernel, rfl, by decide +kernel, by decide +kernel⟩
theorem ok_is_whole (T : Txt K mg c)  {f : Addr} {fd : FuncData} (F : Fun K "is_whole" "is_whole" s_is_whole f fd) : FnOk P w K mg base CX0 1 f fd ["thing"] (spWhole K) := by
  refine F.ok sc_is_whole (fun vs H Q E h => ?len) (fun cdv A outer s H vs Q E hr h => ?_)
  case len =>
    obtain ⟨_, _, rfl, _⟩ := h
    rfl
  have nd := sc_is_whole.nd
  refine ⟨t_is_whole K, ?_, rd_is_whole  h⟩
  refine pss_one ?_
  refine ps_ret ?_
  refine pe_and ?_ ?_
  · refine pe_callB (id := "isinstance") ?_ ?_ ?_ ?_ ?_
    · exact call_isiK (K := K) rfl
    · rfl
    · exact T.n_isinstance
    · exact bt_isinstance
    refine pk ?_ ?_
    · exact pv 0
    refine pk ?_ ?_
    · exact pe_bt rfl T.n_int bt_int
    exact pa_nil
  refine pe_one ?_
  refine pe_not ?_
  refine pe_callB (id := "isinstance") ?_ ?_ ?_ ?_ ?_
  · exact call_isiK (K := K) rfl
  · rfl
  · exact T.n_isinstance
  · exact bt_isinstance
  refine pk ?_ ?_
  · exact pv 0
  refine pk ?_ ?_
  · exact pe_bt rfl T.n_bool bt_bool
  exact pa_nil
/-! ### common_divisor -/
abbrev s_common_divisor : Stmt := top 13
theorem sc_common_divisor : FnScope ["one", "other", "left"] ["one", "other"] (defScope s_common_divisor) := ⟨rfl, rfl, rfl, by decide +kernel, rfl, by decide +kernel, by decide +kernel⟩
theorem ok_common_divisor (T : Txt K mg c)  {f : Addr} {fd : FuncData} (F : Fun K "common_divisor" "common_divisor" s_common_divisor f fd) : FnOk P w K mg base CX0 1 f fd ["one", "other"] spGcd := by
  refine F.ok sc_common_divisor (fun vs H Q E h => ?len) (fun cdv A outer s H vs Q E hr h => ?_)
  case len =>
    obtain ⟨_, _, rfl, _⟩ := h
    rfl
  have nd := sc_common_divisor.nd
  refine ⟨t_common_divisor K, ?_, rd_common_divisor  h⟩
  refine pss_cons ?_ ?_
  · refine ps_while ?_ ?_ ?_
    · exact PassesOwn.never
    · refine pt_cmpR ?_ ?_ ?_ ?_
      · exact op_neA hr.units
      · exact pv 1
      · exact pe_int
      exact nomark _
    refine pss_cons ?_ ?_
    · refine ps_st (i := 2) ?_
      refine pe_op ?_ ?_ ?_
      · exact op_mod
      · exact pv 0
      exact pv 1
    refine pss_cons ?_ ?_
    · refine ps_st (i := 0) ?_
      exact pv 1
    refine pss_one ?_
    refine ps_st (i := 1) ?_
    exact pv 2
  refine pss_one ?_
  refine ps_ret ?_
  exact pv 0
/-! ### is_fraction -/
abbrev s_is_fraction : Stmt := top 14
theorem sc_is_fraction : FnScope ["thing", "top", "bottom"] ["thing"] (defScope s_is_fraction) := ⟨rfl, rfl, rfl, by decide +kernel, rfl, by decide +kernel, by decide +kernel⟩
theorem ok_is_fraction (T : Txt K mg c) (C_is_whole : Cal P w K mg base CX0 1 "is_whole" (spWhole K)) (C_common_divisor : Cal P w K mg base CX0 1 "common_divisor" spGcd) {f : Addr} {fd : FuncData} (F : Fun K "is_fraction" "is_fraction" s_is_fraction f fd) : FnOk P w K mg base CX0 2 f fd ["thing"] (spIsF K) := by
  refine F.ok sc_is_fraction (fun vs H Q E h => ?len) (fun cdv A outer s H vs Q E hr h => ?_)
  case len =>
    obtain ⟨_, _, rfl, _⟩ := h
    rfl
  have nd := sc_is_fraction.nd
  refine ⟨t_is_fraction K, ?_, rd_is_fraction  h⟩
  refine pss_cons ?_ ?_
  · refine ps_if ?_ ?_ ?_
    · refine PW.pt ?_
      refine pw_or ?_ ?_
      · refine pt_not ?_
        refine pt_val ?_
        refine pe_callB (id := "isinstance") ?_ ?_ ?_ ?_ ?_
        · exact call_isiK (K := K) rfl
        · rfl
        · exact T.n_isinstance
        · exact bt_isinstance
        refine pk ?_ ?_
        · exact pv 0
        refine pk ?_ ?_
        · exact pe_bt rfl T.n_tuple bt_tuple
        exact pa_nil
      refine pw_or1 ?_
      refine pt_cmpR ?_ ?_ ?_ ?_
      · exact op_neA hr.units
      · refine pe_callB (id := "len") ?_ ?_ ?_ ?_ ?_
        · exact call_len
        · rfl
        · exact T.n_len
        · exact bt_len
        refine pk ?_ ?_
        · exact pv 0
        exact pa_nil
      · exact pe_int
      exact nomark _
    · refine pss_one ?_
      refine ps_ret ?_
      exact pe_bl
    exact pss_nil
  refine pss_cons ?_ ?_
  · refine ps_st (i := 1) ?_
    refine pe_ix ?_ ?_ ?_ ?_
    · exact ix_seq
    · exact pv 0
    · exact pe_int
    exact fun _ _ => rfl
  refine pss_cons ?_ ?_
  · refine ps_st (i := 2) ?_
    refine pe_ix ?_ ?_ ?_ ?_
    · exact ix_seq
    · exact pv 0
    · exact pe_int
    exact fun _ _ => rfl
  refine pss_cons ?_ ?_
  · refine ps_if ?_ ?_ ?_
    · refine PW.pt ?_
      refine pw_or ?_ ?_
      · refine pt_not ?_
        refine pt_val ?_
        refine pe_cal (CX := CX0) (k := 1) ?_ ?_ ?_ ?_
        · exact C_is_whole
        · exact hr.mono (by decide)
        · exact pass0
        refine pk ?_ ?_
        · exact pv 1
        exact pa_nil
      refine pw_or1 ?_
      refine pt_not ?_
      refine pt_val ?_
      refine pe_cal (CX := CX0) (k := 1) ?_ ?_ ?_ ?_
      · exact C_is_whole
      · exact hr.mono (by decide)
      · exact pass0
      refine pk ?_ ?_
      · exact pv 2
      exact pa_nil
    · refine pss_one ?_
      refine ps_ret ?_
      exact pe_bl
    exact pss_nil
  refine pss_one ?_
  refine ps_ret ?_
  refine pe_and ?_ ?_
  · refine pe_cmpR ?_ ?_ ?_ ?_
    · exact op_gt
    · exact pv 2
    · exact pe_int
    exact nomark _
  refine pe_one ?_
  refine pe_cmpR ?_ ?_ ?_ ?_
  · exact op_eqA hr.units
  · refine pe_cal (CX := CX0) (k := 1) ?_ ?_ ?_ ?_
    · exact C_common_divisor
    · exact hr.mono (by decide)
    · exact pass0
    refine pk ?_ ?_
    · refine pe_callB (id := "abs") ?_ ?_ ?_ ?_ ?_
      · exact call_abs
      · rfl
      · exact T.n_abs
      · exact bt_abs
      refine pk ?_ ?_
      · exact pv 1
      exact pa_nil
    refine pk ?_ ?_
    · exact pv 2
    exact pa_nil
  · exact pe_int
  exact nomark _
/-! ### is_from_nought -/
abbrev s_is_from_nought : Stmt := top 15
theorem sc_is_from_nought : FnScope ["thing"] ["thing"] (defScope s_is_from_nought) := ⟨rfl, rfl, rfl, by decide +kernel, rfl, by decide +kernel, by decide +kernel⟩
theorem ok_is_from_nought (T : Txt K mg c) (C_is_fraction : Cal P w K mg base CX0 2 "is_fraction" (spIsF K)) {f : Addr} {fd : FuncData} (F : Fun K "is_from_nought" "is_from_nought" s_is_from_nought f fd) : FnOk P w K mg base CX0 3 f fd ["thing"] (spFN K) := by
  refine F.ok sc_is_from_nought (fun vs H Q E h => ?len) (fun cdv A outer s H vs Q E hr h => ?_)
  case len =>
    obtain ⟨_, _, rfl, _⟩ := h
    rfl
  have nd := sc_is_from_nought.nd
  refine ⟨t_is_from_nought K, ?_, rd_is_from_nought  h⟩
  refine pss_one ?_
  refine ps_ret ?_
  refine pe_and ?_ ?_
  · refine pe_cal (CX := CX0) (k := 2) ?_ ?_ ?_ ?_
    · exact C_is_fraction
    · exact hr.mono (by decide)
    · exact pass0
    refine pk ?_ ?_
    · exact pv 0
    exact pa_nil
  refine pe_one ?_
  refine pe_cmpR ?_ ?_ ?_ ?_
  · exact op_ge
  · refine pe_ix ?_ ?_ ?_ ?_
    · exact ix_seq
    · exact pv 0
    · exact pe_int
    exact fun _ _ => rfl
  · exact pe_int
  exact nomark _
/-! ### is_number_of -/
abbrev s_is_number_of : Stmt := top 21
theorem sc_is_number_of : FnScope ["many", "thing"] ["many", "thing"] (defScope s_is_number_of) := ⟨rfl, rfl, rfl, by decide +kernel, rfl, by decide +kernel, by decide +kernel⟩
theorem ok_is_number_of (T : Txt K mg c) (C_is_whole : Cal P w K mg base CX0 1 "is_whole" (spWhole K)) {f : Addr} {fd : FuncData} (F : Fun K "is_number_of" "is_number_of" s_is_number_of f fd) : FnOk P w K mg base CX0 2 f fd ["many", "thing"] (spPlace K) := by
  refine F.ok sc_is_number_of (fun vs H Q E h => ?len) (fun cdv A outer s H vs Q E hr h => ?_)
  case len =>
    obtain ⟨_, _, _, rfl, _⟩ := h
    rfl
  have nd := sc_is_number_of.nd
  refine ⟨t_is_number_of K, ?_, rd_is_number_of  h⟩
  refine pss_one ?_
  refine ps_ret ?_
  refine pe_and ?_ ?_
  · refine pe_cal (CX := CX0) (k := 1) ?_ ?_ ?_ ?_
    · exact C_is_whole
    · exact hr.mono (by decide)
    · exact pass0
    refine pk ?_ ?_
    · exact pv 1
    exact pa_nil
  refine pe_one ?_
  refine pe_chain ?_ ?_ ?_ ?_ ?_
  · exact op_le
  · exact op_lt
  · exact pe_int
  · exact pv 1
  exact pv 0
/-! ### are_unlike_places -/
abbrev s_are_unlike_places : Stmt := top 22
theorem sc_are_unlike_places : FnScope ["many", "start", "end"] ["many", "start", "end"] (defScope s_are_unlike_places) := ⟨rfl, rfl, rfl, by decide +kernel, rfl, by decide +kernel, by decide +kernel⟩
theorem ok_are_unlike_places (T : Txt K mg c) (C_is_number_of : Cal P w K mg base CX0 2 "is_number_of" (spPlace K)) {f : Addr} {fd : FuncData} (F : Fun K "are_unlike_places" "are_unlike_places" s_are_unlike_places f fd) : FnOk P w K mg base CX0 3 f fd ["many", "start", "end"] (spUnlike K) := by
  refine F.ok sc_are_unlike_places (fun vs H Q E h => ?len) (fun cdv A outer s H vs Q E hr h => ?_)
  case len =>
    obtain ⟨_, _, _, _, _, rfl, _⟩ := h
    rfl
  have nd := sc_are_unlike_places.nd
  refine ⟨t_are_unlike_places K, ?_, rd_are_unlike_places  h⟩
  refine pss_one ?_
  refine ps_ret ?_
  refine pe_and ?_ ?_
  · refine pe_cal (CX := CX0) (k := 2) ?_ ?_ ?_ ?_
    · exact C_is_number_of
    · exact hr.mono (by decide)
    · exact pass0
    refine pk ?_ ?_
    · exact pv 0
    refine pk ?_ ?_
    · exact pv 1
    exact pa_nil
  refine pe_and ?_ ?_
  · refine pe_cal (CX := CX0) (k := 2) ?_ ?_ ?_ ?_
    · exact C_is_number_of
    · exact hr.mono (by decide)
    · exact pass0
    refine pk ?_ ?_
    · exact pv 0
    refine pk ?_ ?_
    · exact pv 2
    exact pa_nil
  refine pe_one ?_
  refine pe_cmpR ?_ ?_ ?_ ?_
  · exact op_neA hr.units
  · exact pv 1
  · exact pv 2
  exact nomark _
/-! ### road_fault -/
abbrev s_road_fault : Stmt := top 23
theorem sc_road_fault : FnScope ["many", "road"] ["many", "road"] (defScope s_road_fault) := ⟨rfl, rfl, rfl, by decide +kernel, rfl, by decide +kernel, by decide +kernel⟩
theorem ok_road_fault (T : Txt K mg c) (C_are_unlike_places : Cal P w K mg base CX0 3 "are_unlike_places" (spUnlike K)) (C_is_from_nought : Cal P w K mg base CX0 3 "is_from_nought" (spFN K)) {f : Addr} {fd : FuncData} (F : Fun K "road_fault" "road_fault" s_road_fault f fd) : FnOk P w K mg base CX0 4 f fd ["many", "road"] (spFault K) := by
  refine F.ok sc_road_fault (fun vs H Q E h => ?len) (fun cdv A outer s H vs Q E hr h => ?_)
  case len =>
    obtain ⟨_, _, _, _, rfl, _⟩ := h
    rfl
  have nd := sc_road_fault.nd
  refine ⟨t_road_fault K, ?_, rd_road_fault  h⟩
  refine pss_cons ?_ ?_
  · refine ps_if ?_ ?_ ?_
    · refine pt_cmpR ?_ ?_ ?_ ?_
      · exact op_neA hr.units
      · refine pe_callB (id := "len") ?_ ?_ ?_ ?_ ?_
        · exact call_len
        · rfl
        · exact T.n_len
        · exact bt_len
        refine pk ?_ ?_
        · exact pv 1
        exact pa_nil
      · exact pe_gi T.m_THINGS_OF_ROAD
      exact nomark _
    · refine pss_one ?_
      refine ps_ret ?_
      exact pe_str
    exact pss_nil
  refine pss_cons ?_ ?_
  · refine ps_if ?_ ?_ ?_
    · refine pt_not ?_
      refine pt_val ?_
      refine pe_cal (CX := CX0) (k := 3) ?_ ?_ ?_ ?_
      · exact C_are_unlike_places
      · exact hr.mono (by decide)
      · exact pass0
      refine pk ?_ ?_
      · exact pv 0
      refine pk ?_ ?_
      · refine pe_ix ?_ ?_ ?_ ?_
        · exact ix_seq
        · exact pv 1
        · exact pe_int
        exact fun _ _ => rfl
      refine pk ?_ ?_
      · refine pe_ix ?_ ?_ ?_ ?_
        · exact ix_seq
        · exact pv 1
        · exact pe_int
        exact fun _ _ => rfl
      exact pa_nil
    · refine pss_one ?_
      refine ps_ret ?_
      exact pe_str
    exact pss_nil
  refine pss_cons ?_ ?_
  · refine ps_if ?_ ?_ ?_
    · refine pt_not ?_
      refine pt_val ?_
      refine pe_cal (CX := CX0) (k := 3) ?_ ?_ ?_ ?_
      · exact C_is_from_nought
      · exact hr.mono (by decide)
      · exact pass0
      refine pk ?_ ?_
      · refine pe_ix ?_ ?_ ?_ ?_
        · exact ix_seq
        · exact pv 1
        · exact pe_int
        exact fun _ _ => rfl
      exact pa_nil
    · refine pss_one ?_
      refine ps_ret ?_
      exact pe_str
    exact pss_nil
  refine pss_cons ?_ ?_
  · refine ps_if ?_ ?_ ?_
    · refine pt_not ?_
      refine pt_val ?_
      refine pe_cal (CX := CX0) (k := 3) ?_ ?_ ?_ ?_
      · exact C_is_from_nought
      · exact hr.mono (by decide)
      · exact pass0
      refine pk ?_ ?_
      · refine pe_ix ?_ ?_ ?_ ?_
        · exact ix_seq
        · exact pv 1
        · exact pe_int
        exact fun _ _ => rfl
      exact pa_nil
    · refine pss_one ?_
      refine ps_ret ?_
      exact pe_str
    exact pss_nil
  refine pss_cons ?_ ?_
  · refine ps_if ?_ ?_ ?_
    · refine pt_not ?_
      refine pt_val ?_
      refine pe_callB (id := "isinstance") ?_ ?_ ?_ ?_ ?_
      · exact call_isiK (K := K) rfl
      · rfl
      · exact T.n_isinstance
      · exact bt_isinstance
      refine pk ?_ ?_
      · refine pe_ix ?_ ?_ ?_ ?_
        · exact ix_seq
        · exact pv 1
        · exact pe_int
        exact fun _ _ => rfl
      refine pk ?_ ?_
      · exact pe_bt rfl T.n_bool bt_bool
      exact pa_nil
    · refine pss_one ?_
      refine ps_ret ?_
      exact pe_str
    exact pss_nil
  refine pss_one ?_
  refine ps_ret ?_
  exact pe_non
/-! ### made_net -/
abbrev s_made_net : Stmt := top 24
theorem sc_made_net : FnScope ["many", "roads", "number", "road", "fault"] ["many", "roads"] (defScope s_made_net) := ⟨rfl, rfl, rfl, by decide +kernel, rfl, by decide +kernel, by decide +kernel⟩
theorem ok_made_net (T : Txt K mg c) (C_road_fault : Cal P w K mg base CX0 4 "road_fault" (spFault K)) (C_is_whole : Cal P w K mg base CX0 1 "is_whole" (spWhole K)) {f : Addr} {fd : FuncData} (F : Fun K "made_net" "made_net" s_made_net f fd) : FnOk P w K mg base (CX1 P w) 5 f fd ["many", "roads"] (spMade K c) := by
  refine F.okx sc_made_net (fun vs H Q E h => ?len) (fun cdv A outer s H vs Q E hr h => ?_)
  case len =>
    obtain ⟨_, _, _, _, rfl, _⟩ := h
    rfl
  have nd := sc_made_net.nd
  refine ⟨t_made_net K c E, ?_, rd_made_net  h⟩
  refine pss_cons ?_ ?_
  · refine ps_if ?_ ?_ ?_
    · refine pt_not ?_
      refine PW.pt ?_
      refine pw_and ?_ ?_
      · refine pt_val ?_
        refine pe_cal (CX := CX0) (k := 1) ?_ ?_ ?_ ?_
        · exact C_is_whole
        · exact hr.mono (by decide)
        · exact pass0
        refine pk ?_ ?_
        · exact pv 0
        exact pa_nil
      refine pw_and1 ?_
      refine pt_chain ?_ ?_ ?_ ?_ ?_
      · exact op_le
      · exact op_le
      · exact pe_gi T.m_FEWEST_PLACES
      · exact pv 0
      exact pe_gi T.m_MOST_PLACES
    · refine pss_one ?_
      refine ps_raise ?_ ?_ ?_ ?_ ?_ ?_
      · exact T.x_NoNet
      · exact fn_raises
      · rfl
      · rfl
      · exact T.m_NoNet
      refine pk ?_ ?_
      · exact pe_str
      exact pa_nil
    exact pss_nil
  refine pss_cons ?_ ?_
  · refine ps_if ?_ ?_ ?_
    · refine pt_cmpR ?_ ?_ ?_ ?_
      · exact op_gt
      · refine pe_callB (id := "len") ?_ ?_ ?_ ?_ ?_
        · exact call_len
        · rfl
        · exact T.n_len
        · exact bt_len
        refine pk ?_ ?_
        · exact pv 1
        exact pa_nil
      · exact pe_gi T.m_MOST_ROADS
      exact nomark _
    · refine pss_one ?_
      refine ps_raise ?_ ?_ ?_ ?_ ?_ ?_
      · exact T.x_NoNet
      · exact fn_raises
      · rfl
      · rfl
      · exact T.m_NoNet
      refine pk ?_ ?_
      · exact pe_str
      exact pa_nil
    exact pss_nil
  refine pss_cons ?_ ?_
  · refine ps_for ?_ ?_ ?_ ?_ ?_
    · exact PassesOwn.leaving
    · rfl
    · refine pi_enum ?_ ?_ ?_
      · rfl
      · exact T.n_enumerate
      refine pk ?_ ?_
      · exact pv 1
      exact pa_nil
    · refine pg_tup ?_ ?_
      · rfl
      refine pgs_cons ?_ ?_
      · exact pg_nm 2
      refine pgs_cons ?_ ?_
      · exact pg_nm 3
      exact pgs_nil
    refine pss_cons ?_ ?_
    · refine ps_st (i := 4) ?_
      refine pe_cal (CX := CX0) (k := 4) ?_ ?_ ?_ ?_
      · exact C_road_fault
      · exact hr.mono (by decide)
      · exact pass0
      refine pk ?_ ?_
      · exact pv 0
      refine pk ?_ ?_
      · exact pv 3
      exact pa_nil
    refine pss_one ?_
    refine ps_if ?_ ?_ ?_
    · refine pt_cmpR ?_ ?_ ?_ ?_
      · exact op_notN
      · exact pv 4
      · exact pe_non
      exact nomark _
    · refine pss_one ?_
      refine ps_raise ?_ ?_ ?_ ?_ ?_ ?_
      · exact T.x_NoNet
      · exact fn_raises
      · rfl
      · rfl
      · exact T.m_NoNet
      refine pk ?_ ?_
      · refine pe_join ?_
        refine pj_cons ?_ ?_
        · exact pe_str
        refine pj_cons ?_ ?_
        · refine pe_fmt ?_
          exact pv 2
        refine pj_cons ?_ ?_
        · exact pe_str
        refine pj_cons ?_ ?_
        · refine pe_fmt ?_
          exact pv 4
        exact pj_nil
      exact pa_nil
    exact pss_nil
  refine pss_one ?_
  refine ps_ret ?_
  refine pe_tup ?_
  refine pk ?_ ?_
  · exact pv 0
  refine pk ?_ ?_
  · refine pe_callTy (T := "list") ?_ ?_ ?_ ?_ ?_
    · exact call_list_of
    · rfl
    · exact T.n_list
    · exact bt_list
    refine pk ?_ ?_
    · exact pv 1
    exact pa_nil
  exact pa_nil
/-! ### _law_cell -/
abbrev s__law_cell : Stmt := top 26
theorem sc__law_cell : FnScope ["_law_script", "_law_k"] ["_law_script", "_law_k"] (defScope s__law_cell) := ⟨rfl, rfl, rfl, by decide +kernel, rfl, by decide +kernel, by decide +kernel⟩
theorem ok__law_cell (T : Txt K mg c)  {f : Addr} {fd : FuncData} (F : Fun K "_law_cell" "_law_cell" s__law_cell f fd) : FnOk P w K mg base CX0 1 f fd ["_law_script", "_law_k"] (spCell K) := by
  refine F.ok sc__law_cell (fun vs H Q E h => ?len) (fun cdv A outer s H vs Q E hr h => ?_)
  case len =>
    obtain ⟨_, _, _, rfl, _⟩ := h
    rfl
  have nd := sc__law_cell.nd
  refine ⟨t__law_cell K, ?_, rd__law_cell  h⟩
  refine pss_cons ?_ ?_
  · refine ps_if ?_ ?_ ?_
    · refine pt_cmpR ?_ ?_ ?_ ?_
      · exact op_lt
      · exact pv 1
      · refine pe_callB (id := "len") ?_ ?_ ?_ ?_ ?_
        · exact call_len
        · rfl
        · exact T.n_len
        · exact bt_len
        refine pk ?_ ?_
        · exact pv 0
        exact pa_nil
      exact nomark _
    · refine pss_one ?_
      refine ps_ret ?_
      refine pe_ix ?_ ?_ ?_ ?_
      · exact ix_seq
      · exact pv 0
      · exact pv 1
      exact fun _ _ => rfl
    exact pss_nil
  refine pss_one ?_
  refine ps_ret ?_
  exact pe_int
/-! ### _law_whole -/
abbrev s__law_whole : Stmt := top 27
theorem sc__law_whole : FnScope ["_law_found"] ["_law_found"] (defScope s__law_whole) := ⟨rfl, rfl, rfl, by decide +kernel, rfl, by decide +kernel, by decide +kernel⟩
theorem ok__law_whole (T : Txt K mg c)  {f : Addr} {fd : FuncData} (F : Fun K "_law_whole" "_law_whole" s__law_whole f fd) : FnOk P w K mg base CX0 1 f fd ["_law_found"] (spWhole K) := by
  refine F.ok sc__law_whole (fun vs H Q E h => ?len) (fun cdv A outer s H vs Q E hr h => ?_)
  case len =>
    obtain ⟨_, _, rfl, _⟩ := h
    rfl
  have nd := sc__law_whole.nd
  refine ⟨t__law_whole K, ?_, rd__law_whole  h⟩
  refine pss_one ?_
  refine ps_ret ?_
  refine pe_and ?_ ?_
  · refine pe_callB (id := "isinstance") ?_ ?_ ?_ ?_ ?_
    · exact call_isiK (K := K) rfl
    · rfl
    · exact T.n_isinstance
    · exact bt_isinstance
    refine pk ?_ ?_
    · exact pv 0
    refine pk ?_ ?_
    · exact pe_bt rfl T.n_int bt_int
    exact pa_nil
  refine pe_one ?_
  refine pe_not ?_
  refine pe_callB (id := "isinstance") ?_ ?_ ?_ ?_ ?_
  · exact call_isiK (K := K) rfl
  · rfl
  · exact T.n_isinstance
  · exact bt_isinstance
  refine pk ?_ ?_
  · exact pv 0
  refine pk ?_ ?_
  · exact pe_bt rfl T.n_bool bt_bool
  exact pa_nil
/-! ### _law_divisor -/
abbrev s__law_divisor : Stmt := top 28
theorem sc__law_divisor : FnScope ["_law_one", "_law_other"] ["_law_one", "_law_other"] (defScope s__law_divisor) := ⟨rfl, rfl, rfl, by decide +kernel, rfl, by decide +kernel, by decide +kernel⟩
theorem ok__law_divisor (T : Txt K mg c)  {f : Addr} {fd : FuncData} (F : Fun K "_law_divisor" "_law_divisor" s__law_divisor f fd) : FnOk P w K mg base CX0 1 f fd ["_law_one", "_law_other"] spGcd := by
  refine F.ok sc__law_divisor (fun vs H Q E h => ?len) (fun cdv A outer s H vs Q E hr h => ?_)
  case len =>
    obtain ⟨_, _, rfl, _⟩ := h
    rfl
  have nd := sc__law_divisor.nd
  refine ⟨t__law_divisor K, ?_, rd__law_divisor  h⟩
  refine pss_cons ?_ ?_
  · refine ps_while ?_ ?_ ?_
    · exact PassesOwn.never
    · refine pt_cmpR ?_ ?_ ?_ ?_
      · exact op_neA hr.units
      · exact pv 1
      · exact pe_int
      exact nomark _
    refine pss_one ?_
    refine ps_pr (i := 0) (j := 1) ?_
    refine pk ?_ ?_
    · exact pv 1
    refine pk ?_ ?_
    · refine pe_op ?_ ?_ ?_
      · exact op_mod
      · exact pv 0
      exact pv 1
    exact pa_nil
  refine pss_one ?_
  refine ps_ret ?_
  exact pv 0
/-! ### _law_fraction -/
abbrev s__law_fraction : Stmt := top 29
theorem sc__law_fraction : FnScope ["_law_number", "_law_bottom", "_law_top", "_law_share"] ["_law_number"] (defScope s__law_fraction) := ⟨rfl, rfl, rfl, by decide +kernel, rfl, by decide +kernel, by decide +kernel⟩
theorem ok__law_fraction (T : Txt K mg c) (C__law_divisor : Cal P w K mg base CX0 1 "_law_divisor" spGcd) {f : Addr} {fd : FuncData} (F : Fun K "_law_fraction" "_law_fraction" s__law_fraction f fd) : FnOk P w K mg base CX0 2 f fd ["_law_number"] (spLFrac K) := by
  refine F.ok sc__law_fraction (fun vs H Q E h => ?len) (fun cdv A outer s H vs Q E hr h => ?_)
  case len =>
    obtain ⟨_, rfl, _⟩ := h
    rfl
  have nd := sc__law_fraction.nd
  refine ⟨t__law_fraction K, ?_, rd__law_fraction  h⟩
  refine pss_cons ?_ ?_
  · refine ps_if ?_ ?_ ?_
    · refine pt_cmpR ?_ ?_ ?_ ?_
      · exact op_eqA hr.units
      · refine pe_op ?_ ?_ ?_
        · exact op_mod
        · exact pv 0
        exact pe_int
      · exact pe_int
      exact nomark _
    · refine pss_one ?_
      refine ps_ret ?_
      refine pe_tup ?_
      refine pk ?_ ?_
      · exact pe_int
      refine pk ?_ ?_
      · exact pe_int
      exact pa_nil
    exact pss_nil
  refine pss_cons ?_ ?_
  · refine ps_st (i := 1) ?_
    refine pe_op ?_ ?_ ?_
    · exact op_addA
    · exact pe_int
    refine pe_op ?_ ?_ ?_
    · exact op_mod
    · refine pe_op ?_ ?_ ?_
      · exact op_fdivB
      · exact pv 0
      exact pe_int
    exact pe_int
  refine pss_cons ?_ ?_
  · refine ps_st (i := 2) ?_
    refine pe_op ?_ ?_ ?_
    · exact op_mod
    · refine pe_op ?_ ?_ ?_
      · exact op_fdivB
      · exact pv 0
      exact pe_int
    exact pe_int
  refine pss_cons ?_ ?_
  · refine ps_if ?_ ?_ ?_
    · refine pt_cmpR ?_ ?_ ?_ ?_
      · exact op_eqA hr.units
      · refine pe_op ?_ ?_ ?_
        · exact op_mod
        · exact pv 0
        exact pe_int
      · exact pe_int
      exact nomark _
    · refine pss_one ?_
      refine ps_st (i := 2) ?_
      refine pe_op ?_ ?_ ?_
      · exact op_mod
      · refine pe_op ?_ ?_ ?_
        · exact op_mulX
        · refine pe_op ?_ ?_ ?_
          · exact op_mulX
          · exact pv 0
          exact pv 0
        exact pe_int
      refine pe_op ?_ ?_ ?_
      · exact op_pow
      · exact pe_int
      exact pe_int
    exact pss_nil
  refine pss_cons ?_ ?_
  · refine ps_st (i := 3) ?_
    refine pe_cal (CX := CX0) (k := 1) ?_ ?_ ?_ ?_
    · exact C__law_divisor
    · exact hr.mono (by decide)
    · exact pass0
    refine pk ?_ ?_
    · exact pv 2
    refine pk ?_ ?_
    · exact pv 1
    exact pa_nil
  refine pss_one ?_
  refine ps_ret ?_
  refine pe_tup ?_
  refine pk ?_ ?_
  · refine pe_op ?_ ?_ ?_
    · exact op_fdivB
    · exact pv 2
    exact pv 3
  refine pk ?_ ?_
  · refine pe_op ?_ ?_ ?_
    · exact op_fdivB
    · exact pv 1
    exact pv 3
  exact pa_nil
/-! ### _law_road -/
abbrev s__law_road : Stmt := top 30
theorem sc__law_road : FnScope ["_law_cell_here", "_law_many", "_law_number", "_law_start", "_law_end", "_law_base"] ["_law_cell_here", "_law_many"] (defScope s__law_road) := ⟨rfl, rfl, rfl, by decide +kernel, rfl, by decide +kernel, by decide +kernel⟩
theorem ok__law_road (T : Txt K mg c) (C__law_fraction : Cal P w K mg base CX0 2 "_law_fraction" (spLFrac K)) {f : Addr} {fd : FuncData} (F : Fun K "_law_road" "_law_road" s__law_road f fd) : FnOk P w K mg base CX0 3 f fd ["_law_cell_here", "_law_many"] (spLRoad K) := by
  refine F.ok sc__law_road (fun vs H Q E h => ?len) (fun cdv A outer s H vs Q E hr h => ?_)
  case len =>
    obtain ⟨_, _, rfl, _⟩ := h
    rfl
  have nd := sc__law_road.nd
  refine ⟨t__law_road K, ?_, rd__law_road  h⟩
  refine pss_cons ?_ ?_
  · refine ps_st (i := 2) ?_
    refine pe_op ?_ ?_ ?_
    · exact op_mod
    · refine pe_op ?_ ?_ ?_
      · exact op_mulX
      · exact pv 0
      exact pe_int
    exact pe_int
  refine pss_cons ?_ ?_
  · refine ps_st (i := 3) ?_
    refine pe_op ?_ ?_ ?_
    · exact op_mod
    · exact pv 2
    exact pv 1
  refine pss_cons ?_ ?_
  · refine ps_st (i := 4) ?_
    refine pe_op ?_ ?_ ?_
    · exact op_mod
    · refine pe_op ?_ ?_ ?_
      · exact op_addA
      · refine pe_op ?_ ?_ ?_
        · exact op_addA
        · exact pv 3
        exact pe_int
      refine pe_op ?_ ?_ ?_
      · exact op_mod
      · refine pe_op ?_ ?_ ?_
        · exact op_fdivB
        · exact pv 2
        exact pe_int
      refine pe_op ?_ ?_ ?_
      · exact op_sub
      · exact pv 1
      exact pe_int
    exact pv 1
  refine pss_cons ?_ ?_
  · refine ps_st (i := 5) ?_
    refine pe_cal (CX := CX0) (k := 2) ?_ ?_ ?_ ?_
    · exact C__law_fraction
    · exact hr.mono (by decide)
    · exact pass0
    refine pk ?_ ?_
    · refine pe_op ?_ ?_ ?_
      · exact op_fdivB
      · exact pv 2
      exact pe_int
    exact pa_nil
  refine pss_one ?_
  refine ps_ret ?_
  refine pe_tup ?_
  refine pk ?_ ?_
  · exact pv 3
  refine pk ?_ ?_
  · exact pv 4
  refine pk ?_ ?_
  · exact pv 5
  refine pk ?_ ?_
  · refine pe_cal (CX := CX0) (k := 2) ?_ ?_ ?_ ?_
    · exact C__law_fraction
    · exact hr.mono (by decide)
    · exact pass0
    refine pk ?_ ?_
    · refine pe_op ?_ ?_ ?_
      · exact op_addA
      · refine pe_op ?_ ?_ ?_
        · exact op_fdivB
        · exact pv 2
        exact pe_int
      exact pe_int
    exact pa_nil
  refine pk ?_ ?_
  · refine pe_cmpR ?_ ?_ ?_ ?_
    · exact op_eqA hr.units
    · refine pe_op ?_ ?_ ?_
      · exact op_mod
      · refine pe_op ?_ ?_ ?_
        · exact op_fdivB
        · exact pv 2
        exact pe_int
      exact pe_int
    · exact pe_int
    exact nomark _
  exact pa_nil
/-! ### _law_roads -/
abbrev s__law_roads : Stmt := top 31
theorem sc__law_roads : FnScope ["_law_script", "_law_many", "_law_roads_here", "_law_k", "_law_more", "_law_start", "_law_end", "_law_base", "_law_slope", "_law_lane"] ["_law_script", "_law_many"] (defScope s__law_roads) := ⟨rfl, rfl, rfl, by decide +kernel, rfl, by decide +kernel, by decide +kernel⟩
theorem ok__law_roads (T : Txt K mg c) (C__law_road : Cal P w K mg base CX0 3 "_law_road" (spLRoad K)) (C__law_cell : Cal P w K mg base CX0 1 "_law_cell" (spCell K)) {f : Addr} {fd : FuncData} (F : Fun K "_law_roads" "_law_roads" s__law_roads f fd) : FnOk P w K mg base CX0 4 f fd ["_law_script", "_law_many"] (spLRoads K) := by
  refine F.ok sc__law_roads (fun vs H Q E h => ?len) (fun cdv A outer s H vs Q E hr h => ?_)
  case len =>
    obtain ⟨_, _, _, rfl, _⟩ := h
    rfl
  have nd := sc__law_roads.nd
  refine ⟨t__law_roads K, ?_, rd__law_roads  h⟩
  refine pss_cons ?_ ?_
  · refine ps_comp (i := 2) (own := ["_law_k"]) (capt := ["_law_many", "_law_script"]) (ix := [1, 0]) ?_ ?_ ?_ ?_ ?_ ?_
    · rfl
    · refine CompScope.of rfl (by decide +kernel) (by decide +kernel) ?_ ?_ (by decide +kernel)
      · show ∀ y ∈ (_ : List (Str × NameKind)), y.2 = NameKind.free → (defScope s__law_roads).names.lookup y.1 = some NameKind.cell
        decide +kernel
      · exact .cons rfl rfl (.cons rfl rfl (.nil))
    · refine pi_range2 ?_ ?_ ?_
      · rfl
      · exact T.n_range
      refine pk ?_ ?_
      · exact pe_int
      refine pk ?_ ?_
      · refine pe_callB (id := "min") ?_ ?_ ?_ ?_ ?_
        · exact call_min2 rfl
        · rfl
        · exact T.n_min
        · exact bt_min
        refine pk ?_ ?_
        · exact pe_int
        refine pk ?_ ?_
        · refine pe_callB (id := "len") ?_ ?_ ?_ ?_ ?_
          · exact call_len
          · rfl
          · exact T.n_len
          · exact bt_len
          refine pk ?_ ?_
          · exact pv 0
          exact pa_nil
        exact pa_nil
      exact pa_nil
    · intro s0 H0 C0 fp0
      exact pg_name (i := 0) (by show (["_law_k", "_law_many", "_law_script"] : List Str).Nodup; decide +kernel) rfl (Or.inl rfl) (.inr rfl)
    · intro s0 H0 C0 fp0
      exact pf_nil
    intro s0 H0 C0 fp0
    refine pe_cal (CX := CX0) (k := 3) ?_ ?_ ?_ ?_
    · exact C__law_road
    · exact hr.mono (by decide)
    · exact pass0
    refine pk ?_ ?_
    · refine pe_ix ?_ ?_ ?_ ?_
      · exact ix_seq
      · exact pv 2
      · exact pv 0
      exact fun _ _ => rfl
    refine pk ?_ ?_
    · exact pv 1
    exact pa_nil
  refine pss_cons ?_ ?_
  · refine ps_for ?_ ?_ ?_ ?_ ?_
    · exact PassesOwn.never
    · rfl
    · refine pi_range2 ?_ ?_ ?_
      · rfl
      · exact T.n_range
      refine pk ?_ ?_
      · exact pe_int
      refine pk ?_ ?_
      · refine pe_callB (id := "len") ?_ ?_ ?_ ?_ ?_
        · exact call_len
        · rfl
        · exact T.n_len
        · exact bt_len
        refine pk ?_ ?_
        · exact pv 0
        exact pa_nil
      exact pa_nil
    · exact pg_nm 3
    refine pss_cons ?_ ?_
    · refine ps_asg ?_ ?_
      · refine pe_ix ?_ ?_ ?_ ?_
        · exact ix_seq
        · exact pv 2
        · refine pe_op ?_ ?_ ?_
          · exact op_mod
          · exact pv 3
          exact pe_int
        exact fun _ _ => rfl
      refine pg_tup ?_ ?_
      · rfl
      refine pgs_cons ?_ ?_
      · exact pg_nm 5
      refine pgs_cons ?_ ?_
      · exact pg_nm 6
      refine pgs_cons ?_ ?_
      · exact pg_nm 7
      refine pgs_cons ?_ ?_
      · exact pg_nm 8
      refine pgs_cons ?_ ?_
      · exact pg_nm 9
      exact pgs_nil
    refine pss_cons ?_ ?_
    · refine ps_st (i := 4) ?_
      refine pe_op ?_ ?_ ?_
      · exact op_mod
      · refine pe_op ?_ ?_ ?_
        · exact op_mulX
        · refine pe_ix ?_ ?_ ?_ ?_
          · exact ix_seq
          · exact pv 0
          · exact pv 3
          exact fun _ _ => rfl
        exact pe_int
      exact pe_int
    refine pss_cons ?_ ?_
    · refine ps_if ?_ ?_ ?_
      · refine pt_cmpR ?_ ?_ ?_ ?_
        · exact op_eqA hr.units
        · refine pe_op ?_ ?_ ?_
          · exact op_mod
          · refine pe_op ?_ ?_ ?_
            · exact op_fdivB
            · exact pv 3
            exact pe_int
          exact pe_int
        · exact pe_int
        exact nomark _
      · refine pss_one ?_
        refine ps_st (i := 7) ?_
        refine pe_tup ?_
        refine pk ?_ ?_
        · refine pe_op ?_ ?_ ?_
          · exact op_addA
          · refine pe_ix ?_ ?_ ?_ ?_
            · exact ix_seq
            · exact pv 7
            · exact pe_int
            exact fun _ _ => rfl
          refine pe_op ?_ ?_ ?_
          · exact op_mulX
          · exact pv 4
          refine pe_ix ?_ ?_ ?_ ?_
          · exact ix_seq
          · exact pv 7
          · exact pe_int
          exact fun _ _ => rfl
        refine pk ?_ ?_
        · refine pe_ix ?_ ?_ ?_ ?_
          · exact ix_seq
          · exact pv 7
          · exact pe_int
          exact fun _ _ => rfl
        exact pa_nil
      refine pss_one ?_
      refine ps_st (i := 8) ?_
      refine pe_tup ?_
      refine pk ?_ ?_
      · refine pe_op ?_ ?_ ?_
        · exact op_addA
        · refine pe_ix ?_ ?_ ?_ ?_
          · exact ix_seq
          · exact pv 8
          · exact pe_int
          exact fun _ _ => rfl
        refine pe_op ?_ ?_ ?_
        · exact op_mulX
        · exact pv 4
        refine pe_ix ?_ ?_ ?_ ?_
        · exact ix_seq
        · exact pv 8
        · exact pe_int
        exact fun _ _ => rfl
      refine pk ?_ ?_
      · refine pe_ix ?_ ?_ ?_ ?_
        · exact ix_seq
        · exact pv 8
        · exact pe_int
        exact fun _ _ => rfl
      exact pa_nil
    refine pss_one ?_
    refine ps_asg ?_ ?_
    · refine pe_tup ?_
      refine pk ?_ ?_
      · exact pv 5
      refine pk ?_ ?_
      · exact pv 6
      refine pk ?_ ?_
      · exact pv 7
      refine pk ?_ ?_
      · exact pv 8
      refine pk ?_ ?_
      · exact pv 9
      exact pa_nil
    refine pg_sub ?_ ?_ ?_
    · exact pv 2
    · refine pe_op ?_ ?_ ?_
      · exact op_mod
      · exact pv 3
      exact pe_int
    exact set_list
  refine pss_cons ?_ ?_
  · refine ps_if ?_ ?_ ?_
    · refine pt_cmpR ?_ ?_ ?_ ?_
      · exact op_eqA hr.units
      · refine pe_op ?_ ?_ ?_
        · exact op_mod
        · refine pe_op ?_ ?_ ?_
          · exact op_fdivB
          · refine pe_cal (CX := CX0) (k := 1) ?_ ?_ ?_ ?_
            · exact C__law_cell
            · exact hr.mono (by decide)
            · exact pass0
            refine pk ?_ ?_
            · exact pv 0
            refine pk ?_ ?_
            · exact pe_int
            exact pa_nil
          exact pe_int
        exact pe_int
      · exact pe_int
      exact nomark _
    · refine pss_one ?_
      refine ps_st (i := 2) ?_
      refine pe_op ?_ ?_ ?_
      · exact op_addA
      · exact pv 2
      refine pe_comp (own := ["_law_k"]) (capt := ["_law_many"]) (ix := [1]) ?_ ?_ ?_ ?_ ?_ ?_
      · rfl
      · refine CompScope.of rfl (by decide +kernel) (by decide +kernel) ?_ ?_ (by decide +kernel)
        · show ∀ y ∈ (_ : List (Str × NameKind)), y.2 = NameKind.free → (defScope s__law_roads).names.lookup y.1 = some NameKind.cell
          decide +kernel
        · exact .cons rfl rfl (.nil)
      · refine pi_range1 ?_ ?_ ?_
        · rfl
        · exact T.n_range
        refine pk ?_ ?_
        · refine pe_op ?_ ?_ ?_
          · exact op_sub
          · exact pe_int
          refine pe_callB (id := "len") ?_ ?_ ?_ ?_ ?_
          · exact call_len
          · rfl
          · exact T.n_len
          · exact bt_len
          refine pk ?_ ?_
          · exact pv 2
          exact pa_nil
        exact pa_nil
      · intro s0 H0 C0 fp0
        exact pg_name (i := 0) (by show (["_law_k", "_law_many"] : List Str).Nodup; decide +kernel) rfl (Or.inl rfl) (.inr rfl)
      · intro s0 H0 C0 fp0
        exact pf_nil
      intro s0 H0 C0 fp0
      refine pe_cal (CX := CX0) (k := 3) ?_ ?_ ?_ ?_
      · exact C__law_road
      · exact hr.mono (by decide)
      · exact pass0
      refine pk ?_ ?_
      · refine pe_op ?_ ?_ ?_
        · exact op_addA
        · refine pe_op ?_ ?_ ?_
          · exact op_mulX
          · exact pv 0
          exact pv 0
        refine pe_op ?_ ?_ ?_
        · exact op_mulX
        · exact pe_int
        exact pv 0
      refine pk ?_ ?_
      · exact pv 1
      exact pa_nil
    exact pss_nil
  refine pss_one ?_
  refine ps_ret ?_
  exact pv 2
/-! ### _law_odd -/
abbrev s__law_odd : Stmt := top 32
theorem sc__law_odd : FnScope ["_law_number"] ["_law_number"] (defScope s__law_odd) := ⟨rfl, rfl, rfl, by decide +kernel, rfl, by decide +kernel, by decide +kernel⟩
theorem ok__law_odd (T : Txt K mg c)  {f : Addr} {fd : FuncData} (F : Fun K "_law_odd" "_law_odd" s__law_odd f fd) : FnOk P w K mg base CX0 1 f fd ["_law_number"] (spOdd K) := by
  refine F.ok sc__law_odd (fun vs H Q E h => ?len) (fun cdv A outer s H vs Q E hr h => ?_)
  case len =>
    obtain ⟨_, rfl, _⟩ := h
    rfl
  have nd := sc__law_odd.nd
  refine ⟨t__law_odd K, ?_, rd__law_odd  h⟩
  refine pss_one ?_
  refine ps_ret ?_
  refine pe_ix ?_ ?_ ?_ ?_
  · exact ix_seq
  · refine pe_lst ?_
    refine pk ?_ ?_
    · exact pe_non
    refine pk ?_ ?_
    · exact pe_bl
    refine pk ?_ ?_
    · exact pe_bl
    refine pk ?_ ?_
    · exact pe_str
    refine pk ?_ ?_
    · refine pe_tup ?_
      refine pk ?_ ?_
      · exact pe_int
      refine pk ?_ ?_
      · exact pe_int
      exact pa_nil
    refine pk ?_ ?_
    · refine pe_lst ?_
      refine pk ?_ ?_
      · exact pe_int
      exact pa_nil
    refine pk ?_ ?_
    · exact pe_dnewK
    refine pk ?_ ?_
    · exact pe_str
    exact pa_nil
  · refine pe_op ?_ ?_ ?_
    · exact op_mod
    · exact pv 0
    exact pe_int
  exact fun _ _ => rfl
/-! ### _law_no_fraction -/
abbrev s__law_no_fraction : Stmt := top 33
theorem sc__law_no_fraction : FnScope ["_law_number", "_law_some"] ["_law_number"] (defScope s__law_no_fraction) := ⟨rfl, rfl, rfl, by decide +kernel, rfl, by decide +kernel, by decide +kernel⟩
theorem ok__law_no_fraction (T : Txt K mg c)  {f : Addr} {fd : FuncData} (F : Fun K "_law_no_fraction" "_law_no_fraction" s__law_no_fraction f fd) : FnOk P w K mg base CX0 1 f fd ["_law_number"] (spNoFr K) := by
  refine F.ok sc__law_no_fraction (fun vs H Q E h => ?len) (fun cdv A outer s H vs Q E hr h => ?_)
  case len =>
    obtain ⟨_, rfl, _⟩ := h
    rfl
  have nd := sc__law_no_fraction.nd
  refine ⟨t__law_no_fraction K, ?_, rd__law_no_fraction  h⟩
  refine pss_cons ?_ ?_
  · refine ps_st (i := 1) ?_
    refine pe_lst ?_
    refine pk ?_ ?_
    · refine pe_tup ?_
      refine pk ?_ ?_
      · refine pe_un ?_ ?_
        · exact un_neg
        exact pe_int
      refine pk ?_ ?_
      · refine pe_op ?_ ?_ ?_
        · exact op_addA
        · exact pe_int
        refine pe_op ?_ ?_ ?_
        · exact op_mod
        · refine pe_op ?_ ?_ ?_
          · exact op_fdivB
          · exact pv 0
          exact pe_int
        exact pe_int
      exact pa_nil
    refine pk ?_ ?_
    · refine pe_tup ?_
      refine pk ?_ ?_
      · exact pe_int
      refine pk ?_ ?_
      · exact pe_int
      exact pa_nil
    refine pk ?_ ?_
    · refine pe_tup ?_
      refine pk ?_ ?_
      · exact pe_int
      refine pk ?_ ?_
      · exact pe_int
      exact pa_nil
    refine pk ?_ ?_
    · refine pe_tup ?_
      refine pk ?_ ?_
      · exact pe_int
      refine pk ?_ ?_
      · exact pe_int
      exact pa_nil
    refine pk ?_ ?_
    · refine pe_tup ?_
      refine pk ?_ ?_
      · exact pe_int
      refine pk ?_ ?_
      · refine pe_un ?_ ?_
        · exact un_neg
        exact pe_int
      exact pa_nil
    refine pk ?_ ?_
    · exact pe_int
    refine pk ?_ ?_
    · exact pe_non
    refine pk ?_ ?_
    · exact pe_bl
    refine pk ?_ ?_
    · exact pe_str
    refine pk ?_ ?_
    · refine pe_lst ?_
      refine pk ?_ ?_
      · exact pe_int
      refine pk ?_ ?_
      · exact pe_int
      exact pa_nil
    refine pk ?_ ?_
    · refine pe_tup ?_
      refine pk ?_ ?_
      · exact pe_int
      refine pk ?_ ?_
      · exact pe_int
      refine pk ?_ ?_
      · exact pe_int
      exact pa_nil
    exact pa_nil
  refine pss_one ?_
  refine ps_ret ?_
  refine pe_ix ?_ ?_ ?_ ?_
  · exact ix_seq
  · refine pe_op ?_ ?_ ?_
    · exact op_addA
    · exact pv 1
    refine pe_lst ?_
    refine pk ?_ ?_
    · refine pe_tup ?_
      refine pk ?_ ?_
      · exact pe_bl
      refine pk ?_ ?_
      · exact pe_int
      exact pa_nil
    exact pa_nil
  · refine pe_op ?_ ?_ ?_
    · exact op_mod
    · exact pv 0
    exact pe_int
  exact fun _ _ => rfl
/-! ### _law_road_off -/
abbrev s__law_road_off : Stmt := top 34
theorem sc__law_road_off : FnScope ["_law_road_here", "_law_many", "_law_number", "_law_way", "_law_off_here"] ["_law_road_here", "_law_many", "_law_number"] (defScope s__law_road_off) := ⟨rfl, rfl, rfl, by decide +kernel, rfl, by decide +kernel, by decide +kernel⟩
theorem ok__law_road_off (T : Txt K mg c) (C__law_odd : Cal P w K mg base CX0 1 "_law_odd" (spOdd K)) (C__law_no_fraction : Cal P w K mg base CX0 1 "_law_no_fraction" (spNoFr K)) {f : Addr} {fd : FuncData} (F : Fun K "_law_road_off" "_law_road_off" s__law_road_off f fd) : FnOk P w K mg base CX0 2 f fd ["_law_road_here", "_law_many", "_law_number"] (spRoadOff K) := by
  refine F.ok sc__law_road_off (fun vs H Q E h => ?len) (fun cdv A outer s H vs Q E hr h => ?_)
  case len =>
    obtain ⟨_, _, _, rfl, _⟩ := h
    rfl
  have nd := sc__law_road_off.nd
  refine ⟨t__law_road_off K, ?_, rd__law_road_off  h⟩
  refine pss_cons ?_ ?_
  · refine ps_st (i := 3) ?_
    refine pe_op ?_ ?_ ?_
    · exact op_mod
    · exact pv 2
    exact pe_int
  refine pss_cons ?_ ?_
  · refine ps_st (i := 4) ?_
    refine pe_callTy (T := "list") ?_ ?_ ?_ ?_ ?_
    · exact call_list_of
    · rfl
    · exact T.n_list
    · exact bt_list
    refine pk ?_ ?_
    · exact pv 0
    exact pa_nil
  refine pss_cons ?_ ?_
  · refine ps_if ?_ ?_ ?_
    · refine pt_cmpR ?_ ?_ ?_ ?_
      · exact op_eqA hr.units
      · exact pv 3
      · exact pe_int
      exact nomark _
    · refine pss_one ?_
      refine ps_ret ?_
      refine pe_ix ?_ ?_ ?_ ?_
      · exact ix_seq
      · refine pe_lst ?_
        refine pk ?_ ?_
        · refine pe_slice ?_ ?_ ?_ ?_
          · exact sl_tup
          · exact pv 0
          · exact po_none
          · refine po_some ?_
            exact pe_int
        refine pk ?_ ?_
        · refine pe_op ?_ ?_ ?_
          · exact op_addA
          · exact pv 0
          refine pe_tup ?_
          refine pk ?_ ?_
          · exact pe_bl
          exact pa_nil
        exact pa_nil
      · refine pe_op ?_ ?_ ?_
        · exact op_mod
        · refine pe_op ?_ ?_ ?_
          · exact op_fdivB
          · exact pv 2
          exact pe_int
        exact pe_int
      exact fun _ _ => rfl
    exact pss_nil
  refine pss_cons ?_ ?_
  · refine ps_if ?_ ?_ ?_
    · refine pt_cmpR ?_ ?_ ?_ ?_
      · exact op_eqA hr.units
      · exact pv 3
      · exact pe_int
      exact nomark _
    · refine pss_one ?_
      refine ps_asg ?_ ?_
      · refine pe_op ?_ ?_ ?_
        · exact op_sub
        · refine pe_un ?_ ?_
          · exact un_neg
          exact pe_int
        refine pe_op ?_ ?_ ?_
        · exact op_mulX
        · refine pe_op ?_ ?_ ?_
          · exact op_mod
          · refine pe_op ?_ ?_ ?_
            · exact op_fdivB
            · exact pv 2
            exact pe_int
          exact pe_int
        refine pe_op ?_ ?_ ?_
        · exact op_fdivB
        · exact pv 2
        exact pe_int
      refine pg_sub ?_ ?_ ?_
      · exact pv 4
      · refine pe_op ?_ ?_ ?_
        · exact op_mod
        · refine pe_op ?_ ?_ ?_
          · exact op_fdivB
          · exact pv 2
          exact pe_int
        exact pe_int
      exact set_list
    exact pss_nil
  refine pss_cons ?_ ?_
  · refine ps_if ?_ ?_ ?_
    · refine pt_cmpR ?_ ?_ ?_ ?_
      · exact op_eqA hr.units
      · exact pv 3
      · exact pe_int
      exact nomark _
    · refine pss_one ?_
      refine ps_asg ?_ ?_
      · refine pe_op ?_ ?_ ?_
        · exact op_addA
        · exact pv 1
        refine pe_op ?_ ?_ ?_
        · exact op_mulX
        · refine pe_op ?_ ?_ ?_
          · exact op_mod
          · refine pe_op ?_ ?_ ?_
            · exact op_fdivB
            · exact pv 2
            exact pe_int
          exact pe_int
        refine pe_op ?_ ?_ ?_
        · exact op_fdivB
        · exact pv 2
        exact pe_int
      refine pg_sub ?_ ?_ ?_
      · exact pv 4
      · refine pe_op ?_ ?_ ?_
        · exact op_mod
        · refine pe_op ?_ ?_ ?_
          · exact op_fdivB
          · exact pv 2
          exact pe_int
        exact pe_int
      exact set_list
    exact pss_nil
  refine pss_cons ?_ ?_
  · refine ps_if ?_ ?_ ?_
    · refine pt_cmpR ?_ ?_ ?_ ?_
      · exact op_eqA hr.units
      · exact pv 3
      · exact pe_int
      exact nomark _
    · refine pss_one ?_
      refine ps_asg ?_ ?_
      · refine pe_cal (CX := CX0) (k := 1) ?_ ?_ ?_ ?_
        · exact C__law_odd
        · exact hr.mono (by decide)
        · exact pass0
        refine pk ?_ ?_
        · refine pe_op ?_ ?_ ?_
          · exact op_fdivB
          · exact pv 2
          exact pe_int
        exact pa_nil
      refine pg_sub ?_ ?_ ?_
      · exact pv 4
      · refine pe_op ?_ ?_ ?_
        · exact op_mod
        · refine pe_op ?_ ?_ ?_
          · exact op_fdivB
          · exact pv 2
          exact pe_int
        exact pe_int
      exact set_list
    exact pss_nil
  refine pss_cons ?_ ?_
  · refine ps_if ?_ ?_ ?_
    · refine pt_cmpR ?_ ?_ ?_ ?_
      · exact op_eqA hr.units
      · exact pv 3
      · exact pe_int
      exact nomark _
    · refine pss_one ?_
      refine ps_asg ?_ ?_
      · refine pe_ix ?_ ?_ ?_ ?_
        · exact ix_seq
        · exact pv 4
        · refine pe_op ?_ ?_ ?_
          · exact op_sub
          · exact pe_int
          refine pe_op ?_ ?_ ?_
          · exact op_mod
          · refine pe_op ?_ ?_ ?_
            · exact op_fdivB
            · exact pv 2
            exact pe_int
          exact pe_int
        exact fun _ _ => rfl
      refine pg_sub ?_ ?_ ?_
      · exact pv 4
      · refine pe_op ?_ ?_ ?_
        · exact op_mod
        · refine pe_op ?_ ?_ ?_
          · exact op_fdivB
          · exact pv 2
          exact pe_int
        exact pe_int
      exact set_list
    exact pss_nil
  refine pss_cons ?_ ?_
  · refine ps_if ?_ ?_ ?_
    · refine PW.pt ?_
      refine pw_or ?_ ?_
      · refine pt_cmpR ?_ ?_ ?_ ?_
        · exact op_eqA hr.units
        · exact pv 3
        · exact pe_int
        exact nomark _
      refine pw_or1 ?_
      refine pt_cmpR ?_ ?_ ?_ ?_
      · exact op_eqA hr.units
      · exact pv 3
      · exact pe_int
      exact nomark _
    · refine pss_one ?_
      refine ps_asg ?_ ?_
      · refine pe_cal (CX := CX0) (k := 1) ?_ ?_ ?_ ?_
        · exact C__law_no_fraction
        · exact hr.mono (by decide)
        · exact pass0
        refine pk ?_ ?_
        · refine pe_op ?_ ?_ ?_
          · exact op_fdivB
          · exact pv 2
          exact pe_int
        exact pa_nil
      refine pg_sub ?_ ?_ ?_
      · exact pv 4
      · refine pe_op ?_ ?_ ?_
        · exact op_sub
        · exact pv 3
        exact pe_int
      exact set_list
    exact pss_nil
  refine pss_cons ?_ ?_
  · refine ps_if ?_ ?_ ?_
    · refine pt_cmpR ?_ ?_ ?_ ?_
      · exact op_gt
      · exact pv 3
      · exact pe_int
      exact nomark _
    · refine pss_one ?_
      refine ps_asg ?_ ?_
      · refine pe_ix ?_ ?_ ?_ ?_
        · exact ix_seq
        · refine pe_lst ?_
          refine pk ?_ ?_
          · exact pe_non
          refine pk ?_ ?_
          · exact pe_int
          refine pk ?_ ?_
          · exact pe_int
          refine pk ?_ ?_
          · exact pe_str
          refine pk ?_ ?_
          · exact pe_str
          refine pk ?_ ?_
          · refine pe_tup ?_
            refine pk ?_ ?_
            · exact pe_bl
            exact pa_nil
          refine pk ?_ ?_
          · refine pe_lst ?_
            refine pk ?_ ?_
            · exact pe_bl
            exact pa_nil
          refine pk ?_ ?_
          · exact pe_int
          exact pa_nil
        · refine pe_op ?_ ?_ ?_
          · exact op_mod
          · refine pe_op ?_ ?_ ?_
            · exact op_fdivB
            · exact pv 2
            exact pe_int
          exact pe_int
        exact fun _ _ => rfl
      refine pg_sub ?_ ?_ ?_
      · exact pv 4
      · exact pe_int
      exact set_list
    exact pss_nil
  refine pss_one ?_
  refine ps_ret ?_
  refine pe_callTy (T := "tuple") ?_ ?_ ?_ ?_ ?_
  · exact call_tuple_of
  · rfl
  · exact T.n_tuple
  · exact bt_tuple
  refine pk ?_ ?_
  · exact pv 4
  exact pa_nil
/-! ### _law_off -/
abbrev s__law_off : Stmt := top 35
theorem sc__law_off : FnScope ["_law_many", "_law_roads_here", "_law_number", "_law_at", "_law_road_here", "_law_far", "_law_long"] ["_law_many", "_law_roads_here", "_law_number"] (defScope s__law_off) := ⟨rfl, rfl, rfl, by decide +kernel, rfl, by decide +kernel, by decide +kernel⟩
theorem ok__law_off (T : Txt K mg c) (C__law_road : Cal P w K mg base CX0 3 "_law_road" (spLRoad K)) (C__law_odd : Cal P w K mg base CX0 1 "_law_odd" (spOdd K)) (C__law_road_off : Cal P w K mg base CX0 2 "_law_road_off" (spRoadOff K)) {f : Addr} {fd : FuncData} (F : Fun K "_law_off" "_law_off" s__law_off f fd) : FnOk P w K mg base CX0 4 f fd ["_law_many", "_law_roads_here", "_law_number"] (spOff K) := by
  refine F.ok sc__law_off (fun vs H Q E h => ?len) (fun cdv A outer s H vs Q E hr h => ?_)
  case len =>
    obtain ⟨_, _, _, _, rfl, _⟩ := h
    rfl
  have nd := sc__law_off.nd
  refine ⟨t__law_off K, ?_, rd__law_off  h⟩
  refine pss_cons ?_ ?_
  · refine ps_if ?_ ?_ ?_
    · refine pt_cmpR ?_ ?_ ?_ ?_
      · exact op_eqA hr.units
      · refine pe_op ?_ ?_ ?_
        · exact op_mod
        · exact pv 2
        exact pe_int
      · exact pe_int
      exact nomark _
    · refine pss_cons ?_ ?_
      · refine ps_st (i := 5) ?_
        refine pe_op ?_ ?_ ?_
        · exact op_mulX
        · refine pe_op ?_ ?_ ?_
          · exact op_mod
          · refine pe_op ?_ ?_ ?_
            · exact op_fdivB
            · exact pv 2
            exact pe_int
          exact pe_int
        refine pe_op ?_ ?_ ?_
        · exact op_fdivB
        · exact pv 2
        exact pe_int
      refine pss_one ?_
      refine ps_ret ?_
      refine pe_lst ?_
      refine pk ?_ ?_
      · refine pe_ix ?_ ?_ ?_ ?_
        · exact ix_seq
        · refine pe_lst ?_
          refine pk ?_ ?_
          · exact pe_int
          refine pk ?_ ?_
          · exact pe_int
          refine pk ?_ ?_
          · exact pe_int
          refine pk ?_ ?_
          · refine pe_op ?_ ?_ ?_
            · exact op_addA
            · exact pe_int
            exact pv 5
          refine pk ?_ ?_
          · refine pe_op ?_ ?_ ?_
            · exact op_sub
            · refine pe_un ?_ ?_
              · exact un_neg
              exact pe_int
            exact pv 5
          refine pk ?_ ?_
          · refine pe_cal (CX := CX0) (k := 1) ?_ ?_ ?_ ?_
            · exact C__law_odd
            · exact hr.mono (by decide)
            · exact pass0
            refine pk ?_ ?_
            · refine pe_op ?_ ?_ ?_
              · exact op_fdivB
              · exact pv 2
              exact pe_int
            exact pa_nil
          exact pa_nil
        · refine pe_op ?_ ?_ ?_
          · exact op_mod
          · refine pe_op ?_ ?_ ?_
            · exact op_fdivB
            · exact pv 2
            exact pe_int
          exact pe_int
        exact fun _ _ => rfl
      refine pk ?_ ?_
      · exact pv 1
      exact pa_nil
    exact pss_nil
  refine pss_cons ?_ ?_
  · refine ps_if ?_ ?_ ?_
    · refine pt_cmpR ?_ ?_ ?_ ?_
      · exact op_eqA hr.units
      · refine pe_op ?_ ?_ ?_
        · exact op_mod
        · exact pv 2
        exact pe_int
      · exact pe_int
      exact nomark _
    · refine pss_cons ?_ ?_
      · refine ps_st (i := 6) ?_
        refine pe_op ?_ ?_ ?_
        · exact op_addA
        · refine pe_op ?_ ?_ ?_
          · exact op_sub
          · exact pe_int
          refine pe_callB (id := "len") ?_ ?_ ?_ ?_ ?_
          · exact call_len
          · rfl
          · exact T.n_len
          · exact bt_len
          refine pk ?_ ?_
          · exact pv 1
          exact pa_nil
        refine pe_op ?_ ?_ ?_
        · exact op_mod
        · refine pe_op ?_ ?_ ?_
          · exact op_fdivB
          · exact pv 2
          exact pe_int
        exact pe_int
      refine pss_one ?_
      refine ps_ret ?_
      refine pe_lst ?_
      refine pk ?_ ?_
      · exact pv 0
      refine pk ?_ ?_
      · refine pe_op ?_ ?_ ?_
        · exact op_addA
        · exact pv 1
        refine pe_comp (own := ["_law_k"]) (capt := ["_law_many"]) (ix := [0]) ?_ ?_ ?_ ?_ ?_ ?_
        · rfl
        · refine CompScope.of rfl (by decide +kernel) (by decide +kernel) ?_ ?_ (by decide +kernel)
          · show ∀ y ∈ (_ : List (Str × NameKind)), y.2 = NameKind.free → (defScope s__law_off).names.lookup y.1 = some NameKind.cell
            decide +kernel
          · exact .cons rfl rfl (.nil)
        · refine pi_range1 ?_ ?_ ?_
          · rfl
          · exact T.n_range
          refine pk ?_ ?_
          · exact pv 6
          exact pa_nil
        · intro s0 H0 C0 fp0
          exact pg_name (i := 0) (by show (["_law_k", "_law_many"] : List Str).Nodup; decide +kernel) rfl (Or.inl rfl) (.inr rfl)
        · intro s0 H0 C0 fp0
          exact pf_nil
        intro s0 H0 C0 fp0
        refine pe_cal (CX := CX0) (k := 3) ?_ ?_ ?_ ?_
        · exact C__law_road
        · exact hr.mono (by decide)
        · exact pass0
        refine pk ?_ ?_
        · exact pv 0
        refine pk ?_ ?_
        · exact pv 1
        exact pa_nil
      exact pa_nil
    exact pss_nil
  refine pss_cons ?_ ?_
  · refine ps_st (i := 3) ?_
    refine pe_op ?_ ?_ ?_
    · exact op_mod
    · refine pe_op ?_ ?_ ?_
      · exact op_fdivB
      · exact pv 2
      exact pe_int
    refine pe_op ?_ ?_ ?_
    · exact op_addA
    · refine pe_callB (id := "len") ?_ ?_ ?_ ?_ ?_
      · exact call_len
      · rfl
      · exact T.n_len
      · exact bt_len
      refine pk ?_ ?_
      · exact pv 1
      exact pa_nil
    exact pe_int
  refine pss_cons ?_ ?_
  · refine ps_st (i := 4) ?_
    refine pe_cal (CX := CX0) (k := 3) ?_ ?_ ?_ ?_
    · exact C__law_road
    · exact hr.mono (by decide)
    · exact pass0
    refine pk ?_ ?_
    · exact pv 2
    refine pk ?_ ?_
    · exact pv 0
    exact pa_nil
  refine pss_cons ?_ ?_
  · refine ps_if ?_ ?_ ?_
    · refine pt_cmpR ?_ ?_ ?_ ?_
      · exact op_lt
      · exact pv 3
      · refine pe_callB (id := "len") ?_ ?_ ?_ ?_ ?_
        · exact call_len
        · rfl
        · exact T.n_len
        · exact bt_len
        refine pk ?_ ?_
        · exact pv 1
        exact pa_nil
      exact nomark _
    · refine pss_one ?_
      refine ps_st (i := 4) ?_
      refine pe_ix ?_ ?_ ?_ ?_
      · exact ix_seq
      · exact pv 1
      · exact pv 3
      exact fun _ _ => rfl
    exact pss_nil
  refine pss_one ?_
  refine ps_ret ?_
  refine pe_lst ?_
  refine pk ?_ ?_
  · exact pv 0
  refine pk ?_ ?_
  · refine pe_op ?_ ?_ ?_
    · exact op_addA
    · refine pe_op ?_ ?_ ?_
      · exact op_addA
      · refine pe_slice ?_ ?_ ?_ ?_
        · exact sl_list
        · exact pv 1
        · exact po_none
        · refine po_some ?_
          exact pv 3
      refine pe_lst ?_
      refine pk ?_ ?_
      · refine pe_cal (CX := CX0) (k := 2) ?_ ?_ ?_ ?_
        · exact C__law_road_off
        · exact hr.mono (by decide)
        · exact pass0
        refine pk ?_ ?_
        · exact pv 4
        refine pk ?_ ?_
        · exact pv 0
        refine pk ?_ ?_
        · refine pe_op ?_ ?_ ?_
          · exact op_fdivB
          · exact pv 2
          exact pe_int
        exact pa_nil
      exact pa_nil
    refine pe_slice ?_ ?_ ?_ ?_
    · exact sl_list
    · exact pv 1
    · refine po_some ?_
      refine pe_op ?_ ?_ ?_
      · exact op_addA
      · exact pv 3
      exact pe_int
    · exact po_none
  exact pa_nil
/-! ### _law_refused -/
abbrev s__law_refused : Stmt := top 36
theorem sc__law_refused : FnScope ["_law_many", "_law_roads_here", "_law_only", "e"] ["_law_many", "_law_roads_here"] (defScope s__law_refused) := ⟨rfl, rfl, rfl, by decide +kernel, rfl, by decide +kernel, by decide +kernel⟩
theorem ok__law_refused (T : Txt K mg c) (C_made_net : Cal P w K mg base (CX1 P w) 5 "made_net" (spMade K c)) {f : Addr} {fd : FuncData} (F : Fun K "_law_refused" "_law_refused" s__law_refused f fd) : FnOk P w K mg base CX0 6 f fd ["_law_many", "_law_roads_here"] (spRefused K) := by
  refine F.ok sc__law_refused (fun vs H Q E h => ?len) (fun cdv A outer s H vs Q E hr h => ?_)
  case len =>
    obtain ⟨_, _, _, rfl, _⟩ := h
    rfl
  have nd := sc__law_refused.nd
  refine ⟨t__law_refused K c (fun cls _ H' => cls = .ref c.NoNet ∧ Same H H'), ?_, rd__law_refused T.X_NoNet h⟩
  refine pss_cons ?_ ?_
  · refine ps_st (i := 2) ?_
    exact pe_bl
  refine pss_cons ?_ ?_
  · refine ps_try (i := 3) ?_ ?_ ?_ ?_ ?_ ?_ ?_ ?_ ?_ ?_ ?_
    · rfl
    · rfl
    · rfl
    · rfl
    · exact nd
    · rfl
    · rfl
    · rfl
    · exact T.m_RoadError
    · intro E2 pn hp
      refine pss_one ?_
      refine ps_expr ?_
      refine pe_cal (CX := CX1 P w) (k := 5) ?_ ?_ ?_ ?_
      · exact C_made_net
      · exact hr.mono (by decide)
      · exact hp
      refine pk ?_ ?_
      · exact pv 0
      refine pk ?_ ?_
      · exact pv 1
      exact pa_nil
    intro ea
    refine pss_cons ?_ ?_
    · refine ps_st (i := 2) ?_
      refine pe_and ?_ ?_
      · refine pe_callB (id := "isinstance") ?_ ?_ ?_ ?_ ?_
        · exact call_isiK (K := K) rfl
        · rfl
        · exact T.n_isinstance
        · exact bt_isinstance
        refine pk ?_ ?_
        · exact pv 3
        refine pk ?_ ?_
        · exact pe_gr rfl T.m_NoNet
        exact pa_nil
      refine pe_one ?_
      refine pe_callB (id := "isinstance") ?_ ?_ ?_ ?_ ?_
      · exact call_isiK (K := K) rfl
      · rfl
      · exact T.n_isinstance
      · exact bt_isinstance
      refine pk ?_ ?_
      · exact pv 3
      refine pk ?_ ?_
      · exact pe_bt rfl T.n_ValueError bt_ValueError
      exact pa_nil
    refine pss_one ?_
    refine ps_st (i := 2) ?_
    refine pe_and ?_ ?_
    · exact pv 2
    refine pe_one ?_
    refine pe_not ?_
    refine pe_callB (id := "isinstance") ?_ ?_ ?_ ?_ ?_
    · exact call_isiTK (K := K) rfl
    · rfl
    · exact T.n_isinstance
    · exact bt_isinstance
    refine pk ?_ ?_
    · exact pv 3
    refine pk ?_ ?_
    · refine pe_tup ?_
      refine pk ?_ ?_
      · exact pe_gr rfl T.m_NoNumber
      refine pk ?_ ?_
      · exact pe_gr rfl T.m_NoShare
      refine pk ?_ ?_
      · exact pe_gr rfl T.m_NoStep
      refine pk ?_ ?_
      · exact pe_gr rfl T.m_NoSuch
      refine pk ?_ ?_
      · exact pe_gr rfl T.m_NoText
      refine pk ?_ ?_
      · exact pe_gr rfl T.m_NoWay
      refine pk ?_ ?_
      · exact pe_gr rfl T.m_NoWish
      refine pk ?_ ?_
      · exact pe_gr rfl T.m_TooMany
      exact pa_nil
    exact pa_nil
  refine pss_one ?_
  refine ps_ret ?_
  exact pv 2
/-! ### _law_good -/
abbrev s__law_good : Stmt := top 37
theorem sc__law_good : FnScope ["_law_found", "_law_many", "_law_roads_here", "_law_road_here", "_law_due", "_law_number"] ["_law_found", "_law_many", "_law_roads_here"] (defScope s__law_good) := ⟨rfl, rfl, rfl, by decide +kernel, rfl, by decide +kernel, by decide +kernel⟩
theorem ok__law_good (T : Txt K mg c) (C__law_whole : Cal P w K mg base CX0 1 "_law_whole" (spWhole K)) {f : Addr} {fd : FuncData} (F : Fun K "_law_good" "_law_good" s__law_good f fd) : FnOk P w K mg base CX0 2 f fd ["_law_found", "_law_many", "_law_roads_here"] (spGood K) := by
  refine F.ok sc__law_good (fun vs H Q E h => ?len) (fun cdv A outer s H vs Q E hr h => ?_)
  case len =>
    obtain ⟨_, _, _, _, _, rfl, _⟩ := h
    rfl
  have nd := sc__law_good.nd
  refine ⟨t__law_good K, ?_, rd__law_good  h⟩
  refine pss_cons ?_ ?_
  · refine ps_if ?_ ?_ ?_
    · refine PW.pt ?_
      refine pw_or ?_ ?_
      · refine pt_not ?_
        refine pt_val ?_
        refine pe_callB (id := "isinstance") ?_ ?_ ?_ ?_ ?_
        · exact call_isiK (K := K) rfl
        · rfl
        · exact T.n_isinstance
        · exact bt_isinstance
        refine pk ?_ ?_
        · exact pv 0
        refine pk ?_ ?_
        · exact pe_bt rfl T.n_tuple bt_tuple
        exact pa_nil
      refine pw_or ?_ ?_
      · refine pt_cmpR ?_ ?_ ?_ ?_
        · exact op_neA hr.units
        · refine pe_callB (id := "len") ?_ ?_ ?_ ?_ ?_
          · exact call_len
          · rfl
          · exact T.n_len
          · exact bt_len
          refine pk ?_ ?_
          · exact pv 0
          exact pa_nil
        · exact pe_int
        exact nomark _
      refine pw_or ?_ ?_
      · refine pt_not ?_
        refine pt_val ?_
        refine pe_cal (CX := CX0) (k := 1) ?_ ?_ ?_ ?_
        · exact C__law_whole
        · exact hr.mono (by decide)
        · exact pass0
        refine pk ?_ ?_
        · refine pe_ix ?_ ?_ ?_ ?_
          · exact ix_seq
          · exact pv 0
          · exact pe_int
          exact fun _ _ => rfl
        exact pa_nil
      refine pw_or1 ?_
      refine pt_cmpR ?_ ?_ ?_ ?_
      · exact op_neA hr.units
      · refine pe_ix ?_ ?_ ?_ ?_
        · exact ix_seq
        · exact pv 0
        · exact pe_int
        exact fun _ _ => rfl
      · exact pv 1
      exact nomark _
    · refine pss_one ?_
      refine ps_ret ?_
      exact pe_bl
    exact pss_nil
  refine pss_cons ?_ ?_
  · refine ps_if ?_ ?_ ?_
    · refine PW.pt ?_
      refine pw_or ?_ ?_
      · refine pt_not ?_
        refine pt_val ?_
        refine pe_callB (id := "isinstance") ?_ ?_ ?_ ?_ ?_
        · exact call_isiK (K := K) rfl
        · rfl
        · exact T.n_isinstance
        · exact bt_isinstance
        refine pk ?_ ?_
        · refine pe_ix ?_ ?_ ?_ ?_
          · exact ix_seq
          · exact pv 0
          · exact pe_int
          exact fun _ _ => rfl
        refine pk ?_ ?_
        · exact pe_bt rfl T.n_list bt_list
        exact pa_nil
      refine pw_or1 ?_
      refine pt_cmpR ?_ ?_ ?_ ?_
      · exact op_neA hr.units
      · refine pe_callB (id := "len") ?_ ?_ ?_ ?_ ?_
        · exact call_len
        · rfl
        · exact T.n_len
        · exact bt_len
        refine pk ?_ ?_
        · refine pe_ix ?_ ?_ ?_ ?_
          · exact ix_seq
          · exact pv 0
          · exact pe_int
          exact fun _ _ => rfl
        exact pa_nil
      · refine pe_callB (id := "len") ?_ ?_ ?_ ?_ ?_
        · exact call_len
        · rfl
        · exact T.n_len
        · exact bt_len
        refine pk ?_ ?_
        · exact pv 2
        exact pa_nil
      exact nomark _
    · refine pss_one ?_
      refine ps_ret ?_
      exact pe_bl
    exact pss_nil
  refine pss_cons ?_ ?_
  · refine ps_for ?_ ?_ ?_ ?_ ?_
    · exact PassesOwn.never
    · rfl
    · refine pi_zip ?_ ?_ ?_
      · rfl
      · exact T.n_zip
      refine pk ?_ ?_
      · refine pe_ix ?_ ?_ ?_ ?_
        · exact ix_seq
        · exact pv 0
        · exact pe_int
        exact fun _ _ => rfl
      refine pk ?_ ?_
      · exact pv 2
      exact pa_nil
    · refine pg_tup ?_ ?_
      · rfl
      refine pgs_cons ?_ ?_
      · exact pg_nm 3
      refine pgs_cons ?_ ?_
      · exact pg_nm 4
      exact pgs_nil
    refine pss_cons ?_ ?_
    · refine ps_if ?_ ?_ ?_
      · refine PW.pt ?_
        refine pw_or ?_ ?_
        · refine pt_not ?_
          refine pt_val ?_
          refine pe_callB (id := "isinstance") ?_ ?_ ?_ ?_ ?_
          · exact call_isiK (K := K) rfl
          · rfl
          · exact T.n_isinstance
          · exact bt_isinstance
          refine pk ?_ ?_
          · exact pv 3
          refine pk ?_ ?_
          · exact pe_bt rfl T.n_tuple bt_tuple
          exact pa_nil
        refine pw_or ?_ ?_
        · refine pt_cmpR ?_ ?_ ?_ ?_
          · exact op_neA hr.units
          · exact pv 3
          · exact pv 4
          exact nomark _
        refine pw_or1 ?_
        refine pt_not ?_
        refine pt_val ?_
        refine pe_callB (id := "isinstance") ?_ ?_ ?_ ?_ ?_
        · exact call_isiK (K := K) rfl
        · rfl
        · exact T.n_isinstance
        · exact bt_isinstance
        refine pk ?_ ?_
        · refine pe_ix ?_ ?_ ?_ ?_
          · exact ix_seq
          · exact pv 3
          · exact pe_int
          exact fun _ _ => rfl
        refine pk ?_ ?_
        · exact pe_bt rfl T.n_bool bt_bool
        exact pa_nil
      · refine pss_one ?_
        refine ps_ret ?_
        exact pe_bl
      exact pss_nil
    refine pss_one ?_
    refine ps_for ?_ ?_ ?_ ?_ ?_
    · exact PassesOwn.never
    · rfl
    · refine pi_list ?_
      refine pe_lst ?_
      refine pk ?_ ?_
      · refine pe_ix ?_ ?_ ?_ ?_
        · exact ix_seq
        · exact pv 3
        · exact pe_int
        exact fun _ _ => rfl
      refine pk ?_ ?_
      · refine pe_ix ?_ ?_ ?_ ?_
        · exact ix_seq
        · exact pv 3
        · exact pe_int
        exact fun _ _ => rfl
      refine pk ?_ ?_
      · refine pe_ix ?_ ?_ ?_ ?_
        · exact ix_seq
        · refine pe_ix ?_ ?_ ?_ ?_
          · exact ix_seq
          · exact pv 3
          · exact pe_int
          exact fun _ _ => rfl
        · exact pe_int
        exact fun _ _ => rfl
      refine pk ?_ ?_
      · refine pe_ix ?_ ?_ ?_ ?_
        · exact ix_seq
        · refine pe_ix ?_ ?_ ?_ ?_
          · exact ix_seq
          · exact pv 3
          · exact pe_int
          exact fun _ _ => rfl
        · exact pe_int
        exact fun _ _ => rfl
      refine pk ?_ ?_
      · refine pe_ix ?_ ?_ ?_ ?_
        · exact ix_seq
        · refine pe_ix ?_ ?_ ?_ ?_
          · exact ix_seq
          · exact pv 3
          · exact pe_int
          exact fun _ _ => rfl
        · exact pe_int
        exact fun _ _ => rfl
      refine pk ?_ ?_
      · refine pe_ix ?_ ?_ ?_ ?_
        · exact ix_seq
        · refine pe_ix ?_ ?_ ?_ ?_
          · exact ix_seq
          · exact pv 3
          · exact pe_int
          exact fun _ _ => rfl
        · exact pe_int
        exact fun _ _ => rfl
      exact pa_nil
    · exact pg_nm 5
    refine pss_one ?_
    refine ps_if ?_ ?_ ?_
    · refine pt_not ?_
      refine pt_val ?_
      refine pe_cal (CX := CX0) (k := 1) ?_ ?_ ?_ ?_
      · exact C__law_whole
      · exact hr.mono (by decide)
      · exact pass0
      refine pk ?_ ?_
      · exact pv 5
      exact pa_nil
    · refine pss_one ?_
      refine ps_ret ?_
      exact pe_bl
    exact pss_nil
  refine pss_one ?_
  refine ps_ret ?_
  exact pe_bl
/-! ### law -/
abbrev s_law : Stmt := top 38
theorem sc_law : FnScope ["_law_script", "_law_many", "_law_roads_here", "_law_number", "_law_handed", "_law_found", "_law_off_here", "_law_kept", "_law_later"] ["_law_script"] (defScope s_law) := ⟨rfl, rfl, rfl, by decide +kernel, rfl, by decide +kernel, by decide +kernel⟩
theorem ok_law (T : Txt K mg c) (C__law_roads : Cal P w K mg base CX0 4 "_law_roads" (spLRoads K)) (C_made_net : Cal P w K mg base (CX1 P w) 5 "made_net" (spMade K c)) (C__law_off : Cal P w K mg base CX0 4 "_law_off" (spOff K)) (C__law_good : Cal P w K mg base CX0 2 "_law_good" (spGood K)) (C__law_refused : Cal P w K mg base CX0 6 "_law_refused" (spRefused K)) (C__law_cell : Cal P w K mg base CX0 1 "_law_cell" (spCell K)) {f : Addr} {fd : FuncData} (F : Fun K "law" "law" s_law f fd) : FnOk P w K mg base CX0 7 f fd ["_law_script"] (spLaw K) := by
  refine F.ok sc_law (fun vs H Q E h => ?len) (fun cdv A outer s H vs Q E hr h => ?_)
  case len =>
    obtain ⟨_, _, rfl, _⟩ := h
    rfl
  have nd := sc_law.nd
  refine ⟨t_law K c, ?_, rd_law  h⟩
  refine pss_cons ?_ ?_
  · refine ps_st (i := 1) ?_
    refine pe_op ?_ ?_ ?_
    · exact op_addA
    · exact pe_int
    refine pe_op ?_ ?_ ?_
    · exact op_mod
    · refine pe_cal (CX := CX0) (k := 1) ?_ ?_ ?_ ?_
      · exact C__law_cell
      · exact hr.mono (by decide)
      · exact pass0
      refine pk ?_ ?_
      · exact pv 0
      refine pk ?_ ?_
      · exact pe_int
      exact pa_nil
    exact pe_int
  refine pss_cons ?_ ?_
  · refine ps_st (i := 2) ?_
    refine pe_cal (CX := CX0) (k := 4) ?_ ?_ ?_ ?_
    · exact C__law_roads
    · exact hr.mono (by decide)
    · exact pass0
    refine pk ?_ ?_
    · exact pv 0
    refine pk ?_ ?_
    · exact pv 1
    exact pa_nil
  refine pss_cons ?_ ?_
  · refine ps_st (i := 3) ?_
    refine pe_op ?_ ?_ ?_
    · exact op_addA
    · refine pe_op ?_ ?_ ?_
      · exact op_mod
      · refine pe_op ?_ ?_ ?_
        · exact op_mulX
        · refine pe_cal (CX := CX0) (k := 1) ?_ ?_ ?_ ?_
          · exact C__law_cell
          · exact hr.mono (by decide)
          · exact pass0
          refine pk ?_ ?_
          · exact pv 0
          refine pk ?_ ?_
          · exact pe_int
          exact pa_nil
        exact pe_int
      exact pe_int
    refine pe_op ?_ ?_ ?_
    · exact op_mod
    · refine pe_op ?_ ?_ ?_
      · exact op_mulX
      · refine pe_op ?_ ?_ ?_
        · exact op_mulX
        · exact pe_int
        refine pe_cal (CX := CX0) (k := 1) ?_ ?_ ?_ ?_
        · exact C__law_cell
        · exact hr.mono (by decide)
        · exact pass0
        refine pk ?_ ?_
        · exact pv 0
        refine pk ?_ ?_
        · exact pe_int
        exact pa_nil
      exact pe_int
    exact pe_int
  refine pss_cons ?_ ?_
  · refine ps_st (i := 4) ?_
    refine pe_callTy (T := "list") ?_ ?_ ?_ ?_ ?_
    · exact call_list_of
    · rfl
    · exact T.n_list
    · exact bt_list
    refine pk ?_ ?_
    · exact pv 2
    exact pa_nil
  refine pss_cons ?_ ?_
  · refine ps_st (i := 5) ?_
    refine pe_cal (CX := CX0) (k := 5) ?_ ?_ ?_ ?_
    · exact C_made_net.calm
    · exact hr.mono (by decide)
    · exact pass0
    refine pk ?_ ?_
    · exact pv 1
    refine pk ?_ ?_
    · exact pv 4
    exact pa_nil
  refine pss_cons ?_ ?_
  · refine ps_if ?_ ?_ ?_
    · refine PW.pt ?_
      refine pw_or ?_ ?_
      · refine pt_not ?_
        refine pt_val ?_
        refine pe_cal (CX := CX0) (k := 2) ?_ ?_ ?_ ?_
        · exact C__law_good
        · exact hr.mono (by decide)
        · exact pass0
        refine pk ?_ ?_
        · exact pv 5
        refine pk ?_ ?_
        · exact pv 1
        refine pk ?_ ?_
        · exact pv 2
        exact pa_nil
      refine pw_or1 ?_
      refine pt_cmpR ?_ ?_ ?_ ?_
      · exact op_neA hr.units
      · exact pv 4
      · exact pv 2
      exact nomark _
    · refine pss_one ?_
      refine ps_ret ?_
      exact pe_bl
    exact pss_nil
  refine pss_cons ?_ ?_
  · refine ps_expr ?_
    refine pe_bm0 PySem.F.plainAttrs_list PySem.F.slot_list_clear PySem.F.type_list_clear mt_clear ?_
    exact pv 4
  refine pss_cons ?_ ?_
  · refine ps_st (i := 6) ?_
    refine pe_cal (CX := CX0) (k := 4) ?_ ?_ ?_ ?_
    · exact C__law_off
    · exact hr.mono (by decide)
    · exact pass0
    refine pk ?_ ?_
    · exact pv 1
    refine pk ?_ ?_
    · exact pv 2
    refine pk ?_ ?_
    · exact pv 3
    exact pa_nil
  refine pss_cons ?_ ?_
  · refine ps_st (i := 7) ?_
    refine pe_callTy (T := "list") ?_ ?_ ?_ ?_ ?_
    · exact call_list_of
    · rfl
    · exact T.n_list
    · exact bt_list
    refine pk ?_ ?_
    · refine pe_ix ?_ ?_ ?_ ?_
      · exact ix_seq
      · exact pv 6
      · exact pe_int
      exact fun _ _ => rfl
    exact pa_nil
  refine pss_cons ?_ ?_
  · refine ps_if ?_ ?_ ?_
    · refine PW.pt ?_
      refine pw_or ?_ ?_
      · refine pt_not ?_
        refine pt_val ?_
        refine pe_cal (CX := CX0) (k := 6) ?_ ?_ ?_ ?_
        · exact C__law_refused
        · exact hr.mono (by decide)
        · exact pass0
        refine pk ?_ ?_
        · refine pe_ix ?_ ?_ ?_ ?_
          · exact ix_seq
          · exact pv 6
          · exact pe_int
          exact fun _ _ => rfl
        refine pk ?_ ?_
        · refine pe_ix ?_ ?_ ?_ ?_
          · exact ix_seq
          · exact pv 6
          · exact pe_int
          exact fun _ _ => rfl
        exact pa_nil
      refine pw_or1 ?_
      refine pt_cmpR ?_ ?_ ?_ ?_
      · exact op_neA hr.units
      · refine pe_ix ?_ ?_ ?_ ?_
        · exact ix_seq
        · exact pv 6
        · exact pe_int
        exact fun _ _ => rfl
      · exact pv 7
      exact nomark _
    · refine pss_one ?_
      refine ps_ret ?_
      exact pe_bl
    exact pss_nil
  refine pss_cons ?_ ?_
  · refine ps_st (i := 8) ?_
    refine pe_cal (CX := CX0) (k := 5) ?_ ?_ ?_ ?_
    · exact C_made_net.calm
    · exact hr.mono (by decide)
    · exact pass0
    refine pk ?_ ?_
    · exact pv 1
    refine pk ?_ ?_
    · exact pv 2
    exact pa_nil
  refine pss_cons ?_ ?_
  · refine ps_expr ?_
    refine pe_bm PySem.F.plainAttrs_list PySem.F.slot_list_append PySem.F.type_list_append mt_append ?_ ?_
    · refine pe_ix ?_ ?_ ?_ ?_
      · exact ix_seq
      · exact pv 8
      · exact pe_int
      exact fun _ _ => rfl
    refine pk ?_ ?_
    · refine pe_tup ?_
      refine pk ?_ ?_
      · exact pe_int
      refine pk ?_ ?_
      · exact pe_int
      refine pk ?_ ?_
      · refine pe_tup ?_
        refine pk ?_ ?_
        · exact pe_int
        refine pk ?_ ?_
        · exact pe_int
        exact pa_nil
      refine pk ?_ ?_
      · refine pe_tup ?_
        refine pk ?_ ?_
        · exact pe_int
        refine pk ?_ ?_
        · exact pe_int
        exact pa_nil
      refine pk ?_ ?_
      · exact pe_bl
      exact pa_nil
    exact pa_nil
  refine pss_cons ?_ ?_
  · refine ps_if ?_ ?_ ?_
    · refine pt_not ?_
      refine pt_val ?_
      refine pe_cal (CX := CX0) (k := 2) ?_ ?_ ?_ ?_
      · exact C__law_good
      · exact hr.mono (by decide)
      · exact pass0
      refine pk ?_ ?_
      · refine pe_cal (CX := CX0) (k := 5) ?_ ?_ ?_ ?_
        · exact C_made_net.calm
        · exact hr.mono (by decide)
        · exact pass0
        refine pk ?_ ?_
        · exact pv 1
        refine pk ?_ ?_
        · exact pv 2
        exact pa_nil
      refine pk ?_ ?_
      · exact pv 1
      refine pk ?_ ?_
      · exact pv 2
      exact pa_nil
    · refine pss_one ?_
      refine ps_ret ?_
      exact pe_bl
    exact pss_nil
  refine pss_one ?_
  refine ps_ret ?_
  refine pe_and ?_ ?_
  · refine pe_cal (CX := CX0) (k := 2) ?_ ?_ ?_ ?_
    · exact C__law_good
    · exact hr.mono (by decide)
    · exact pass0
    refine pk ?_ ?_
    · exact pv 5
    refine pk ?_ ?_
    · exact pv 1
    refine pk ?_ ?_
    · exact pv 2
    exact pa_nil
  refine pe_and ?_ ?_
  · refine pe_cmpR ?_ ?_ ?_ ?_
    · exact op_eqA hr.units
    · refine pe_callB (id := "len") ?_ ?_ ?_ ?_ ?_
      · exact call_len
      · rfl
      · exact T.n_len
      · exact bt_len
      refine pk ?_ ?_
      · refine pe_ix ?_ ?_ ?_ ?_
        · exact ix_seq
        · exact pv 8
        · exact pe_int
        exact fun _ _ => rfl
      exact pa_nil
    · refine pe_op ?_ ?_ ?_
      · exact op_addA
      · refine pe_callB (id := "len") ?_ ?_ ?_ ?_ ?_
        · exact call_len
        · rfl
        · exact T.n_len
        · exact bt_len
        refine pk ?_ ?_
        · exact pv 2
        exact pa_nil
      exact pe_int
    exact nomark _
  refine pe_one ?_
  refine pe_cal (CX := CX0) (k := 6) ?_ ?_ ?_ ?_
  · exact C__law_refused
  · exact hr.mono (by decide)
  · exact pass0
  refine pk ?_ ?_
  · refine pe_ix ?_ ?_ ?_ ?_
    · exact ix_seq
    · exact pv 6
    · exact pe_int
    exact fun _ _ => rfl
  refine pk ?_ ?_
  · refine pe_ix ?_ ?_ ?_ ?_
    · exact ix_seq
    · exact pv 6
    · exact pe_int
    exact fun _ _ => rfl
  exact pa_nil
end K3

end

section
set_option maxHeartbeats 4000000
namespace K3
open PySem L2 Fr
theorem all_mk {l : PySem.W.OpenLaw} {w : World} {K : PySem.W.Frag} {h : Heap} {mg : Str → Option Value} {fa a_is_whole a_common_divisor a_is_fraction a_is_from_nought a_is_number_of a_are_unlike_places a_road_fault a_made_net a__law_cell a__law_whole a__law_divisor a__law_fraction a__law_road a__law_roads a__law_odd a__law_no_fraction a__law_road_off a__law_off a__law_refused a__law_good a_law c_RoadError c_NoNumber c_NoNet c_NoWish c_NoWay c_TooMany c_NoShare c_NoStep c_NoSuch c_NoText  : Addr} (X : K.In h) (G : h.Ns mainGlobals mg) (hfa : mg "law" = some (.ref fa))
    {od0 an0 : Option Addr} {sl0 : Array (Option Value)} {oc0 kV0 dc0 pm0 cd0 ct0 : Value}
    (a0 : PySem.W.nsIn K mainGlobals "is_whole" = some (some (.ref a_is_whole))) (l0 : K.lookup a_is_whole = some ⟨oc0, od0, .func (PySem.W.fnOf "is_whole" "is_whole" (defArgs s_is_whole) (defBody s_is_whole) (defScope s_is_whole) .none kV0 dc0 pm0 an0 cd0 ct0), sl0⟩) (c0 : PySem.W.codeIn K cd0 "is_whole" = true) (k0 : PySem.W.keepIn K (.ref a_is_whole) = true)
    {od1 an1 : Option Addr} {sl1 : Array (Option Value)} {oc1 kV1 dc1 pm1 cd1 ct1 : Value}
    (a1 : PySem.W.nsIn K mainGlobals "common_divisor" = some (some (.ref a_common_divisor))) (l1 : K.lookup a_common_divisor = some ⟨oc1, od1, .func (PySem.W.fnOf "common_divisor" "common_divisor" (defArgs s_common_divisor) (defBody s_common_divisor) (defScope s_common_divisor) .none kV1 dc1 pm1 an1 cd1 ct1), sl1⟩) (c1 : PySem.W.codeIn K cd1 "common_divisor" = true) (k1 : PySem.W.keepIn K (.ref a_common_divisor) = true)
    {od2 an2 : Option Addr} {sl2 : Array (Option Value)} {oc2 kV2 dc2 pm2 cd2 ct2 : Value}
    (a2 : PySem.W.nsIn K mainGlobals "is_fraction" = some (some (.ref a_is_fraction))) (l2 : K.lookup a_is_fraction = some ⟨oc2, od2, .func (PySem.W.fnOf "is_fraction" "is_fraction" (defArgs s_is_fraction) (defBody s_is_fraction) (defScope s_is_fraction) .none kV2 dc2 pm2 an2 cd2 ct2), sl2⟩) (c2 : PySem.W.codeIn K cd2 "is_fraction" = true) (k2 : PySem.W.keepIn K (.ref a_is_fraction) = true)
    {od3 an3 : Option Addr} {sl3 : Array (Option Value)} {oc3 kV3 dc3 pm3 cd3 ct3 : Value}
    (a3 : PySem.W.nsIn K mainGlobals "is_from_nought" = some (some (.ref a_is_from_nought))) (l3 : K.lookup a_is_from_nought = some ⟨oc3, od3, .func (PySem.W.fnOf "is_from_nought" "is_from_nought" (defArgs s_is_from_nought) (defBody s_is_from_nought) (defScope s_is_from_nought) .none kV3 dc3 pm3 an3 cd3 ct3), sl3⟩) (c3 : PySem.W.codeIn K cd3 "is_from_nought" = true) (k3 : PySem.W.keepIn K (.ref a_is_from_nought) = true)
    {od4 an4 : Option Addr} {sl4 : Array (Option Value)} {oc4 kV4 dc4 pm4 cd4 ct4 : Value}
    (a4 : PySem.W.nsIn K mainGlobals "is_number_of" = some (some (.ref a_is_number_of))) (l4 : K.lookup a_is_number_of = some ⟨oc4, od4, .func (PySem.W.fnOf "is_number_of" "is_number_of" (defArgs s_is_number_of) (defBody s_is_number_of) (defScope s_is_number_of) .none kV4 dc4 pm4 an4 cd4 ct4), sl4⟩) (c4 : PySem.W.codeIn K cd4 "is_number_of" = true) (k4 : PySem.W.keepIn K (.ref a_is_number_of) = true)
    {od5 an5 : Option Addr} {sl5 : Array (Option Value)} {oc5 kV5 dc5 pm5 cd5 ct5 : Value}
    (a5 : PySem.W.nsIn K mainGlobals "are_unlike_places" = some (some (.ref a_are_unlike_places))) (l5 : K.lookup a_are_unlike_places = some ⟨oc5, od5, .func (PySem.W.fnOf "are_unlike_places" "are_unlike_places" (defArgs s_are_unlike_places) (defBody s_are_unlike_places) (defScope s_are_unlike_places) .none kV5 dc5 pm5 an5 cd5 ct5), sl5⟩) (c5 : PySem.W.codeIn K cd5 "are_unlike_places" = true) (k5 : PySem.W.keepIn K (.ref a_are_unlike_places) = true)
    {od6 an6 : Option Addr} {sl6 : Array (Option Value)} {oc6 kV6 dc6 pm6 cd6 ct6 : Value}
    (a6 : PySem.W.nsIn K mainGlobals "road_fault" = some (some (.ref a_road_fault))) (l6 : K.lookup a_road_fault = some ⟨oc6, od6, .func (PySem.W.fnOf "road_fault" "road_fault" (defArgs s_road_fault) (defBody s_road_fault) (defScope s_road_fault) .none kV6 dc6 pm6 an6 cd6 ct6), sl6⟩) (c6 : PySem.W.codeIn K cd6 "road_fault" = true) (k6 : PySem.W.keepIn K (.ref a_road_fault) = true)
    {od7 an7 : Option Addr} {sl7 : Array (Option Value)} {oc7 kV7 dc7 pm7 cd7 ct7 : Value}
    (a7 : PySem.W.nsIn K mainGlobals "made_net" = some (some (.ref a_made_net))) (l7 : K.lookup a_made_net = some ⟨oc7, od7, .func (PySem.W.fnOf "made_net" "made_net" (defArgs s_made_net) (defBody s_made_net) (defScope s_made_net) .none kV7 dc7 pm7 an7 cd7 ct7), sl7⟩) (c7 : PySem.W.codeIn K cd7 "made_net" = true) (k7 : PySem.W.keepIn K (.ref a_made_net) = true)
    {od8 an8 : Option Addr} {sl8 : Array (Option Value)} {oc8 kV8 dc8 pm8 cd8 ct8 : Value}
    (a8 : PySem.W.nsIn K mainGlobals "_law_cell" = some (some (.ref a__law_cell))) (l8 : K.lookup a__law_cell = some ⟨oc8, od8, .func (PySem.W.fnOf "_law_cell" "_law_cell" (defArgs s__law_cell) (defBody s__law_cell) (defScope s__law_cell) .none kV8 dc8 pm8 an8 cd8 ct8), sl8⟩) (c8 : PySem.W.codeIn K cd8 "_law_cell" = true) (k8 : PySem.W.keepIn K (.ref a__law_cell) = true)
    {od9 an9 : Option Addr} {sl9 : Array (Option Value)} {oc9 kV9 dc9 pm9 cd9 ct9 : Value}
    (a9 : PySem.W.nsIn K mainGlobals "_law_whole" = some (some (.ref a__law_whole))) (l9 : K.lookup a__law_whole = some ⟨oc9, od9, .func (PySem.W.fnOf "_law_whole" "_law_whole" (defArgs s__law_whole) (defBody s__law_whole) (defScope s__law_whole) .none kV9 dc9 pm9 an9 cd9 ct9), sl9⟩) (c9 : PySem.W.codeIn K cd9 "_law_whole" = true) (k9 : PySem.W.keepIn K (.ref a__law_whole) = true)
    {od10 an10 : Option Addr} {sl10 : Array (Option Value)} {oc10 kV10 dc10 pm10 cd10 ct10 : Value}
    (a10 : PySem.W.nsIn K mainGlobals "_law_divisor" = some (some (.ref a__law_divisor))) (l10 : K.lookup a__law_divisor = some ⟨oc10, od10, .func (PySem.W.fnOf "_law_divisor" "_law_divisor" (defArgs s__law_divisor) (defBody s__law_divisor) (defScope s__law_divisor) .none kV10 dc10 pm10 an10 cd10 ct10), sl10⟩) (c10 : PySem.W.codeIn K cd10 "_law_divisor" = true) (k10 : PySem.W.keepIn K (.ref a__law_divisor) = true)
    {od11 an11 : Option Addr} {sl11 : Array (Option Value)} {oc11 kV11 dc11 pm11 cd11 ct11 : Value}
    (a11 : PySem.W.nsIn K mainGlobals "_law_fraction" = some (some (.ref a__law_fraction))) (l11 : K.lookup a__law_fraction = some ⟨oc11, od11, .func (PySem.W.fnOf "_law_fraction" "_law_fraction" (defArgs s__law_fraction) (defBody s__law_fraction) (defScope s__law_fraction) .none kV11 dc11 pm11 an11 cd11 ct11), sl11⟩) (c11 : PySem.W.codeIn K cd11 "_law_fraction" = true) (k11 : PySem.W.keepIn K (.ref a__law_fraction) = true)
    {od12 an12 : Option Addr} {sl12 : Array (Option Value)} {oc12 kV12 dc12 pm12 cd12 ct12 : Value}
    (a12 : PySem.W.nsIn K mainGlobals "_law_road" = some (some (.ref a__law_road))) (l12 : K.lookup a__law_road = some ⟨oc12, od12, .func (PySem.W.fnOf "_law_road" "_law_road" (defArgs s__law_road) (defBody s__law_road) (defScope s__law_road) .none kV12 dc12 pm12 an12 cd12 ct12), sl12⟩) (c12 : PySem.W.codeIn K cd12 "_law_road" = true) (k12 : PySem.W.keepIn K (.ref a__law_road) = true)
    {od13 an13 : Option Addr} {sl13 : Array (Option Value)} {oc13 kV13 dc13 pm13 cd13 ct13 : Value}
    (a13 : PySem.W.nsIn K mainGlobals "_law_roads" = some (some (.ref a__law_roads))) (l13 : K.lookup a__law_roads = some ⟨oc13, od13, .func (PySem.W.fnOf "_law_roads" "_law_roads" (defArgs s__law_roads) (defBody s__law_roads) (defScope s__law_roads) .none kV13 dc13 pm13 an13 cd13 ct13), sl13⟩) (c13 : PySem.W.codeIn K cd13 "_law_roads" = true) (k13 : PySem.W.keepIn K (.ref a__law_roads) = true)
    {od14 an14 : Option Addr} {sl14 : Array (Option Value)} {oc14 kV14 dc14 pm14 cd14 ct14 : Value}
    (a14 : PySem.W.nsIn K mainGlobals "_law_odd" = some (some (.ref a__law_odd))) (l14 : K.lookup a__law_odd = some ⟨oc14, od14, .func (PySem.W.fnOf "_law_odd" "_law_odd" (defArgs s__law_odd) (defBody s__law_odd) (defScope s__law_odd) .none kV14 dc14 pm14 an14 cd14 ct14), sl14⟩) (c14 : PySem.W.codeIn K cd14 "_law_odd" = true) (k14 : PySem.W.keepIn K (.ref a__law_odd) = true)
    {od15 an15 : Option Addr} {sl15 : Array (Option Value)} {oc15 kV15 dc15 pm15 cd15 ct15 : Value}
    (a15 : PySem.W.nsIn K mainGlobals "_law_no_fraction" = some (some (.ref a__law_no_fraction))) (l15 : K.lookup a__law_no_fraction = some ⟨oc15, od15, .func (PySem.W.fnOf "_law_no_fraction" "_law_no_fraction" (defArgs s__law_no_fraction) (defBody s__law_no_fraction) (defScope s__law_no_fraction) .none kV15 dc15 pm15 an15 cd15 ct15), sl15⟩) (c15 : PySem.W.codeIn K cd15 "_law_no_fraction" = true) (k15 : PySem.W.keepIn K (.ref a__law_no_fraction) = true)
    {od16 an16 : Option Addr} {sl16 : Array (Option Value)} {oc16 kV16 dc16 pm16 cd16 ct16 : Value}
    (a16 : PySem.W.nsIn K mainGlobals "_law_road_off" = some (some (.ref a__law_road_off))) (l16 : K.lookup a__law_road_off = some ⟨oc16, od16, .func (PySem.W.fnOf "_law_road_off" "_law_road_off" (defArgs s__law_road_off) (defBody s__law_road_off) (defScope s__law_road_off) .none kV16 dc16 pm16 an16 cd16 ct16), sl16⟩) (c16 : PySem.W.codeIn K cd16 "_law_road_off" = true) (k16 : PySem.W.keepIn K (.ref a__law_road_off) = true)
    {od17 an17 : Option Addr} {sl17 : Array (Option Value)} {oc17 kV17 dc17 pm17 cd17 ct17 : Value}
    (a17 : PySem.W.nsIn K mainGlobals "_law_off" = some (some (.ref a__law_off))) (l17 : K.lookup a__law_off = some ⟨oc17, od17, .func (PySem.W.fnOf "_law_off" "_law_off" (defArgs s__law_off) (defBody s__law_off) (defScope s__law_off) .none kV17 dc17 pm17 an17 cd17 ct17), sl17⟩) (c17 : PySem.W.codeIn K cd17 "_law_off" = true) (k17 : PySem.W.keepIn K (.ref a__law_off) = true)
    {od18 an18 : Option Addr} {sl18 : Array (Option Value)} {oc18 kV18 dc18 pm18 cd18 ct18 : Value}
    (a18 : PySem.W.nsIn K mainGlobals "_law_refused" = some (some (.ref a__law_refused))) (l18 : K.lookup a__law_refused = some ⟨oc18, od18, .func (PySem.W.fnOf "_law_refused" "_law_refused" (defArgs s__law_refused) (defBody s__law_refused) (defScope s__law_refused) .none kV18 dc18 pm18 an18 cd18 ct18), sl18⟩) (c18 : PySem.W.codeIn K cd18 "_law_refused" = true) (k18 : PySem.W.keepIn K (.ref a__law_refused) = true)
    {od19 an19 : Option Addr} {sl19 : Array (Option Value)} {oc19 kV19 dc19 pm19 cd19 ct19 : Value}
    (a19 : PySem.W.nsIn K mainGlobals "_law_good" = some (some (.ref a__law_good))) (l19 : K.lookup a__law_good = some ⟨oc19, od19, .func (PySem.W.fnOf "_law_good" "_law_good" (defArgs s__law_good) (defBody s__law_good) (defScope s__law_good) .none kV19 dc19 pm19 an19 cd19 ct19), sl19⟩) (c19 : PySem.W.codeIn K cd19 "_law_good" = true) (k19 : PySem.W.keepIn K (.ref a__law_good) = true)
    {od20 an20 : Option Addr} {sl20 : Array (Option Value)} {oc20 kV20 dc20 pm20 cd20 ct20 : Value}
    (a20 : PySem.W.nsIn K mainGlobals "law" = some (some (.ref a_law))) (l20 : K.lookup a_law = some ⟨oc20, od20, .func (PySem.W.fnOf "law" "law" (defArgs s_law) (defBody s_law) (defScope s_law) .none kV20 dc20 pm20 an20 cd20 ct20), sl20⟩) (c20 : PySem.W.codeIn K cd20 "law" = true) (k20 : PySem.W.keepIn K (.ref a_law) = true)
    (r0 : PySem.W.nsIn K mainGlobals "RoadError" = some (some (.ref c_RoadError))) {cx0 : ClassData} (u0 : PySem.W.clsIn K c_RoadError = some cx0) (v0 : PySem.W.typeIn K (.ref c_RoadError) = some (.type "type"))
    (r1 : PySem.W.nsIn K mainGlobals "NoNumber" = some (some (.ref c_NoNumber))) {cx1 : ClassData} (u1 : PySem.W.clsIn K c_NoNumber = some cx1) (v1 : PySem.W.typeIn K (.ref c_NoNumber) = some (.type "type"))
    (r2 : PySem.W.nsIn K mainGlobals "NoNet" = some (some (.ref c_NoNet))) {cx2 : ClassData} (u2 : PySem.W.clsIn K c_NoNet = some cx2) (v2 : PySem.W.typeIn K (.ref c_NoNet) = some (.type "type"))
    (r3 : PySem.W.nsIn K mainGlobals "NoWish" = some (some (.ref c_NoWish))) {cx3 : ClassData} (u3 : PySem.W.clsIn K c_NoWish = some cx3) (v3 : PySem.W.typeIn K (.ref c_NoWish) = some (.type "type"))
    (r4 : PySem.W.nsIn K mainGlobals "NoWay" = some (some (.ref c_NoWay))) {cx4 : ClassData} (u4 : PySem.W.clsIn K c_NoWay = some cx4) (v4 : PySem.W.typeIn K (.ref c_NoWay) = some (.type "type"))
    (r5 : PySem.W.nsIn K mainGlobals "TooMany" = some (some (.ref c_TooMany))) {cx5 : ClassData} (u5 : PySem.W.clsIn K c_TooMany = some cx5) (v5 : PySem.W.typeIn K (.ref c_TooMany) = some (.type "type"))
    (r6 : PySem.W.nsIn K mainGlobals "NoShare" = some (some (.ref c_NoShare))) {cx6 : ClassData} (u6 : PySem.W.clsIn K c_NoShare = some cx6) (v6 : PySem.W.typeIn K (.ref c_NoShare) = some (.type "type"))
    (r7 : PySem.W.nsIn K mainGlobals "NoStep" = some (some (.ref c_NoStep))) {cx7 : ClassData} (u7 : PySem.W.clsIn K c_NoStep = some cx7) (v7 : PySem.W.typeIn K (.ref c_NoStep) = some (.type "type"))
    (r8 : PySem.W.nsIn K mainGlobals "NoSuch" = some (some (.ref c_NoSuch))) {cx8 : ClassData} (u8 : PySem.W.clsIn K c_NoSuch = some cx8) (v8 : PySem.W.typeIn K (.ref c_NoSuch) = some (.type "type"))
    (r9 : PySem.W.nsIn K mainGlobals "NoText" = some (some (.ref c_NoText))) {cx9 : ClassData} (u9 : PySem.W.clsIn K c_NoText = some cx9) (v9 : PySem.W.typeIn K (.ref c_NoText) = some (.type "type"))
    (hR3 : PySem.W.mroIn K c_RoadError (.type "BaseException") = some true) (e5 : PySem.W.specialIn K (.builtin "object.__class__") "__get__" = some (some (.builtin "getset_descriptor.__get__"))) (e6 : PySem.W.takesIn K (.builtin "object.__class__") = some true)
    (ex0 : PySem.W.excIn K c_NoNet [.type "ValueError", .type "Exception", .type "BaseException", .type "object"] "ValueError.__new__" = true)
    (f0_1 : PySem.W.findIn K (.ref c_NoNet) "__getattribute__" = some (some (.builtin "BaseException.__getattribute__"))) (f0_2 : PySem.W.findIn K (.ref c_NoNet) "__getattr__" = some none) (f0_3 : PySem.W.findIn K (.ref c_NoNet) "__class__" = some (some (.builtin "object.__class__")))
    (f0_4 : PySem.W.mroIn K c_NoNet (.type "object") = some true) (f0_5 : PySem.W.mroIn K c_NoNet (.type "BaseException") = some true) (f0_6 : PySem.W.mroIn K c_NoNet (.type "ValueError") = some true) (f0_7 : PySem.W.mroIn K c_NoNet (.ref c_RoadError) = some true)
    (g0_0 : PySem.W.mroIn K c_NoNet (.ref c_NoNumber) = some false) (x0_0 : (c_NoNet == c_NoNumber) = false)
    (g0_1 : PySem.W.mroIn K c_NoNet (.ref c_NoShare) = some false) (x0_1 : (c_NoNet == c_NoShare) = false)
    (g0_2 : PySem.W.mroIn K c_NoNet (.ref c_NoStep) = some false) (x0_2 : (c_NoNet == c_NoStep) = false)
    (g0_3 : PySem.W.mroIn K c_NoNet (.ref c_NoSuch) = some false) (x0_3 : (c_NoNet == c_NoSuch) = false)
    (g0_4 : PySem.W.mroIn K c_NoNet (.ref c_NoText) = some false) (x0_4 : (c_NoNet == c_NoText) = false)
    (g0_5 : PySem.W.mroIn K c_NoNet (.ref c_NoWay) = some false) (x0_5 : (c_NoNet == c_NoWay) = false)
    (g0_6 : PySem.W.mroIn K c_NoNet (.ref c_NoWish) = some false) (x0_6 : (c_NoNet == c_NoWish) = false)
    (g0_7 : PySem.W.mroIn K c_NoNet (.ref c_TooMany) = some false) (x0_7 : (c_NoNet == c_TooMany) = false)
    (z_isinstance : PySem.W.nsIn K mainGlobals "isinstance" = some none)
    (z_int : PySem.W.nsIn K mainGlobals "int" = some none)
    (z_bool : PySem.W.nsIn K mainGlobals "bool" = some none)
    (z_tuple : PySem.W.nsIn K mainGlobals "tuple" = some none)
    (z_list : PySem.W.nsIn K mainGlobals "list" = some none)
    (z_len : PySem.W.nsIn K mainGlobals "len" = some none)
    (z_abs : PySem.W.nsIn K mainGlobals "abs" = some none)
    (z_range : PySem.W.nsIn K mainGlobals "range" = some none)
    (z_min : PySem.W.nsIn K mainGlobals "min" = some none)
    (z_enumerate : PySem.W.nsIn K mainGlobals "enumerate" = some none)
    (z_zip : PySem.W.nsIn K mainGlobals "zip" = some none)
    (z_ValueError : PySem.W.nsIn K mainGlobals "ValueError" = some none)
    {tk_FEWEST_PLACES : Tok} (q_FEWEST_PLACES : PySem.W.nsIn K mainGlobals "FEWEST_PLACES" = some (some (.int 2 tk_FEWEST_PLACES)))
    {tk_MOST_PLACES : Tok} (q_MOST_PLACES : PySem.W.nsIn K mainGlobals "MOST_PLACES" = some (some (.int 6 tk_MOST_PLACES)))
    {tk_MOST_ROADS : Tok} (q_MOST_ROADS : PySem.W.nsIn K mainGlobals "MOST_ROADS" = some (some (.int 12 tk_MOST_ROADS)))
    {tk_THINGS_OF_ROAD : Tok} (q_THINGS_OF_ROAD : PySem.W.nsIn K mainGlobals "THINGS_OF_ROAD" = some (some (.int 5 tk_THINGS_OF_ROAD))) :
    ∃ fd : FuncData, (∀ (s : Shared) (v : Value), BindsTo s fd ⟨[v], []⟩ [("_law_script", v)]) ∧ ∀ base : Heap, K.In base → base.Ns mainGlobals mg → FnOk l.prog w K mg base CX0 7 fa fd ["_law_script"] (spLaw K) := by
  have e := hfa.symm.trans (PySem.W.mg_of X G a20)
  cases e
  let c : Cs := ⟨c_RoadError, c_NoNumber, c_NoNet, c_NoWish, c_NoWay, c_TooMany, c_NoShare, c_NoStep, c_NoSuch, c_NoText⟩
  have T : Txt K mg c :=
    ⟨PySem.W.mg_none_of X G z_isinstance, PySem.W.mg_none_of X G z_int, PySem.W.mg_none_of X G z_bool, PySem.W.mg_none_of X G z_tuple, PySem.W.mg_none_of X G z_list, PySem.W.mg_none_of X G z_len, PySem.W.mg_none_of X G z_abs, PySem.W.mg_none_of X G z_range, PySem.W.mg_none_of X G z_min, PySem.W.mg_none_of X G z_enumerate, PySem.W.mg_none_of X G z_zip, PySem.W.mg_none_of X G z_ValueError, PySem.W.mg_of X G r0, PySem.W.mg_of X G r1, PySem.W.mg_of X G r2, PySem.W.mg_of X G r3, PySem.W.mg_of X G r4, PySem.W.mg_of X G r5, PySem.W.mg_of X G r6, PySem.W.mg_of X G r7, PySem.W.mg_of X G r8, PySem.W.mg_of X G r9, ⟨_, PySem.W.mg_of X G q_FEWEST_PLACES⟩, ⟨_, PySem.W.mg_of X G q_MOST_PLACES⟩, ⟨_, PySem.W.mg_of X G q_MOST_ROADS⟩, ⟨_, PySem.W.mg_of X G q_THINGS_OF_ROAD⟩, ⟨ex0⟩, ⟨⟨by rw [u2]; rfl, f0_1, f0_2, f0_3, e5, e6, f0_4, f0_5⟩, exm_ref u0 v0 hR3 f0_7, kit_self, kit_type (by decide +kernel) f0_6, kit_any (by
      intro z hz
      simp only [List.map_cons, List.map_nil, List.mem_cons, List.not_mem_nil, or_false] at hz
      rcases hz with rfl | rfl | rfl | rfl | rfl | rfl | rfl | rfl
      · exact kit_refN u1 v1 g0_0 x0_0
      · exact kit_refN u6 v6 g0_1 x0_1
      · exact kit_refN u7 v7 g0_2 x0_2
      · exact kit_refN u8 v8 g0_3 x0_3
      · exact kit_refN u9 v9 g0_4 x0_4
      · exact kit_refN u4 v4 g0_5 x0_5
      · exact kit_refN u3 v3 g0_6 x0_6
      · exact kit_refN u5 v5 g0_7 x0_7)⟩⟩
  have F0 := fun_mk (st := s_is_whole) l0 c0 k0
  have b0 := F0.binds (ps := ["thing"]) fun _ _ _ _ _ _ us hl => match us, hl with | [_], _ => rfl
  have F1 := fun_mk (st := s_common_divisor) l1 c1 k1
  have b1 := F1.binds (ps := ["one", "other"]) fun _ _ _ _ _ _ us hl => match us, hl with | [_, _], _ => rfl
  have F2 := fun_mk (st := s_is_fraction) l2 c2 k2
  have b2 := F2.binds (ps := ["thing"]) fun _ _ _ _ _ _ us hl => match us, hl with | [_], _ => rfl
  have F3 := fun_mk (st := s_is_from_nought) l3 c3 k3
  have b3 := F3.binds (ps := ["thing"]) fun _ _ _ _ _ _ us hl => match us, hl with | [_], _ => rfl
  have F4 := fun_mk (st := s_is_number_of) l4 c4 k4
  have b4 := F4.binds (ps := ["many", "thing"]) fun _ _ _ _ _ _ us hl => match us, hl with | [_, _], _ => rfl
  have F5 := fun_mk (st := s_are_unlike_places) l5 c5 k5
  have b5 := F5.binds (ps := ["many", "start", "end"]) fun _ _ _ _ _ _ us hl => match us, hl with | [_, _, _], _ => rfl
  have F6 := fun_mk (st := s_road_fault) l6 c6 k6
  have b6 := F6.binds (ps := ["many", "road"]) fun _ _ _ _ _ _ us hl => match us, hl with | [_, _], _ => rfl
  have F7 := fun_mk (st := s_made_net) l7 c7 k7
  have b7 := F7.binds (ps := ["many", "roads"]) fun _ _ _ _ _ _ us hl => match us, hl with | [_, _], _ => rfl
  have F8 := fun_mk (st := s__law_cell) l8 c8 k8
  have b8 := F8.binds (ps := ["_law_script", "_law_k"]) fun _ _ _ _ _ _ us hl => match us, hl with | [_, _], _ => rfl
  have F9 := fun_mk (st := s__law_whole) l9 c9 k9
  have b9 := F9.binds (ps := ["_law_found"]) fun _ _ _ _ _ _ us hl => match us, hl with | [_], _ => rfl
  have F10 := fun_mk (st := s__law_divisor) l10 c10 k10
  have b10 := F10.binds (ps := ["_law_one", "_law_other"]) fun _ _ _ _ _ _ us hl => match us, hl with | [_, _], _ => rfl
  have F11 := fun_mk (st := s__law_fraction) l11 c11 k11
  have b11 := F11.binds (ps := ["_law_number"]) fun _ _ _ _ _ _ us hl => match us, hl with | [_], _ => rfl
  have F12 := fun_mk (st := s__law_road) l12 c12 k12
  have b12 := F12.binds (ps := ["_law_cell_here", "_law_many"]) fun _ _ _ _ _ _ us hl => match us, hl with | [_, _], _ => rfl
  have F13 := fun_mk (st := s__law_roads) l13 c13 k13
  have b13 := F13.binds (ps := ["_law_script", "_law_many"]) fun _ _ _ _ _ _ us hl => match us, hl with | [_, _], _ => rfl
  have F14 := fun_mk (st := s__law_odd) l14 c14 k14
  have b14 := F14.binds (ps := ["_law_number"]) fun _ _ _ _ _ _ us hl => match us, hl with | [_], _ => rfl
  have F15 := fun_mk (st := s__law_no_fraction) l15 c15 k15
  have b15 := F15.binds (ps := ["_law_number"]) fun _ _ _ _ _ _ us hl => match us, hl with | [_], _ => rfl
  have F16 := fun_mk (st := s__law_road_off) l16 c16 k16
  have b16 := F16.binds (ps := ["_law_road_here", "_law_many", "_law_number"]) fun _ _ _ _ _ _ us hl => match us, hl with | [_, _, _], _ => rfl
  have F17 := fun_mk (st := s__law_off) l17 c17 k17
  have b17 := F17.binds (ps := ["_law_many", "_law_roads_here", "_law_number"]) fun _ _ _ _ _ _ us hl => match us, hl with | [_, _, _], _ => rfl
  have F18 := fun_mk (st := s__law_refused) l18 c18 k18
  have b18 := F18.binds (ps := ["_law_many", "_law_roads_here"]) fun _ _ _ _ _ _ us hl => match us, hl with | [_, _], _ => rfl
  have F19 := fun_mk (st := s__law_good) l19 c19 k19
  have b19 := F19.binds (ps := ["_law_found", "_law_many", "_law_roads_here"]) fun _ _ _ _ _ _ us hl => match us, hl with | [_, _, _], _ => rfl
  have F20 := fun_mk (st := s_law) l20 c20 k20
  refine ⟨PySem.W.fnOf "law" "law" (defArgs s_law) (defBody s_law) (defScope s_law) .none kV20 dc20 pm20 an20 cd20 ct20, fun s v => .of_eq rfl, fun base _ _ => ?_⟩
  have C_is_whole : Cal l.prog w K mg base CX0 1 "is_whole" (spWhole K) := ⟨_, _, _, ok_is_whole T  F0, PySem.W.mg_of X G a0, k0, b0⟩
  have C_common_divisor : Cal l.prog w K mg base CX0 1 "common_divisor" spGcd := ⟨_, _, _, ok_common_divisor T  F1, PySem.W.mg_of X G a1, k1, b1⟩
  have C_is_fraction : Cal l.prog w K mg base CX0 2 "is_fraction" (spIsF K) := ⟨_, _, _, ok_is_fraction T C_is_whole C_common_divisor F2, PySem.W.mg_of X G a2, k2, b2⟩
  have C_is_from_nought : Cal l.prog w K mg base CX0 3 "is_from_nought" (spFN K) := ⟨_, _, _, ok_is_from_nought T C_is_fraction F3, PySem.W.mg_of X G a3, k3, b3⟩
  have C_is_number_of : Cal l.prog w K mg base CX0 2 "is_number_of" (spPlace K) := ⟨_, _, _, ok_is_number_of T C_is_whole F4, PySem.W.mg_of X G a4, k4, b4⟩
  have C_are_unlike_places : Cal l.prog w K mg base CX0 3 "are_unlike_places" (spUnlike K) := ⟨_, _, _, ok_are_unlike_places T C_is_number_of F5, PySem.W.mg_of X G a5, k5, b5⟩
  have C_road_fault : Cal l.prog w K mg base CX0 4 "road_fault" (spFault K) := ⟨_, _, _, ok_road_fault T C_are_unlike_places C_is_from_nought F6, PySem.W.mg_of X G a6, k6, b6⟩
  have C_made_net : Cal l.prog w K mg base (CX1 l.prog w) 5 "made_net" (spMade K c) := ⟨_, _, _, ok_made_net T C_road_fault C_is_whole F7, PySem.W.mg_of X G a7, k7, b7⟩
  have C__law_cell : Cal l.prog w K mg base CX0 1 "_law_cell" (spCell K) := ⟨_, _, _, ok__law_cell T  F8, PySem.W.mg_of X G a8, k8, b8⟩
  have C__law_whole : Cal l.prog w K mg base CX0 1 "_law_whole" (spWhole K) := ⟨_, _, _, ok__law_whole T  F9, PySem.W.mg_of X G a9, k9, b9⟩
  have C__law_divisor : Cal l.prog w K mg base CX0 1 "_law_divisor" spGcd := ⟨_, _, _, ok__law_divisor T  F10, PySem.W.mg_of X G a10, k10, b10⟩
  have C__law_fraction : Cal l.prog w K mg base CX0 2 "_law_fraction" (spLFrac K) := ⟨_, _, _, ok__law_fraction T C__law_divisor F11, PySem.W.mg_of X G a11, k11, b11⟩
  have C__law_road : Cal l.prog w K mg base CX0 3 "_law_road" (spLRoad K) := ⟨_, _, _, ok__law_road T C__law_fraction F12, PySem.W.mg_of X G a12, k12, b12⟩
  have C__law_roads : Cal l.prog w K mg base CX0 4 "_law_roads" (spLRoads K) := ⟨_, _, _, ok__law_roads T C__law_road C__law_cell F13, PySem.W.mg_of X G a13, k13, b13⟩
  have C__law_odd : Cal l.prog w K mg base CX0 1 "_law_odd" (spOdd K) := ⟨_, _, _, ok__law_odd T  F14, PySem.W.mg_of X G a14, k14, b14⟩
  have C__law_no_fraction : Cal l.prog w K mg base CX0 1 "_law_no_fraction" (spNoFr K) := ⟨_, _, _, ok__law_no_fraction T  F15, PySem.W.mg_of X G a15, k15, b15⟩
  have C__law_road_off : Cal l.prog w K mg base CX0 2 "_law_road_off" (spRoadOff K) := ⟨_, _, _, ok__law_road_off T C__law_odd C__law_no_fraction F16, PySem.W.mg_of X G a16, k16, b16⟩
  have C__law_off : Cal l.prog w K mg base CX0 4 "_law_off" (spOff K) := ⟨_, _, _, ok__law_off T C__law_road C__law_odd C__law_road_off F17, PySem.W.mg_of X G a17, k17, b17⟩
  have C__law_refused : Cal l.prog w K mg base CX0 6 "_law_refused" (spRefused K) := ⟨_, _, _, ok__law_refused T C_made_net F18, PySem.W.mg_of X G a18, k18, b18⟩
  have C__law_good : Cal l.prog w K mg base CX0 2 "_law_good" (spGood K) := ⟨_, _, _, ok__law_good T C__law_whole F19, PySem.W.mg_of X G a19, k19, b19⟩
  exact ok_law T C__law_roads C_made_net C__law_off C__law_good C__law_refused C__law_cell F20
theorem walk {l : PySem.W.OpenLaw} {q : Program} {loose : List Str} {XP : (Str → Option Value) → Heap → Prop} {YP : World → Heap → Prop} {d : DefRec} {K : Params → PySem.W.Frag} (hn : l.most = some 63) (hdf : d.params.defaults = [])
    (hY : ∀ (w : World) (h : Heap), YP w h → (K w.params).In h)
    (F : ∀ (w : World) (mg : Str → Option Value) (fa : Addr) (h : Heap), (K w.params).In h → h.Ns mainGlobals mg → mg d.name = some (.ref fa) →
      ∃ fd : FuncData, (∀ (s : Shared) (u : Value), BindsTo s fd ⟨[u], []⟩ [("_law_script", u)]) ∧ ∀ base : Heap, (K w.params).In base → base.Ns mainGlobals mg → FnOk l.prog w (K w.params) mg base CX0 7 fa fd ["_law_script"] (spLaw (K w.params))) :
    PySem.W.WalkO q loose XP YP l.row.toRowW d [] (fun f vs => PySem.call f vs) :=
  L2.walk_of (n := 63) (k := 7) (x := "_law_script") (CX := fun _ => CX0) (sp := fun w => spLaw (K w.params)) hn (by decide) hdf ⟨rfl, by decide, by decide⟩ hY F (fun _ _ a ns hl _ hS => ⟨a, ns, rfl, hS, hl, fun _ => rfl⟩) fun _ _ _ _ _ z => z
end K3
open PySem PySem.W PyProof.Rows
set_option maxRecDepth 100000 in
set_option maxHeartbeats 0 in
theorem PySem.Challenge.cw_crowdroads_k03_a_net_made_holds : PySem.Challenge.rw_crowdroads_k03_a_net_made.Holds := by
  w_on; o_law; k_head; (case hw => w_witness2)
  k_fill
  refine K3.walk (l := PySem.Challenge.rw_crowdroads_k03_a_net_made) rfl rfl (fun w h Y => PySem.W.kIn_of Y) ?F
  case F =>
    intro w mg fa h KX G hmg
    refine' K3.all_mk KX G hmg ?a0 ?l0 ?c0 ?k0 ?a1 ?l1 ?c1 ?k1 ?a2 ?l2 ?c2 ?k2 ?a3 ?l3 ?c3 ?k3 ?a4 ?l4 ?c4 ?k4 ?a5 ?l5 ?c5 ?k5 ?a6 ?l6 ?c6 ?k6 ?a7 ?l7 ?c7 ?k7 ?a8 ?l8 ?c8 ?k8 ?a9 ?l9 ?c9 ?k9 ?a10 ?l10 ?c10 ?k10 ?a11 ?l11 ?c11 ?k11 ?a12 ?l12 ?c12 ?k12 ?a13 ?l13 ?c13 ?k13 ?a14 ?l14 ?c14 ?k14 ?a15 ?l15 ?c15 ?k15 ?a16 ?l16 ?c16 ?k16 ?a17 ?l17 ?c17 ?k17 ?a18 ?l18 ?c18 ?k18 ?a19 ?l19 ?c19 ?k19 ?a20 ?l20 ?c20 ?k20 ?r0 ?u0 ?v0 ?r1 ?u1 ?v1 ?r2 ?u2 ?v2 ?r3 ?u3 ?v3 ?r4 ?u4 ?v4 ?r5 ?u5 ?v5 ?r6 ?u6 ?v6 ?r7 ?u7 ?v7 ?r8 ?u8 ?v8 ?r9 ?u9 ?v9 ?hR3 ?e5 ?e6 ?ex0 ?f0_1 ?f0_2 ?f0_3 ?f0_4 ?f0_5 ?f0_6 ?f0_7 ?g0_0 ?x0_0 ?g0_1 ?x0_1 ?g0_2 ?x0_2 ?g0_3 ?x0_3 ?g0_4 ?x0_4 ?g0_5 ?x0_5 ?g0_6 ?x0_6 ?g0_7 ?x0_7 ?z_isinstance ?z_int ?z_bool ?z_tuple ?z_list ?z_len ?z_abs ?z_range ?z_min ?z_enumerate ?z_zip ?z_ValueError ?q_FEWEST_PLACES ?q_MOST_PLACES ?q_MOST_ROADS ?q_THINGS_OF_ROAD
    (case a0 => k_is)
    (case l0 => k_is)
    (case c0 => k_is)
    (case k0 => k_is)
    (case a1 => k_is)
    (case l1 => k_is)
    (case c1 => k_is)
    (case k1 => k_is)
    (case a2 => k_is)
    (case l2 => k_is)
    (case c2 => k_is)
    (case k2 => k_is)
    (case a3 => k_is)
    (case l3 => k_is)
    (case c3 => k_is)
    (case k3 => k_is)
    (case a4 => k_is)
    (case l4 => k_is)
    (case c4 => k_is)
    (case k4 => k_is)
    (case a5 => k_is)
    (case l5 => k_is)
    (case c5 => k_is)
    (case k5 => k_is)
    (case a6 => k_is)
    (case l6 => k_is)
    (case c6 => k_is)
    (case k6 => k_is)
    (case a7 => k_is)
    (case l7 => k_is)
    (case c7 => k_is)
    (case k7 => k_is)
    (case a8 => k_is)
    (case l8 => k_is)
    (case c8 => k_is)
    (case k8 => k_is)
    (case a9 => k_is)
    (case l9 => k_is)
    (case c9 => k_is)
    (case k9 => k_is)
    (case a10 => k_is)
    (case l10 => k_is)
    (case c10 => k_is)
    (case k10 => k_is)
    (case a11 => k_is)
    (case l11 => k_is)
    (case c11 => k_is)
    (case k11 => k_is)
    (case a12 => k_is)
    (case l12 => k_is)
    (case c12 => k_is)
    (case k12 => k_is)
    (case a13 => k_is)
    (case l13 => k_is)
    (case c13 => k_is)
    (case k13 => k_is)
    (case a14 => k_is)
    (case l14 => k_is)
    (case c14 => k_is)
    (case k14 => k_is)
    (case a15 => k_is)
    (case l15 => k_is)
    (case c15 => k_is)
    (case k15 => k_is)
    (case a16 => k_is)
    (case l16 => k_is)
    (case c16 => k_is)
    (case k16 => k_is)
    (case a17 => k_is)
    (case l17 => k_is)
    (case c17 => k_is)
    (case k17 => k_is)
    (case a18 => k_is)
    (case l18 => k_is)
    (case c18 => k_is)
    (case k18 => k_is)
    (case a19 => k_is)
    (case l19 => k_is)
    (case c19 => k_is)
    (case k19 => k_is)
    (case a20 => k_is)
    (case l20 => k_is)
    (case c20 => k_is)
    (case k20 => k_is)
    (case r0 => k_is)
    (case u0 => k_is)
    (case v0 => k_is)
    (case r1 => k_is)
    (case u1 => k_is)
    (case v1 => k_is)
    (case r2 => k_is)
    (case u2 => k_is)
    (case v2 => k_is)
    (case r3 => k_is)
    (case u3 => k_is)
    (case v3 => k_is)
    (case r4 => k_is)
    (case u4 => k_is)
    (case v4 => k_is)
    (case r5 => k_is)
    (case u5 => k_is)
    (case v5 => k_is)
    (case r6 => k_is)
    (case u6 => k_is)
    (case v6 => k_is)
    (case r7 => k_is)
    (case u7 => k_is)
    (case v7 => k_is)
    (case r8 => k_is)
    (case u8 => k_is)
    (case v8 => k_is)
    (case r9 => k_is)
    (case u9 => k_is)
    (case v9 => k_is)
    (case hR3 => k_is)
    (case e5 => k_is)
    (case e6 => k_is)
    (case ex0 => k_exc)
    (case f0_1 => k_is)
    (case f0_2 => k_is)
    (case f0_3 => k_is)
    (case f0_4 => k_is)
    (case f0_5 => k_is)
    (case f0_6 => k_is)
    (case f0_7 => k_is)
    (case g0_0 => k_is)
    (case x0_0 => decide)
    (case g0_1 => k_is)
    (case x0_1 => decide)
    (case g0_2 => k_is)
    (case x0_2 => decide)
    (case g0_3 => k_is)
    (case x0_3 => decide)
    (case g0_4 => k_is)
    (case x0_4 => decide)
    (case g0_5 => k_is)
    (case x0_5 => decide)
    (case g0_6 => k_is)
    (case x0_6 => decide)
    (case g0_7 => k_is)
    (case x0_7 => decide)
    (case z_isinstance => k_is)
    (case z_int => k_is)
    (case z_bool => k_is)
    (case z_tuple => k_is)
    (case z_list => k_is)
    (case z_len => k_is)
    (case z_abs => k_is)
    (case z_range => k_is)
    (case z_min => k_is)
    (case z_enumerate => k_is)
    (case z_zip => k_is)
    (case z_ValueError => k_is)
    (case q_FEWEST_PLACES => k_is)
    (case q_MOST_PLACES => k_is)
    (case q_MOST_ROADS => k_is)
    (case q_THINGS_OF_ROAD => k_is)

end

