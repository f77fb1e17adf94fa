import PyProof.Rows.All
import Wide.All
import OpenK.AllK
import Wide.FinOn
import Lean
import PyProof.EqAt
import PyProof.EqKinds
import PyProof.TupleCall
import PySem.Challenge.RW_inkmap_k06_whole_sides
set_option Elab.async false
set_option linter.all false
set_option maxRecDepth 100000
/-! THE HAND LAYER, for ints, bools, texts, own classes, LISTS and tuples (index, slices, in, append, pop ..), calls, loops. Paste it whole ahead of your own text; what your proof does not reach may be deleted. -/
namespace L2
open PySem PySem.Spec PyProof.Rows

/-- a key: an int or a str -/
abbrev Key := Sum Int Str
def keyIs : Key → Value → Bool
  | .inl k, v => Value.isInt k v
  | .inr x, v => Value.isStrOf x v
def keyH (w : World) : Key → Int
  | .inl k => hashInt k
  | .inr x => hashStr w x
theorem keyIs_shape : ∀ {k : Key} {v : Value}, keyIs k v = true → (∃ i t, k = Sum.inl i ∧ v = Value.int i t) ∨ (∃ x t, k = Sum.inr x ∧ v = Value.str x t)
  | .inl i, v, h => by
    obtain ⟨t, e⟩ := Value.isInt_shape (k := i) (v := v) h
    exact .inl ⟨i, t, rfl, e⟩
  | .inr x, v, h => by
    obtain ⟨t, e⟩ := Value.isStrOf_shape (x := x) (v := v) h
    exact .inr ⟨x, t, rfl, e⟩
theorem keyIs_int (i : Int) (t : Tok) : keyIs (.inl i) (.int i t) = true := by simp [keyIs, Value.isInt]
theorem keyIs_str (x : Str) (t : Tok) : keyIs (.inr x) (.str x t) = true := by simp [keyIs, Value.isStrOf]
theorem key_ll (a b : Int) : decide ((Sum.inl a : Key) = Sum.inl b) = (a == b) := by
  by_cases e : a = b
  · subst e; simp
  · have h : ¬ (Sum.inl a : Key) = Sum.inl b := fun q => e (Sum.inl.inj q)
    rw [decide_eq_false h]
    exact (beq_eq_false_iff_ne.mpr e).symm
theorem key_rr (a b : Str) : decide ((Sum.inr a : Key) = Sum.inr b) = decide (a = b) := by
  by_cases e : a = b
  · subst e; simp
  · have h : ¬ (Sum.inr a : Key) = Sum.inr b := fun q => e (Sum.inr.inj q)
    rw [decide_eq_false h, decide_eq_false e]
theorem key_lr (a : Int) (b : Str) : decide ((Sum.inl a : Key) = Sum.inr b) = false := decide_eq_false (fun q => nomatch q)
theorem key_rl (a : Str) (b : Int) : decide ((Sum.inr a : Key) = Sum.inl b) = false := decide_eq_false (fun q => nomatch q)

def mixKind (prog : Program) (w : World) : PySem.KeyKind prog w Key where
  is := keyIs
  hash := keyH w
  inj := fun v a b ha hb => by
    rcases keyIs_shape ha with ⟨i, t, rfl, rfl⟩ | ⟨x, t, rfl, rfl⟩
    · rcases keyIs_shape hb with ⟨j, u, rfl, e⟩ | ⟨y, u, rfl, e⟩
      · injection e with e1 _; rw [e1]
      · exact nomatch e
    · rcases keyIs_shape hb with ⟨j, u, rfl, e⟩ | ⟨y, u, rfl, e⟩
      · exact nomatch e
      · injection e with e1 _; rw [e1]
  byValue := fun k v h => by
    rcases keyIs_shape h with ⟨i, t, rfl, rfl⟩ | ⟨x, t, rfl, rfl⟩ <;> rfl
  pyHash := fun hv h => by
    rcases keyIs_shape hv with ⟨i, t, rfl, rfl⟩ | ⟨x, t, rfl, rfl⟩
    · exact wpAny_pyHash_int h
    · exact wpAny_pyHash_str h
  eqBool := fun hu hv h => by
    rcases keyIs_shape hu with ⟨i, t, rfl, rfl⟩ | ⟨x, t, rfl, rfl⟩
    · rcases keyIs_shape hv with ⟨j, u, rfl, rfl⟩ | ⟨y, u, rfl, rfl⟩
      · rw [key_ll] at h; exact wpAny_eqBool_int h
      · rw [key_lr] at h; exact SeqAt.EqAt.int_str i t y u _ _ _ _ h
    · rcases keyIs_shape hv with ⟨j, u, rfl, rfl⟩ | ⟨y, u, rfl, rfl⟩
      · rw [key_rl] at h; exact SeqAt.EqAt.str_int x t j u _ _ _ _ h
      · rw [key_rr] at h; exact wpAny_eqBool_str h
  «strs» := fun k x t v h => by
    rcases keyIs_shape h with ⟨i, u, rfl, e⟩ | ⟨y, u, rfl, e⟩
    · exact nomatch e
    · injection e with e1 _
      subst e1
      cases v <;> rfl

theorem mixKind_int (prog : Program) (w : World) (i : Int) (t : Tok) : (mixKind prog w).is (.inl i) (.int i t) = true := keyIs_int i t
theorem mixKind_str (prog : Program) (w : World) (x : Str) (t : Tok) : (mixKind prog w).is (.inr x) (.str x t) = true := keyIs_str x t
end L2

namespace L2
open PySem PySem.Spec PyProof.Rows

/-- a value, without the heap -/
inductive V where
  | non | bl (b : Bool) | int (i : Int) | str (x : Str) | byt (b : Array UInt8) | flt (b : UInt64) | ref (a : Addr) | ty (n : String)
  deriving DecidableEq

def RelV : V → Value → Prop
  | .non, u => u = Value.none
  | .bl b, u => u = Value.bool b
  | .int i, u => ∃ t, u = Value.int i t
  | .str x, u => ∃ t, u = Value.str x t
  | .byt b, u => ∃ t, u = Value.bytes b t
  | .flt b, u => ∃ t, u = Value.float b t
  | .ref a, u => u = Value.ref a
  | .ty n, u => u = Value.type n

abbrev Vals : List V → List Value → Prop := Paired RelV
theorem Vals.length {xs : List V} {us : List Value} (r : Vals xs us) : xs.length = us.length := Paired.length r
theorem Vals.get : ∀ {xs : List V} {us : List Value} {i : Nat} {x : V}, Vals xs us → xs[i]? = some x → ∃ u, us[i]? = some u ∧ RelV x u
  | _, _, _, _, .nil, e => by simp at e
  | _, _, 0, _, .cons r _, e => by simp at e; subst e; exact ⟨_, rfl, r⟩
  | _, _, i + 1, x, .cons _ t, e => by
    obtain ⟨u, h1, h2⟩ := Vals.get (i := i) (x := x) t (by simpa using e)
    exact ⟨u, by simpa using h1, h2⟩
theorem Vals.set {x : V} {u : Value} (r : RelV x u) : ∀ {xs : List V} {us : List Value} (i : Nat), Vals xs us → Vals (xs.set i x) (us.set i u)
  | _, _, _, .nil => .nil
  | _, _, 0, .cons _ t => .cons r t
  | _, _, i + 1, .cons q t => .cons q (Vals.set r i t)
theorem Vals.append : ∀ {xs ys : List V} {us ws : List Value}, Vals xs us → Vals ys ws → Vals (xs ++ ys) (us ++ ws)
  | _, _, _, _, .nil, s => s
  | _, _, _, _, .cons r t, s => .cons r (Vals.append t s)
theorem Vals.take : ∀ {xs : List V} {us : List Value} (n : Nat), Vals xs us → Vals (xs.take n) (us.take n)
  | _, _, 0, _ => .nil
  | _, _, _ + 1, .nil => .nil
  | _, _, n + 1, .cons r t => .cons r (Vals.take n t)
theorem Vals.drop : ∀ {xs : List V} {us : List Value} (n : Nat), Vals xs us → Vals (xs.drop n) (us.drop n)
  | _, _, 0, r => r
  | _, _, _ + 1, .nil => .nil
  | _, _, n + 1, .cons _ t => Vals.drop n t
def RelO : Option V → Option Value → Prop
  | some v, some u => RelV v u
  | none, none => True
  | _, _ => False
def KV {κ : Type} : List (κ × V) → List (κ × Value) → Prop := Paired fun (p : κ × V) (q : κ × Value) => p.1 = q.1 ∧ RelV p.2 q.2

/-- a key of a dict (00_mix): an int or a text -/
def kV : Key → V
  | .inl i => .int i
  | .inr x => .str x

/-- what stands at a tracked address -/
inductive HO where
  /-- a list -/
  | lst (xs : List V)
  /-- a tuple (never changes) -/
  | tup (xs : List V)
  /-- a dict whose keys are ints and texts; one whose keys are tuples of ints and texts (the empty one is both) -/
  | dK (kvs : List (Key × V)) | dT (kvs : List (List Key × V))
  /-- a set of ints: its members, its size -/
  | set (S : Int → Bool) (n : Nat)
  /-- an instance of the class at C, its dict at dx, its attributes -/
  | ins (C dx : Addr) (fs : List (Str × V))
  /-- the dict of the instance at x -/
  | own (x : Addr)
  /-- the dict of an exception -/
  | xd (fs : List (Str × V))
  /-- a bound method, f of x -/
  | met (f x : Addr)
  /-- a range object lo, lo + 1, .. below hi -/
  | rng (lo hi : Int)
  /-- a thing that is known to the object (the script; a dict while a loop walks it): read, never written while it is so -/
  | frz (o : Obj) (u : HO)
  /-- a code object's table -/
  | tbl (ps : Array Value)
  /-- any other thing, by what is true of its one object (a def of one's own: SetO a S n := HO.ext fun h => ..) -/
  | ext (φ : Heap → Prop)

abbrev Hp := Addr → Option HO
def upd (H : Hp) (a : Addr) (o : HO) : Hp := fun b => if b = a then some o else H b
theorem upd_same {H : Hp} {a : Addr} {o : HO} : upd H a o a = some o := by unfold upd; rw [if_pos rfl]
theorem upd_ne {H : Hp} {a b : Addr} {o : HO} (h : b ≠ a) : upd H a o b = H b := by unfold upd; rw [if_neg h]
/-- two objects of different content stand apart -/
theorem ne_of {H : Hp} {a b : Addr} {o u : HO} (h : H a = some o) (h' : H b = some u) (d : o ≠ u) : a ≠ b := by
  intro e; subst e; rw [h] at h'; exact d (Option.some.inj h')
theorem ne_of_none {H : Hp} {a b : Addr} {o : HO} (h : H a = some o) (h' : H b = none) : a ≠ b := by
  intro e; subst e; rw [h] at h'; cases h'

section
variable (P : Program) (w : World)
def ObjOk (H : Hp) (h : Heap) (a : Addr) : HO → Prop
  | .lst xs => xs.length ≤ sizeLine ∧ ∃ (its : List Value) (n : Nat), Vals xs its ∧ h.get? a = some { cls := .type "list", data := .seq its.toArray n }
  | .tup xs => xs.length ≤ sizeLine ∧ ∃ its : List Value, Vals xs its ∧ IsTup h a its.toArray
  | .dK kvs => kvs.length ≤ sizeLine ∧ (a == sysModules) = false ∧ ∃ vs, KV kvs vs ∧ h.DictOf (mixKind P w) a vs
  | .dT kvs => kvs.length ≤ sizeLine ∧ (a == sysModules) = false ∧ ∃ xs : List (List Key × Addr × Value),
      Paired (fun (p : List Key × V) (q : List Key × Addr × Value) => p.1 = q.1 ∧ H q.2.1 = some (.tup (p.1.map kV)) ∧ RelV p.2 q.2.2) kvs xs ∧
      ∃ o es ep, h.get? a = some o ∧ o.ExactDict ∧ o.data = .dict es ep ∧ es.toList = xs.map (entryOfKey (tupleKind (mixKind P w))) ∧ (xs.map (·.1)).Nodup
  | .set S n => h.SetOf (intKind P w) a S n
  | .ins C dx fs => H dx = some (.own a) ∧ fs.length ≤ 1000 ∧ dx ≠ a ∧ h.get? a = some (PySem.W.instObj C dx) ∧
      ∃ mA, h.Ns1 dx mA ∧ (∀ f, RelO (fs.lookup f) (mA f)) ∧ PySem.Within mA (fs.map (·.1))
  | .own _ => ∃ o, h.get? a = some o
  | .xd fs => ∃ mA, h.Ns1 a mA ∧ ∀ f, RelO (fs.lookup f) (mA f)
  | .rng lo hi => ∃ t u v, h.get? a = some { cls := .type "range", data := .fields #[.int lo t, .int hi u, .int 1 v] }
  | .frz o u => h.get? a = some o ∧ ObjOk H h a u
  | .tbl ps => h.get? a = some { cls := .none, data := .fields ps }
  | .met f x => h.get? a = some (PySem.W.methodObj (.ref f) (.ref x))
  | .ext φ => φ h ∧ (∃ o, h.get? a = some o) ∧ ∀ h1 h2 : Heap, φ h1 → (∀ o, h1.get? a = some o → h2.get? a = some o) → φ h2
/-- the abstract heap is held -/
def HOk (H : Hp) (h : Heap) : Prop := ∀ a o, H a = some o → ObjOk P w H h a o
end

section
variable {P : Program} {w : World} {H H' : Hp} {h h' : Heap} {a : Addr} {o : HO}
theorem ObjOk.lt (x : ObjOk P w H h a o) : a < h.objs.size := by
  cases o with
  | lst xs => obtain ⟨_, _, _, _, e⟩ := x; exact Heap.lt_size e
  | tup xs => obtain ⟨_, _, _, p⟩ := x; exact p.lt
  | dK kvs => obtain ⟨_, _, _, _, o, _, _, e, _⟩ := x; exact Heap.lt_size e
  | dT kvs => obtain ⟨_, _, _, _, o, _, _, e, _⟩ := x; exact Heap.lt_size e
  | set S n => obtain ⟨o, _, _, _, e, _⟩ := x; exact Heap.lt_size e
  | ins C dx fs => obtain ⟨_, _, _, e, _⟩ := x; exact Heap.lt_size e
  | own y => obtain ⟨_, e⟩ := x; exact Heap.lt_size e
  | xd fs => obtain ⟨_, ⟨_, _, _, e, _⟩, _⟩ := x; exact Heap.lt_size e
  | rng lo hi => obtain ⟨_, _, _, e⟩ := x; exact Heap.lt_size e
  | frz ob u => obtain ⟨e, _⟩ := x; exact Heap.lt_size e
  | tbl ps => exact Heap.lt_size (show h.get? a = some _ from x)
  | met f y => exact Heap.lt_size (show h.get? a = some _ from x)
  | ext φ => obtain ⟨_, ⟨_, e⟩, _⟩ := x; exact Heap.lt_size e
theorem Paired.mapP {α β : Type} {F G : α → β → Prop} : ∀ {l₁ : List α} {l₂ : List β}, Paired F l₁ l₂ → (∀ a b, F a b → G a b) → Paired G l₁ l₂
  | _, _, .nil, _ => .nil
  | _, _, .cons r t, f => .cons (f _ _ r) (Paired.mapP t f)
/-- what an object's description leans on: its own object, its own dict, the tuples -/
theorem ObjOk.stay (x : ObjOk P w H h a o) (k : ∀ b u, (b = a ∨ H b = some (.own a)) → h.get? b = some u → h'.get? b = some u)
    (ho : ∀ b, H b = some (.own a) → H' b = some (.own a)) (ht : ∀ b xs, H b = some (.tup xs) → H' b = some (.tup xs)) : ObjOk P w H' h' a o := by
  induction o with
  | lst xs => obtain ⟨z, its, n, r, e⟩ := x; exact ⟨z, its, n, r, k _ _ (.inl rfl) e⟩
  | tup xs => obtain ⟨z, its, r, ob, e, c⟩ := x; exact ⟨z, its, r, ob, k _ _ (.inl rfl) e, c⟩
  | dK kvs => obtain ⟨z, y, vs, r, ob, es, ep, e, c⟩ := x; exact ⟨z, y, vs, r, ob, es, ep, k _ _ (.inl rfl) e, c⟩
  | dT kvs =>
    obtain ⟨z, y, xs, r, ob, es, ep, e, c⟩ := x
    exact ⟨z, y, xs, Paired.mapP r fun p q z => ⟨z.1, ht _ _ z.2.1, z.2.2⟩, ob, es, ep, k _ _ (.inl rfl) e, c⟩
  | set S n => obtain ⟨ob, es, ep, t, e, c⟩ := x; exact ⟨ob, es, ep, t, k _ _ (.inl rfl) e, c⟩
  | ins C dx fs =>
    obtain ⟨d, z, ne, e, mA, ⟨od, es, ep, e2, c⟩, r⟩ := x
    exact ⟨ho _ d, z, ne, k _ _ (.inl rfl) e, mA, ⟨od, es, ep, k _ _ (.inr d) e2, c⟩, r⟩
  | own y => obtain ⟨ob, e⟩ := x; exact ⟨ob, k _ _ (.inl rfl) e⟩
  | xd fs => obtain ⟨mA, ⟨od, es, ep, e, c⟩, r⟩ := x; exact ⟨mA, ⟨od, es, ep, k _ _ (.inl rfl) e, c⟩, r⟩
  | rng lo hi => obtain ⟨t, u, v, e⟩ := x; exact ⟨t, u, v, k _ _ (.inl rfl) e⟩
  | frz ob u ih => obtain ⟨e, q⟩ := x; exact ⟨k _ _ (.inl rfl) e, ih q⟩
  | tbl ps =>
    have e : h.get? a = some { cls := .none, data := .fields ps } := x
    show h'.get? a = some { cls := .none, data := .fields ps }
    exact k a _ (.inl rfl) e
  | met f y =>
    have e : h.get? a = some (PySem.W.methodObj (.ref f) (.ref y)) := x
    show h'.get? a = some (PySem.W.methodObj (.ref f) (.ref y))
    exact k a _ (.inl rfl) e
  | ext φ => obtain ⟨p, ⟨o, e⟩, st⟩ := x; exact ⟨st _ _ p fun o q => k _ _ (.inl rfl) q, ⟨o, k _ _ (.inl rfl) e⟩, st⟩
theorem HOk.lt (x : HOk P w H h) (e : H a = some o) : a < h.objs.size := (x a o e).lt
theorem HOk.fresh (x : HOk P w H h) (e : h.objs.size ≤ a) : H a = none := by
  cases q : H a with
  | none => rfl
  | some u => exact absurd (Nat.lt_of_lt_of_le (x.lt q) e) (Nat.lt_irrefl _)
/-- every object of the heap is kept -/
theorem HOk.kept (x : HOk P w H h) (k : ∀ b u, h.get? b = some u → h'.get? b = some u) : HOk P w H h' := fun a o e =>
  (x a o e).stay (fun b u _ q => k b u q) (fun _ q => q) fun _ _ q => q
/-- a new object is laid and tracked -/
theorem HOk.laid (x : HOk P w H h) (k : ∀ b u, h.get? b = some u → h'.get? b = some u) (hp : h.objs.size ≤ a) (new : ObjOk P w (upd H a o) h' a o) : HOk P w (upd H a o) h' := fun b u e => by
  have hn := x.fresh hp
  by_cases hb : b = a
  · subst hb; rw [upd_same] at e; cases e; exact new
  · rw [upd_ne hb] at e
    exact (x b u e).stay (fun c v _ q => k c v q) (fun c q => by rw [upd_ne (ne_of_none q hn)]; exact q) fun c xs q => by rw [upd_ne (ne_of_none q hn)]; exact q
end

/-- what may be read as u: it is u, or a known u -/
def Rd (H : Hp) (a : Addr) (u : HO) : Prop := H a = some u ∨ ∃ o, H a = some (.frz o u)
theorem Rd.of {H : Hp} {a : Addr} {u : HO} (h : H a = some u) : Rd H a u := .inl h
theorem Rd.ok {P : Program} {w : World} {H : Hp} {h : Heap} {a : Addr} {u : HO} (r : Rd H a u) (x : HOk P w H h) : ObjOk P w H h a u := by
  rcases r with r | ⟨o, r⟩
  · exact x a u r
  · obtain ⟨_, q⟩ := x a _ r
    exact q
/-- what may be written -/
def Mut : Option HO → Prop
  | some (.lst _) => True
  | some (.dK _) => True
  | some (.dT _) => True
  | some (.set _ _) => True
  | some (.ins _ _ _) => True
  | some (.ext _) => True
  | _ => False
section
variable {P : Program} {w : World} {H : Hp} {h h' : Heap} {x e : Addr} {o' : HO}
/-- the object at e is changed: x itself, or the dict of the instance x -/
theorem HOk.write (ok : HOk P w H h) (mu : Mut (H x)) (he : e = x ∨ H e = some (.own x)) (k : ∀ b u, b ≠ e → h.get? b = some u → h'.get? b = some u) (heo : ∃ u, h'.get? e = some u)
    (new : ObjOk P w (upd H x o') h' x o') : HOk P w (upd H x o') h' := fun b u q => by
  have nown : ∀ c y, H c = some (.own y) → c ≠ x := fun c y r z => by subst z; rw [r] at mu; exact mu
  have ntup : ∀ c xs, H c = some (.tup xs) → c ≠ x := fun c xs r z => by subst z; rw [r] at mu; exact mu
  by_cases hb : b = x
  · subst hb; rw [upd_same] at q; cases q; exact new
  · rw [upd_ne hb] at q
    by_cases hbe : b = e
    · have q' : H b = some (.own x) := by
        rcases he with z | z
        · exact absurd (hbe.trans z) hb
        · rw [hbe]; exact z
      rw [q] at q'; cases q'
      obtain ⟨v, hv⟩ := heo
      exact ⟨v, by rw [hbe]; exact hv⟩
    · refine (ok b u q).stay (fun c v hc r => k c v ?_ r) (fun c r => by rw [upd_ne (nown c b r)]; exact r) fun c xs r => by rw [upd_ne (ntup c xs r)]; exact r
      rcases hc with rfl | hc
      · exact hbe
      · rintro rfl
        rcases he with z | z
        · exact nown c b hc z
        · rw [hc] at z; cases z; exact hb rfl
end

/-! ### kept unless tracked; of the frames at fs (the callers') the slots may change (an exception that passes writes there); of the records at ex (iterators) nothing is said -/
structure Un (fs ex : List Addr) (H H' : Hp) (h h' : Heap) : Prop where
  keep : ∀ b o, h.get? b = some o → H b = none → b ∉ fs → b ∉ ex → h'.get? b = some o
  slot : ∀ b o, h.get? b = some o → H b = none → b ∈ fs → b ∉ ex → ∃ sl, h'.get? b = some { o with slots := sl }
  free : ∀ b o, h.get? b = some o → H b = none → b ∉ ex → H' b = none
  there : ∀ b o, h.get? b = some o → b ∉ ex → ∃ o', h'.get? b = some o'
  tups : ∀ b xs, H b = some (.tup xs) → H' b = some (.tup xs)
  frzs : ∀ b o u, H b = some (.frz o u) → H' b = some (.frz o u)
  tbls : ∀ b ps, H b = some (.tbl ps) → ∃ more, H' b = some (.tbl (ps ++ more))
section
variable {fs fs' ex ex' : List Addr} {H H1 H2 : Hp} {h h1 h2 h' : Heap} {a x e : Addr} {o : HO}
theorem Un.any (u : Un fs ex H H1 h h1) {b : Addr} {ob : Obj} (q : h.get? b = some ob) (n : H b = none) (hx : b ∉ ex) : ∃ sl, h1.get? b = some { ob with slots := sl } := by
  by_cases hb : b ∈ fs
  · exact u.slot b ob q n hb hx
  · exact ⟨ob.slots, u.keep b ob q n hb hx⟩
theorem Un.trans (a : Un fs ex H H1 h h1) (b : Un fs ex H1 H2 h1 h2) : Un fs ex H H2 h h2 where
  keep := fun c ob q n hc hx => b.keep c ob (a.keep c ob q n hc hx) (a.free c ob q n hx) hc hx
  slot := fun c ob q n hc hx => by
    obtain ⟨sl, e1⟩ := a.slot c ob q n hc hx
    obtain ⟨sl', e2⟩ := b.slot c _ e1 (a.free c ob q n hx) hc hx
    exact ⟨sl', e2⟩
  free := fun c ob q n hx => by
    obtain ⟨o', e1⟩ := a.there c ob q hx
    exact b.free c o' e1 (a.free c ob q n hx) hx
  there := fun c ob q hx => by
    obtain ⟨o', e1⟩ := a.there c ob q hx
    exact b.there c o' e1 hx
  tups := fun c xs q => b.tups c xs (a.tups c xs q)
  frzs := fun c ob xs q => b.frzs c ob xs (a.frzs c ob xs q)
  tbls := fun c ps q => by
    obtain ⟨m1, e1⟩ := a.tbls c ps q
    obtain ⟨m2, e2⟩ := b.tbls c _ e1
    exact ⟨m1 ++ m2, by rw [e2, Array.append_assoc]⟩
theorem Un.kept (k : ∀ b u, h.get? b = some u → h'.get? b = some u) : Un fs ex H H h h' :=
  ⟨fun b ob q _ _ _ => k b ob q, fun b ob q _ _ _ => ⟨ob.slots, k b ob q⟩, fun _ _ _ n _ => n, fun b ob q _ => ⟨ob, k b ob q⟩, fun _ _ q => q, fun _ _ _ q => q, fun _ ps q => ⟨#[], by rw [q]; simp⟩⟩
theorem Un.refl : Un fs ex H H h h := Un.kept fun _ _ q => q
theorem Un.laid (k : ∀ b u, h.get? b = some u → h'.get? b = some u) (hp : h.objs.size ≤ a) (hn : H a = none) : Un fs ex H (upd H a o) h h' where
  keep := fun b u q _ _ _ => k b u q
  slot := fun b u q _ _ _ => ⟨u.slots, k b u q⟩
  free := fun b u q n _ => by rw [upd_ne (Nat.ne_of_lt (Nat.lt_of_lt_of_le (Heap.lt_size q) hp))]; exact n
  there := fun b u q _ => ⟨u, k b u q⟩
  tups := fun b xs q => by rw [upd_ne (ne_of_none q hn)]; exact q
  frzs := fun b u xs q => by rw [upd_ne (ne_of_none q hn)]; exact q
  tbls := fun b ps q => ⟨#[], by rw [upd_ne (ne_of_none q hn), q]; simp⟩
theorem Un.write (mu : Mut (H x)) (he : e = x ∨ H e = some (.own x)) (k : ∀ b u, b ≠ e → h.get? b = some u → h'.get? b = some u) (heo : ∃ u, h'.get? e = some u) : Un fs ex H (upd H x o) h h' := by
  have hx : ∀ b, H b = none → b ≠ x := fun b n z => by subst z; rw [n] at mu; exact mu
  have hb : ∀ b, H b = none → b ≠ e := fun b n z => by
    subst z
    rcases he with r | r
    · exact hx b n r
    · rw [n] at r; cases r
  have hm : ∀ b u, H b = some u → ¬ Mut (some u) → b ≠ x := fun b u q nm z => by subst z; rw [q] at mu; exact nm mu
  refine ⟨fun b u q n _ _ => k b u (hb b n) q, fun b u q n _ _ => ⟨u.slots, k b u (hb b n) q⟩, fun b u q n _ => by rw [upd_ne (hx b n)]; exact n, fun b u q _ => ?_,
    fun b xs q => by rw [upd_ne (hm b _ q fun z => z)]; exact q, fun b u xs q => by rw [upd_ne (hm b _ q fun z => z)]; exact q, fun b ps q => ⟨#[], by rw [upd_ne (hm b _ q fun z => z), q]; simp⟩⟩
  by_cases hbe : b = e
  · subst hbe; exact heo
  · exact ⟨u, k b u hbe q⟩
theorem Un.mono (u : Un fs ex H H1 h h1) (hs : ∀ b ∈ fs, b ∈ fs') (hx : ∀ b ∈ ex, b ∈ ex') : Un fs' ex' H H1 h h1 :=
  ⟨fun b ob q n hb he => u.keep b ob q n (fun z => hb (hs b z)) fun z => he (hx b z), fun _ _ q n _ he => u.any q n fun z => he (hx _ z), fun b ob q n he => u.free b ob q n fun z => he (hx b z), fun b ob q he => u.there b ob q fun z => he (hx b z), u.tups, u.frzs, u.tbls⟩
end

/-! ### the heap without what is tracked -/
def trk (h : Heap) (H : Hp) : List Addr := (List.range h.objs.size).filter fun a => (H a).isSome
def hidT (h : Heap) (H : Hp) : Heap := PySem.W.hideAll h (trk h H)
theorem hidT_size (h : Heap) (H : Hp) : (hidT h H).objs.size = h.objs.size := PySem.W.hideAll_size _ _
theorem hidT_get {h : Heap} {H : Hp} {b : Addr} {o : Obj} (e : h.get? b = some o) (n : H b = none) : (hidT h H).get? b = some o :=
  PySem.W.hideAll_get _ e fun hm => by
    have q : (H b).isSome = true := (List.mem_filter.mp hm).2
    rw [n] at q; simp at q
theorem of_hidT {h : Heap} {H : Hp} {b : Addr} {o : Obj} (e : (hidT h H).get? b = some o) : h.get? b = some o ∧ H b = none := by
  have e' : h.get? b = some o := PySem.W.of_hideAll (trk h H) e
  refine ⟨e', ?_⟩
  cases q : H b with
  | none => rfl
  | some x =>
    have hm : b ∈ trk h H := List.mem_filter.mpr ⟨List.mem_range.mpr (Heap.lt_size e'), by simp [q]⟩
    have z : (hidT h H).get? b = none := PySem.W.hideAll_none (trk h H) hm
    rw [z] at e; cases e

/-! ### OpenK's ledger, filled with every new object but one -/
def allNews (g h : Heap) (L : Addr) : List (Addr × Obj) := (List.range h.objs.size).filterMap fun a => if a = L ∨ (g.get? a).isSome = true then none else (h.get? a).map fun o => (a, o)
def rest (g h : Heap) (L d : Addr) : List (Addr × Obj) := (allNews g h L).filter fun p => decide (p.1 ≠ d)
end L2

namespace L2
open PySem PySem.Spec PyProof.Rows

/-- the module's facts, over the base: the heap at the law's entry without what is tracked there -/
structure Mod (K : PySem.W.Frag) (mg : Str → Option Value) (base : Heap) : Prop where
  kin : K.In base
  glob : base.Ns mainGlobals mg
  blt : ∃ mb, base.Ns builtinsNs mb ∧ ∀ x : Str, x ≠ "__name__" → mb x = bootBuiltins x
  nolimit : base.NoLimit

/-- the context: a def's body (or a comprehension's block) running. base: fixed through the whole law; s₀, H₀: the entry; outer: the frames whose slots others may change (a def's callers); stack: all frames that run;
   ex: iterators that were made ahead of the entry and are walked here (a comprehension's); fn: the names whose cells were made at the entry (a def: all; a comprehension's block: its own); calm: not within an except suite; pn: pins that every state bears; xe: what is wanted of an exception that leaves the code -/
structure Cx where
  prog : Program
  w : World
  K : PySem.W.Frag
  mg : Str → Option Value
  base : Heap
  A : Around
  N : List Str
  s₀ : Shared
  H₀ : Hp
  env : Env
  outer : List Env
  stack : List Env
  ex : List Addr
  fn : Str → Bool
  calm : Bool
  pn : List (Addr × Obj)
  xe : Value → Shared → Prop
/-- the callers' frames -/
def frs (l : List Env) : List Addr := l.filterMap (·.frame)
abbrev Cx.fs (X : Cx) : List Addr := frs X.outer

def Vis (sc : Scope) (x : Str) : Prop := sc.names.lookup x = some .local ∨ sc.names.lookup x = some .cell ∨ sc.names.lookup x = some .free
def Loc (sc : Scope) (x : Str) : Prop := sc.names.lookup x = some .local ∨ sc.names.lookup x = some .cell
def Look (env : Env) (h : Heap) (m : Str → Option Value) (x : Str) (u : Value) : Prop :=
  (env.kindOf x = some .local ∧ m x = some u) ∨ ((env.kindOf x = some .cell ∨ env.kindOf x = some .free) ∧ ∃ c, env.cells.lookup x = some c ∧ h.IsCell c (some u))

structure Cx.Ok (X : Cx) : Prop where
  mod : Mod X.K X.mg X.base
  kind : X.env.scope.kind = .function
  glob : X.env.globals = mainGlobals
  blt : X.env.builtins = builtinsNs
  above : X.s₀.heap.objs.size ≤ X.env.locals
  inj : ∀ x y c, X.env.cells.lookup x = some c → X.env.cells.lookup y = some c → x = y
  has : ∀ x, (X.env.kindOf x = some .cell ∨ X.env.kindOf x = some .free) → ∃ c, X.env.cells.lookup x = some c
  cab : ∀ x c, X.fn x = true → X.env.cells.lookup x = some c → X.s₀.heap.objs.size ≤ c
  hd : X.calm = true → X.A.handled = none
  frames : X.A.frames = some X.stack
  stk : X.stack = X.outer ∨ (X.stack = X.env :: X.outer ∧ X.env.frame = some X.env.locals)
  exf : ∀ b ∈ X.ex, b ≠ X.env.locals ∧ ∀ x c, X.env.cells.lookup x = some c → c ≠ b
  bs : ∀ b o, X.base.get? b = some o → X.s₀.heap.get? b = some o ∧ X.H₀ b = none
  bsz : X.base.objs.size ≤ X.s₀.heap.objs.size
  noex : ∀ b o, X.base.get? b = some o → b ∉ X.ex
  exfs : ∀ b ∈ X.ex, b ∉ X.fs
  funs : X.s₀.heap.FunFrames X.base X.outer
  frf : ∀ b ∈ X.fs, X.H₀ b = none

structure Inv (X : Cx) (pins : List (Addr × Obj)) (σ : List (Option V)) (H : Hp) (s : Shared) : Prop where
  ok : X.Ok
  os : s.os = X.s₀.os
  bare : AllBare s.gens
  base : Un X.fs X.ex X.H₀ H X.s₀.heap s.heap
  loc : ∃ m, s.heap.Ns X.env.locals m ∧ ∀ (i : Nat) (x : Str) (v : V), X.N[i]? = some x → σ[i]? = some (some v) → Vis X.env.scope x → ∃ u, RelV v u ∧ Look X.env s.heap m x u
  cell : ∀ x c, X.env.cells.lookup x = some c → ∃ v, s.heap.IsCell c v
  free : H X.env.locals = none
  freeC : ∀ x c, X.env.cells.lookup x = some c → H c = none
  pin : ∀ p ∈ X.pn ++ pins, s.heap.get? p.1 = some p.2 ∧ H p.1 = none ∧ p.1 ≠ X.env.locals ∧ p.1 ∉ X.fs ∧ ∀ v, p.2.data ≠ .cell v
  hok : HOk X.prog X.w H s.heap
  len : σ.length = X.N.length

section
variable {X : Cx} {pins : List (Addr × Obj)} {σ : List (Option V)} {H H' : Hp} {s : Shared} {h' : Heap}

theorem Cx.Ok.nofr (ok : X.Ok) {b : Addr} {o : Obj} (e : X.base.get? b = some o) : b ∉ X.fs := fun hb => by
  have := (ok.funs.mem hb).1
  rw [e] at this; cases this
theorem Inv.bs (I : Inv X pins σ H s) : ∀ b o, X.base.get? b = some o → s.heap.get? b = some o ∧ H b = none := fun b o e =>
  ⟨I.base.keep b o (I.ok.bs b o e).1 (I.ok.bs b o e).2 (I.ok.nofr e) (I.ok.noex b o e), I.base.free b o (I.ok.bs b o e).1 (I.ok.bs b o e).2 (I.ok.noex b o e)⟩
theorem Inv.bk (I : Inv X pins σ H s) : ∀ b o, X.base.get? b = some o → s.heap.get? b = some o := fun b o e => (I.bs b o e).1
theorem Inv.mod (I : Inv X pins σ H s) : Mod X.K X.mg X.base := I.ok.mod
theorem Inv.kIn (I : Inv X pins σ H s) : X.K.In s.heap := I.ok.mod.kin.keeps I.bk
theorem Inv.nolimit (I : Inv X pins σ H s) : s.heap.NoLimit := I.ok.mod.nolimit.keeps I.bk
/-- the frame over the base: for OpenK's rules (K.In X.base is I.mod.kin) -/
theorem Inv.fr (I : Inv X pins σ H s) : ∃ m, Fr X.base X.env.locals s.heap m :=
  let ⟨m, hn, _⟩ := I.loc
  ⟨m, hn, I.bk, Nat.le_trans I.ok.bsz I.ok.above⟩
theorem Inv.lt (I : Inv X pins σ H s) : X.env.locals < s.heap.objs.size := let ⟨_, hn, _⟩ := I.loc; hn.lt
theorem Inv.sz (I : Inv X pins σ H s) : X.s₀.heap.objs.size ≤ s.heap.objs.size := Nat.le_trans I.ok.above (Nat.le_of_lt I.lt)
theorem Inv.nofs (I : Inv X pins σ H s) {a : Addr} (h : s.heap.objs.size ≤ a) : a ∉ X.fs := fun hb => by
  obtain ⟨_, o, ho, _⟩ := I.ok.funs.mem hb
  exact absurd (Nat.lt_of_lt_of_le (Heap.lt_size ho) (Nat.le_trans I.sz h)) (Nat.lt_irrefl _)
theorem Inv.cne (I : Inv X pins σ H s) : ∀ x c, X.env.cells.lookup x = some c → c ≠ X.env.locals := fun x c e z => by
  obtain ⟨v, o, ho, hd⟩ := I.cell x c e
  obtain ⟨m, ⟨o', es, ep, ho', hd', _⟩, _⟩ := I.loc
  rw [z, ho'] at ho; cases ho; rw [hd'] at hd; cases hd
theorem Inv.funs (I : Inv X pins σ H s) : s.heap.FunFrames X.base X.outer := by
  have all : ∀ (l : List Env), (∀ b ∈ frs l, b ∈ X.fs) → X.s₀.heap.FunFrames X.base l → s.heap.FunFrames X.base l := by
    intro l
    induction l with
    | nil => intro _ _; trivial
    | cons env r ih =>
      intro hs hl
      obtain ⟨hk, ⟨L, o, hf, hn, ho, hd⟩, hr⟩ := hl
      have hL : L ∈ X.fs := hs L (by unfold frs; rw [List.filterMap_cons, hf]; exact List.mem_cons_self)
      obtain ⟨sl, e⟩ := I.base.slot L o ho (I.ok.frf L hL) hL fun z => I.ok.exfs L z hL
      exact ⟨hk, ⟨L, _, hf, hn, e, hd⟩, ih (fun b hb => hs b (by unfold frs; rw [List.filterMap_cons, hf]; exact List.mem_cons_of_mem _ hb)) hr⟩
  exact all X.outer (fun _ hb => hb) I.ok.funs

/-- the frames that run, for a call -/
theorem Inv.stack (I : Inv X pins σ H s) : s.heap.FunFrames X.base X.stack := by
  rcases I.ok.stk with e | ⟨e, hf⟩
  · rw [e]; exact I.funs
  · rw [e]
    obtain ⟨m, hn, _⟩ := I.loc
    refine .cons (by rw [I.ok.kind]; decide) hf hn ?_ I.funs
    exact Heap.get?_none_of_le (Nat.le_trans I.ok.bsz I.ok.above)
theorem Inv.stkSub (I : Inv X pins σ H s) : ∀ b ∈ frs X.stack, b ∈ X.env.locals :: X.fs := fun b hb => by
  rcases I.ok.stk with e | ⟨e, hf⟩
  · rw [e] at hb; exact List.mem_cons_of_mem _ hb
  · rw [e] at hb
    unfold frs at hb
    rw [List.filterMap_cons, hf] at hb
    exact hb
theorem Inv.stkFree (I : Inv X pins σ H s) : ∀ b ∈ frs X.stack, H b = none := fun b hb => by
  rcases List.mem_cons.mp (I.stkSub b hb) with e | hb
  · rw [e]; exact I.free
  · obtain ⟨_, o, ho, _⟩ := I.ok.funs.mem hb
    exact I.base.free b o ho (I.ok.frf b hb) fun z => I.ok.exfs b z hb

/-- THE STEP: the untracked objects but the frame and the records at ch are kept (the callers' frames up to slots), the frame's map is kept, the new abstract heap is held -/
theorem Inv.step {g' : Array GenState} {t' : Nat} {d' : Drawn} {ch : List Addr} (I : Inv X pins σ H s)
    (hch : ∀ b ∈ ch, (b ∈ X.ex ∨ X.s₀.heap.objs.size ≤ b) ∧ b ≠ X.env.locals ∧ (∀ x c, X.env.cells.lookup x = some c → c ≠ b) ∧ ∀ p ∈ X.pn ++ pins, p.1 ≠ b)
    (keep : ∀ b o, b ≠ X.env.locals → b ∉ X.fs → b ∉ ch → s.heap.get? b = some o → H b = none → h'.get? b = some o)
    (slot : ∀ b o, b ≠ X.env.locals → b ∈ X.fs → b ∉ ch → s.heap.get? b = some o → H b = none → ∃ sl, h'.get? b = some { o with slots := sl }) (free : ∀ b o, b ∉ ch → s.heap.get? b = some o → H b = none → H' b = none)
    (there : ∀ b o, b ∉ ch → s.heap.get? b = some o → ∃ o', h'.get? b = some o')
    (tups : ∀ b xs, H b = some (.tup xs) → H' b = some (.tup xs)) (frzs : ∀ b o u, H b = some (.frz o u) → H' b = some (.frz o u)) (tbls : ∀ b ps, H b = some (.tbl ps) → ∃ more, H' b = some (.tbl (ps ++ more)))
    (ns : ∀ m, s.heap.Ns X.env.locals m → h'.Ns X.env.locals m) (hok : HOk X.prog X.w H' h') (hg : AllBare g') :
    Inv X pins σ H' { s with heap := h', gens := g', drawn := d', toks := t' } := by
  have neL : ∀ b o, X.s₀.heap.get? b = some o → b ≠ X.env.locals := fun b o e => Nat.ne_of_lt (Nat.lt_of_lt_of_le (Heap.lt_size e) I.ok.above)
  have neC : ∀ b o, X.s₀.heap.get? b = some o → b ∉ X.ex → b ∉ ch := fun b o e hx hb => by
    rcases (hch b hb).1 with z | z
    · exact hx z
    · exact absurd (Nat.lt_of_lt_of_le (Heap.lt_size e) z) (Nat.lt_irrefl _)
  have cellK : ∀ x c, X.env.cells.lookup x = some c → ∀ v, s.heap.IsCell c v → h'.IsCell c v := fun x c e v ⟨o, ho, hd⟩ => by
    have nch : c ∉ ch := fun z => (hch c z).2.2.1 x c e rfl
    by_cases hc : c ∈ X.fs
    · obtain ⟨sl, q⟩ := slot c o (I.cne x c e) hc nch ho (I.freeC x c e)
      exact ⟨_, q, hd⟩
    · exact ⟨o, keep c o (I.cne x c e) hc nch ho (I.freeC x c e), hd⟩
  refine ⟨I.ok, I.os, hg, ⟨fun b o e n hb hx => ?_, fun b o e n hb hx => ?_, fun b o e n hx => ?_, fun b o e hx => ?_, fun b xs e => tups b xs (I.base.tups b xs e), fun b o xs e => frzs b o xs (I.base.frzs b o xs e), fun b ps e => ?_⟩, ?_, fun x c e => ?_, ?_, fun x c e => ?_, fun p hp => ?_, hok, I.len⟩
  · exact keep b o (neL b o e) hb (neC b o e hx) (I.base.keep b o e n hb hx) (I.base.free b o e n hx)
  · obtain ⟨sl, e1⟩ := I.base.slot b o e n hb hx
    obtain ⟨sl', e2⟩ := slot b _ (neL b o e) hb (neC b o e hx) e1 (I.base.free b o e n hx)
    exact ⟨sl', e2⟩
  · obtain ⟨o', e1⟩ := I.base.there b o e hx
    exact free b o' (neC b o e hx) e1 (I.base.free b o e n hx)
  · obtain ⟨o', e1⟩ := I.base.there b o e hx
    exact there b o' (neC b o e hx) e1
  · obtain ⟨m1, e1⟩ := I.base.tbls b ps e
    obtain ⟨m2, e2⟩ := tbls b _ e1
    exact ⟨m1 ++ m2, by rw [e2, Array.append_assoc]⟩
  · obtain ⟨m, hn, hl⟩ := I.loc
    refine ⟨m, ns m hn, fun i x v e1 e2 e3 => ?_⟩
    obtain ⟨u, r, l⟩ := hl i x v e1 e2 e3
    refine ⟨u, r, ?_⟩
    rcases l with l | ⟨k, c, e, z⟩
    · exact .inl l
    · exact .inr ⟨k, c, e, cellK x c e _ z⟩
  · obtain ⟨v, z⟩ := I.cell x c e
    exact ⟨v, cellK x c e v z⟩
  · obtain ⟨m, ⟨o, _, _, ho, _⟩, _⟩ := I.loc
    exact free _ o (fun z => (hch _ z).2.1 rfl) ho I.free
  · obtain ⟨v, o, ho, hd⟩ := I.cell x c e
    exact free c o (fun z => (hch c z).2.2.1 x c e rfl) ho (I.freeC x c e)
  · obtain ⟨e, n, ne, nf, d⟩ := I.pin p hp
    have nch : p.1 ∉ ch := fun z => (hch p.1 z).2.2.2 p hp rfl
    exact ⟨keep p.1 p.2 ne nf nch e n, free p.1 p.2 nch e n, ne, nf, d⟩
/-- .. where the frame's own object is kept too -/
theorem Inv.un {t' : Nat} (I : Inv X pins σ H s) (u : Un X.fs [] H H' s.heap h') (hok : HOk X.prog X.w H' h') : Inv X pins σ H' { s with heap := h', toks := t' } := by
  obtain ⟨m, ⟨o, es, ep, ho, r⟩, _⟩ := id I.loc
  obtain ⟨sl, hL⟩ := u.any ho I.free (by simp)
  exact I.step (g' := s.gens) (d' := s.drawn) (ch := []) (fun _ z => nomatch z) (fun b o _ hb _ e n => u.keep b o e n hb (by simp)) (fun b o _ hb _ e n => u.slot b o e n hb (by simp)) (fun b o _ e n => u.free b o e n (by simp)) (fun b o _ e => u.there b o e (by simp)) u.tups u.frzs u.tbls (fun m' hm => by
    obtain ⟨o', es', ep', ho', r'⟩ := hm
    rw [ho] at ho'; cases ho'
    exact ⟨_, es', ep', hL, r'⟩) hok I.bare
/-- behind a call (or a comprehension's block): the slots of this frame may have changed too, the records at ch may have turned -/
theorem Inv.call {g' : Array GenState} {t' : Nat} {d' : Drawn} {ch : List Addr} (I : Inv X pins σ H s) (u : Un (frs X.stack) ch H H' s.heap h') (hok : HOk X.prog X.w H' h') (hg : AllBare g')
    (hch : ∀ b ∈ ch, (b ∈ X.ex ∨ X.s₀.heap.objs.size ≤ b) ∧ b ≠ X.env.locals ∧ (∀ x c, X.env.cells.lookup x = some c → c ≠ b) ∧ ∀ p ∈ X.pn ++ pins, p.1 ≠ b) :
    Inv X pins σ H' { s with heap := h', gens := g', drawn := d', toks := t' } := by
  obtain ⟨m, ⟨o, es, ep, ho, r⟩, _⟩ := id I.loc
  obtain ⟨sl, hL⟩ := u.any ho I.free fun z => (hch _ z).2.1 rfl
  exact I.step (ch := ch) hch (fun b o hL hb hc e n => u.keep b o e n (fun z => (List.mem_cons.mp (I.stkSub b z)).elim hL hb) hc) (fun b o _ _ hc e n => u.any e n hc) (fun b o hc e n => u.free b o e n hc) (fun b o hc e => u.there b o e hc) u.tups u.frzs u.tbls (fun m' hm => by
    obtain ⟨o', es', ep', ho', r'⟩ := hm
    rw [ho] at ho'; cases ho'
    exact ⟨_, es', ep', hL, r'⟩) hok hg
/-- an untracked record of ours (an iterator) has turned -/
theorem Inv.turned {t' : Nat} {it : Addr} (I : Inv X pins σ H s) (k : ∀ b o, b ≠ it → s.heap.get? b = some o → h'.get? b = some o) (hn : H it = none) (hL : it ≠ X.env.locals)
    (h1 : it ∈ X.ex ∨ X.s₀.heap.objs.size ≤ it) (h2 : ∀ x c, X.env.cells.lookup x = some c → c ≠ it) (h3 : ∀ p ∈ X.pn ++ pins, p.1 ≠ it) : Inv X pins σ H { s with heap := h', toks := t' } := by
  have nit : ∀ b u, H b = some u → b ≠ it := fun b u e z => by rw [z, hn] at e; cases e
  refine I.step (g' := s.gens) (d' := s.drawn) (ch := [it]) (fun b hb => ?_) (fun b o _ _ hc e _ => k b o (fun z => hc (by simp [z])) e) (fun b o _ _ hc e _ => ⟨o.slots, k b o (fun z => hc (by simp [z])) e⟩) (fun _ _ _ _ n => n)
    (fun b o hc e => ⟨o, k b o (fun z => hc (by simp [z])) e⟩) (fun _ _ e => e) (fun _ _ _ e => e) (fun b ps e => ⟨#[], by rw [e]; simp⟩) (fun m hm => ?_) (fun b u e => ?_) I.bare
  · have e : b = it := by simpa using hb
    subst e
    exact ⟨h1, hL, h2, h3⟩
  · obtain ⟨o, es, ep, ho, r⟩ := hm
    exact ⟨o, es, ep, k _ o (Ne.symm hL) ho, r⟩
  · refine (I.hok b u e).stay (fun c v hc q => k c v ?_ q) (fun _ q => q) fun _ _ q => q
    rcases hc with z | z
    · rw [z]; exact nit b u e
    · exact nit c _ z
theorem Inv.tok (I : Inv X pins σ H s) (t : Nat) : Inv X pins σ H { s with toks := t } := I.un (h' := s.heap) (t' := t) Un.refl I.hok
/-- all objects kept -/
theorem Inv.kept {t' : Nat} (I : Inv X pins σ H s) (k : ∀ b u, s.heap.get? b = some u → h'.get? b = some u) : Inv X pins σ H { s with heap := h', toks := t' } := I.un (Un.kept k) (I.hok.kept k)
/-- a new object laid and tracked -/
theorem Inv.laid {a : Addr} {o : HO} {t' : Nat} (I : Inv X pins σ H s) (k : ∀ b u, s.heap.get? b = some u → h'.get? b = some u) (hp : s.heap.objs.size ≤ a) (new : ObjOk X.prog X.w (upd H a o) h' a o) :
    Inv X pins σ (upd H a o) { s with heap := h', toks := t' } := I.un (Un.laid k hp (I.hok.fresh hp)) (I.hok.laid k hp new)
/-- an object written -/
theorem Inv.write {x e : Addr} {o : HO} {t' : Nat} (I : Inv X pins σ H s) (mu : Mut (H x)) (he : e = x ∨ H e = some (.own x)) (k : ∀ b u, b ≠ e → s.heap.get? b = some u → h'.get? b = some u) (heo : ∃ u, h'.get? e = some u)
    (new : ObjOk X.prog X.w (upd H x o) h' x o) : Inv X pins σ (upd H x o) { s with heap := h', toks := t' } := I.un (Un.write mu he k heo) (I.hok.write mu he k heo new)
theorem Inv.pins_of {pins' : List (Addr × Obj)} (I : Inv X pins σ H s) (h : ∀ p ∈ pins', s.heap.get? p.1 = some p.2 ∧ H p.1 = none ∧ p.1 ≠ X.env.locals ∧ p.1 ∉ X.fs ∧ ∀ v, p.2.data ≠ .cell v) : Inv X pins' σ H s :=
  ⟨I.ok, I.os, I.bare, I.base, I.loc, I.cell, I.free, I.freeC, fun p hp => (List.mem_append.mp hp).elim (fun z => I.pin p (List.mem_append_left _ z)) (h p), I.hok, I.len⟩

theorem nodup_ix {N : List Str} (hN : N.Nodup) {i j : Nat} {x : Str} (a : N[i]? = some x) (b : N[j]? = some x) : i = j := by
  obtain ⟨h1, e1⟩ := List.getElem?_eq_some_iff.mp a
  obtain ⟨h2, e2⟩ := List.getElem?_eq_some_iff.mp b
  exact (List.getElem_inj hN).mp (e1.trans e2.symm)

/-- a name is stored; what changed -/
theorem store_ok2 {M : Model} {A : Around} {E : Value → Shared → Prop} {i : Nat} {x : Str} {v : V} {u : Value} {Q : Unit → Shared → Prop} (I : Inv X pins σ H s) (hN : X.N.Nodup) (hi : X.N[i]? = some x) (hx : Loc X.env.scope x) (r : RelV v u)
    (h : ∀ s', Inv X pins (σ.set i (some v)) H s' → (∃ a, Heap.SameBut a s.heap s'.heap ∧ (a = X.env.locals ∨ X.env.cells.lookup x = some a)) → Q () s') (hf : X.fn x = true ∨ X.env.scope.names.lookup x = some .local := by first | exact .inl rfl | exact .inr rfl | assumption) : wpAny M A (storeName X.env x u) Q E s := by
  obtain ⟨m, hn, hl⟩ := id I.loc
  have hcls : (X.env.scope.kind == .class || (X.env.scope.kind == .module && X.env.locals != X.env.globals)) = false := by rw [I.ok.kind]; rfl
  have hiσ : i < σ.length := by rw [I.len]; exact (List.getElem?_eq_some_iff.mp hi).1
  have cne := I.cne
  have tracked : ∀ {a : Addr} {h' : Heap}, (∃ o, s.heap.get? a = some o ∧ H a = none) → Heap.SameBut a s.heap h' → HOk X.prog X.w H h' := fun {a h'} ha hs b ob e => by
    obtain ⟨_, _, hfree⟩ := ha
    refine (I.hok b ob e).stay (fun c w' hc q => (hs.2 c ?_).trans q) (fun _ q => q) fun _ _ q => q
    rintro rfl
    rcases hc with rfl | hc
    · rw [hfree] at e; cases e
    · rw [hfree] at hc; cases hc
  rcases hx with hk | hk
  · refine wpAny_storeName_local hk hn (fun h' hn' hs => ?_) hcls
    obtain ⟨oL, _, _, hoL, _⟩ := id hn
    refine h _ ⟨I.ok, I.os, I.bare, ⟨fun b o e n hb hx => ?_, fun b o e n hb hx => ?_, I.base.free, fun b o e hx => ?_, I.base.tups, I.base.frzs, I.base.tbls⟩, ⟨_, hn', fun j y v' e1 e2 e3 => ?_⟩, fun y c e => ?_, I.free, I.freeC, fun p hp => ?_, tracked ⟨oL, hoL, I.free⟩ hs, by simpa using I.len⟩ ⟨_, hs, .inl rfl⟩
    · exact (hs.2 b (Nat.ne_of_lt (Nat.lt_of_lt_of_le (Heap.lt_size e) I.ok.above))).trans (I.base.keep b o e n hb hx)
    · obtain ⟨sl, e1⟩ := I.base.slot b o e n hb hx
      exact ⟨sl, (hs.2 b (Nat.ne_of_lt (Nat.lt_of_lt_of_le (Heap.lt_size e) I.ok.above))).trans e1⟩
    · obtain ⟨o', e1⟩ := I.base.there b o e hx
      exact ⟨o', (hs.2 b (Nat.ne_of_lt (Nat.lt_of_lt_of_le (Heap.lt_size e) I.ok.above))).trans e1⟩
    · by_cases hj : j = i
      · subst hj
        rw [hi] at e1; cases e1
        rw [List.getElem?_set_self hiσ] at e2
        cases e2
        exact ⟨u, r, .inl ⟨hk, by simp⟩⟩
      · rw [List.getElem?_set_ne (Ne.symm hj)] at e2
        obtain ⟨u', r', q⟩ := hl j y v' e1 e2 e3
        refine ⟨u', r', ?_⟩
        rcases q with ⟨k, e⟩ | ⟨k, c, e, z⟩
        · refine .inl ⟨k, ?_⟩
          have : y ≠ x := fun e => hj (nodup_ix hN e1 (e ▸ hi))
          simp [this, e]
        · exact .inr ⟨k, c, e, z.sameBut hs (cne y c e)⟩
    · obtain ⟨w', z⟩ := I.cell y c e
      exact ⟨w', z.sameBut hs (cne y c e)⟩
    · obtain ⟨e, n, ne, nf, d⟩ := I.pin p hp
      exact ⟨(hs.2 p.1 ne).trans e, n, ne, nf, d⟩
  · have hfn : X.fn x = true := by
      rcases hf with z | z
      · exact z
      · rw [z] at hk; cases hk
    obtain ⟨c, hc⟩ := I.ok.has x (.inl hk)
    obtain ⟨w', z⟩ := I.cell x c hc
    refine wpAny_storeName_cell I.ok.kind hk hc z (fun h' hc' hs => ?_)
    obtain ⟨oc, hoc, hocd⟩ := id z
    refine h { s with heap := h' } ⟨I.ok, I.os, I.bare, ⟨fun b o e n hb hx => ?_, fun b o e n hb hx => ?_, I.base.free, fun b o e hx => ?_, I.base.tups, I.base.frzs, I.base.tbls⟩, ⟨m, hn.sameBut hs (Ne.symm (cne x c hc)), fun j y v' e1 e2 e3 => ?_⟩, fun y c' e => ?_, I.free, I.freeC, fun p hp => ?_, tracked ⟨oc, hoc, I.freeC x c hc⟩ hs, by simpa using I.len⟩ ⟨c, hs, .inr hc⟩
    · exact (hs.2 b (Nat.ne_of_lt (Nat.lt_of_lt_of_le (Heap.lt_size e) (I.ok.cab x c hfn hc)))).trans (I.base.keep b o e n hb hx)
    · obtain ⟨sl, e1⟩ := I.base.slot b o e n hb hx
      exact ⟨sl, (hs.2 b (Nat.ne_of_lt (Nat.lt_of_lt_of_le (Heap.lt_size e) (I.ok.cab x c hfn hc)))).trans e1⟩
    · obtain ⟨o', e1⟩ := I.base.there b o e hx
      exact ⟨o', (hs.2 b (Nat.ne_of_lt (Nat.lt_of_lt_of_le (Heap.lt_size e) (I.ok.cab x c hfn hc)))).trans e1⟩
    · by_cases hj : j = i
      · subst hj
        rw [hi] at e1; cases e1
        rw [List.getElem?_set_self hiσ] at e2
        cases e2
        exact ⟨u, r, .inr ⟨.inl hk, c, hc, hc'⟩⟩
      · rw [List.getElem?_set_ne (Ne.symm hj)] at e2
        obtain ⟨u', r', q⟩ := hl j y v' e1 e2 e3
        refine ⟨u', r', ?_⟩
        rcases q with q | ⟨k, c', e, z'⟩
        · exact .inl q
        · refine .inr ⟨k, c', e, z'.sameBut hs ?_⟩
          rintro rfl
          exact hj (nodup_ix hN e1 (I.ok.inj _ _ _ e hc ▸ hi))
    · by_cases hcc : c' = c
      · subst hcc; exact ⟨_, hc'⟩
      · obtain ⟨w2, z2⟩ := I.cell y c' e
        exact ⟨w2, z2.sameBut hs hcc⟩
    · obtain ⟨e, n, ne, nf, d⟩ := I.pin p hp
      refine ⟨(hs.2 p.1 ?_).trans e, n, ne, nf, d⟩
      intro q
      rw [q, hoc] at e
      have q' : oc = p.2 := Option.some.inj e
      exact d w' (by rw [← q']; exact hocd)
theorem store_ok {M : Model} {A : Around} {E : Value → Shared → Prop} {i : Nat} {x : Str} {v : V} {u : Value} {Q : Unit → Shared → Prop} (I : Inv X pins σ H s) (hN : X.N.Nodup) (hi : X.N[i]? = some x) (hx : Loc X.env.scope x) (r : RelV v u)
    (h : ∀ s', Inv X pins (σ.set i (some v)) H s' → Q () s') (hf : X.fn x = true ∨ X.env.scope.names.lookup x = some .local := by first | exact .inl rfl | exact .inr rfl | assumption) : wpAny M A (storeName X.env x u) Q E s :=
  store_ok2 I hN hi hx r (fun s' I' _ => h s' I') hf
/-- behind a call or a block, the state as it is -/
theorem Inv.call' {s' : Shared} {ch : List Addr} (I : Inv X pins σ H s) (ho : s'.os = s.os) (u : Un (frs X.stack) ch H H' s.heap s'.heap) (hok : HOk X.prog X.w H' s'.heap) (hg : AllBare s'.gens)
    (hch : ∀ b ∈ ch, (b ∈ X.ex ∨ X.s₀.heap.objs.size ≤ b) ∧ b ≠ X.env.locals ∧ (∀ x c, X.env.cells.lookup x = some c → c ≠ b) ∧ ∀ p ∈ X.pn ++ pins, p.1 ≠ b) : Inv X pins σ H' s' := by
  obtain ⟨h', g', d', t', o'⟩ := s'
  have e : o' = s.os := ho
  subst e
  exact I.call (g' := g') (t' := t') (d' := d') u hok hg hch
end

/-! ### the judgements -/
/-- an exception: its class, its own dict's address (where it has one), the abstract heap behind it -/
abbrev XK := Value → Option Addr → Hp → Prop
abbrev St := List (Option V)
abbrev VK := V → Hp → Prop
/-- an expression's reading; a test's; an argument list's -/
abbrev TE := St → Hp → VK → Prop
abbrev TT := St → Hp → (Bool → Hp → Prop) → Prop
abbrev TA := St → Hp → (List V → Hp → Prop) → Prop
/-- what is wanted behind a statement -/
structure Ends where
  nx : St → Hp → Prop
  rt : VK
  bk : St → Hp → Prop := fun _ _ => False
  ct : St → Hp → Prop := fun _ _ => False
abbrev TS := Ends → St → Hp → Prop

def EP (X : Cx) (pins : List (Addr × Obj)) (σ : St) (Q : VK) (u : Value) (s' : Shared) : Prop := ∃ v H', Inv X pins σ H' s' ∧ RelV v u ∧ Q v H'
def TP (X : Cx) (pins : List (Addr × Obj)) (σ : St) (Q : Bool → Hp → Prop) (b : Bool) (s' : Shared) : Prop := ∃ H', Inv X pins σ H' s' ∧ Q b H'
def AP (X : Cx) (pins : List (Addr × Obj)) (σ : St) (Q : List V → Hp → Prop) (us : List Value) (s' : Shared) : Prop := ∃ vs H', Inv X pins σ H' s' ∧ Vals vs us ∧ Q vs H'
def SP (X : Cx) (pins : List (Addr × Obj)) (D : Ends) (f : Flow) (s' : Shared) : Prop :=
  match f with
  | .next => ∃ σ' H', Inv X pins σ' H' s' ∧ D.nx σ' H'
  | .brk => ∃ σ' H', Inv X pins σ' H' s' ∧ D.bk σ' H'
  | .cont => ∃ σ' H', Inv X pins σ' H' s' ∧ D.ct σ' H'
  | .ret u => ∃ v σ' H', Inv X pins σ' H' s' ∧ RelV v u ∧ D.rt v H'

def PE (X : Cx) (e : Expr) (t : TE) : Prop :=
  ∀ (pins : List (Addr × Obj)) (s : Shared) (σ : St) (H : Hp) (Q : VK), Inv X pins σ H s → t σ H Q → wpAny (model X.prog X.w) X.A (eval e X.env) (EP X pins σ Q) X.xe s
def PT (X : Cx) (e : Expr) (t : TT) : Prop :=
  ∀ (pins : List (Addr × Obj)) (s : Shared) (σ : St) (H : Hp) (Q : Bool → Hp → Prop), Inv X pins σ H s → t σ H Q → wpAny (model X.prog X.w) X.A (isTrue e X.env (eval e X.env)) (TP X pins σ Q) X.xe s
/-- a test whatever its 'whole' is (and, or) -/
def PW (X : Cx) (e : Expr) (t : TT) : Prop :=
  ∀ (whole : Sem Value) (pins : List (Addr × Obj)) (s : Shared) (σ : St) (H : Hp) (Q : Bool → Hp → Prop), Inv X pins σ H s → t σ H Q → wpAny (model X.prog X.w) X.A (isTrue e X.env whole) (TP X pins σ Q) X.xe s
theorem PW.pt {X : Cx} {e : Expr} {t : TT} (h : PW X e t) : PT X e t := h _
/-- an argument list (no star), from the left -/
def PA (X : Cx) (es : List Expr) (t : TA) : Prop :=
  ∀ (pos : Pos) (pins : List (Addr × Obj)) (s : Shared) (σ : St) (H : Hp) (Q : List V → Hp → Prop), Inv X pins σ H s → t σ H Q → wpAny (model X.prog X.w) X.A (spliced (backTo pos (starEach es X.env))) (AP X pins σ Q) X.xe s
def PS (X : Cx) (st : Stmt) (t : TS) : Prop :=
  ∀ (pins : List (Addr × Obj)) (s : Shared) (σ : St) (H : Hp) (D : Ends), Inv X pins σ H s → t D σ H → wpAny (model X.prog X.w) X.A (exec st X.env) (SP X pins D) X.xe s
def PSs (X : Cx) (st : List Stmt) (t : TS) : Prop :=
  ∀ (pins : List (Addr × Obj)) (s : Shared) (σ : St) (H : Hp) (D : Ends), Inv X pins σ H s → t D σ H → wpAny (model X.prog X.w) X.A (execs st X.env) (SP X pins D) X.xe s
/-- weaken the end -/
theorem thn {α : Type} {t : Sem α} {Q Q' : α → Shared → Prop} {M : Model} {A : Around} {E : Value → Shared → Prop} {s : Shared} (h : wpAny M A t Q E s) (hQ : ∀ a s, Q a s → Q' a s) : wpAny M A t Q' E s := wpAny_mono h hQ fun _ _ x => x
end L2

namespace L2
open PySem PySem.Spec PyProof.Rows
section
variable {X : Cx}

/-! ### names and constants -/
def tVar (i : Nat) : TE := fun σ H Q => ∃ v, σ[i]? = some (some v) ∧ Q v H
def tC (v : V) : TE := fun _ H Q => Q v H
theorem pe_var {i : Nat} {x : Str} {pos : Pos} (hN : X.N[i]? = some x) (hv : Vis X.env.scope x) (hd : (x == ("__debug__" : Str)) = false := by decide) (hcd : (x == ("__classdict__" : Str)) = false := by decide) : PE X (.Name x pos) (tVar i) := by
  intro pins s σ H Q I h
  obtain ⟨v, e, h⟩ := h
  obtain ⟨m, hn, hl⟩ := I.loc
  obtain ⟨u, r, l⟩ := hl i x v hN e hv
  have fin : EP X pins σ Q u s := ⟨v, H, I, r, h⟩
  rcases l with ⟨hk, hm⟩ | ⟨hk, c, hc, hcell⟩
  · exact wpAny_Name (wpAny_loadName_local I.ok.kind hk hn hm fin) hd
  · rcases hk with hk | hk
    · exact wpAny_Name (wpAny_loadName_cell I.ok.kind hk hc hcell fin) hd
    · exact wpAny_Name (wpAny_loadName_free I.ok.kind hk hc hcell fin hcd) hd
theorem pe_int {i j pos} : PE X (.Constant (.int i) j pos) (tC (.int i)) := fun _ _ _ H _ I h => wpAny_Constant_int ⟨.int i, H, I.tok _, ⟨_, rfl⟩, h⟩
theorem pe_bl {b j pos} : PE X (.Constant (.bool b) j pos) (tC (.bl b)) := fun _ _ _ H _ I h => Constant_bool ⟨.bl b, H, I, rfl, h⟩
theorem pe_str {x j pos} : PE X (.Constant (.str x) j pos) (tC (.str x)) := fun _ _ _ H _ I h => Calls.Constant_str ⟨.str x, H, I.tok _, ⟨_, rfl⟩, h⟩

/-- a global name of the def -/
def Gl (X : Cx) (x : Str) : Prop := X.env.kindOf x = some .globalImplicit
theorem ld_glob {E : Value → Shared → Prop} {pins : List (Addr × Obj)} {s : Shared} {σ : St} {H : Hp} {x : Str} {u : Value} {pos : Pos} {Q : Value → Shared → Prop} (I : Inv X pins σ H s) (hg : Gl X x) (hm : X.mg x = some u) (h : Q u s)
    (hd : (x == ("__debug__" : Str)) = false := by decide) : wpAny (model X.prog X.w) X.A (eval (.Name x pos) X.env) Q E s :=
  Calls.Name_function_global I.ok.kind hg (Calls.loadGlobal_global (by rw [I.ok.glob]; exact I.mod.glob.keeps I.bk) hm h) hd
theorem ld_blt {E : Value → Shared → Prop} {pins : List (Addr × Obj)} {s : Shared} {σ : St} {H : Hp} {x : Str} {u : Value} {pos : Pos} {Q : Value → Shared → Prop} (I : Inv X pins σ H s) (hg : Gl X x) (hm : X.mg x = none) (hv : bootBuiltins x = some u) (h : Q u s)
    (hn : x ≠ "__name__" := by decide) (hd : (x == ("__debug__" : Str)) = false := by decide) : wpAny (model X.prog X.w) X.A (eval (.Name x pos) X.env) Q E s := by
  obtain ⟨mb, h1, h2⟩ := I.mod.blt
  exact Calls.Name_function_global I.ok.kind hg (Calls.loadGlobal_builtin (by rw [I.ok.glob]; exact I.mod.glob.keeps I.bk) hm (by rw [I.ok.blt]; exact h1.keeps I.bk) ((h2 x hn).trans hv) h) hd
theorem pe_bltn {x : Str} {v : V} {u : Value} {pos : Pos} (hg : Gl X x) (hm : X.mg x = none) (hv : bootBuiltins x = some u) (r : RelV v u) (hn : x ≠ "__name__" := by decide) (hd : (x == ("__debug__" : Str)) = false := by decide) : PE X (.Name x pos) (tC v) :=
  fun _ _ _ H _ I h => ld_blt I hg hm hv ⟨v, H, I, r, h⟩ hn hd

/-! ### arithmetic -/
/-- two ints -/
def t2I (ta tb : TE) (k : Int → Int → Hp → Prop) : St → Hp → Prop := fun σ H => ta σ H fun x H1 => tb σ H1 fun y H2 => ∃ i j, x = .int i ∧ y = .int j ∧ k i j H2
def tAdd (ta tb : TE) : TE := fun σ H Q => t2I ta tb (fun i j H2 => Q (.int (i + j)) H2) σ H
def tSub (ta tb : TE) : TE := fun σ H Q => t2I ta tb (fun i j H2 => Q (.int (i - j)) H2) σ H
/-- the left factor below 2^64 -/
def tMul (ta tb : TE) : TE := fun σ H Q => t2I ta tb (fun i j H2 => (-(2 ^ 64) < i ∧ i < 2 ^ 64) ∧ Q (.int (i * j)) H2) σ H
variable {a b : Expr} {ta tb : TE} {pos : Pos}
/-! ### comparisons -/
def PC (X : Cx) (op : CmpOp) (a b : Expr) (t : TE) : Prop :=
  ∀ (pins : List (Addr × Obj)) (s : Shared) (σ : St) (H : Hp) (Q : VK), Inv X pins σ H s → t σ H Q →
    wpAny (model X.prog X.w) X.A (eval a X.env) (fun v s₁ => wpAny (model X.prog X.w) X.A (eval b X.env) (fun u s₂ => wpAny (model X.prog X.w) X.A (compareOp op v u) (EP X pins σ Q) X.xe s₂) X.xe s₁) X.xe s
theorem nobehind (b : Expr) {op : CmpOp} (h : op ≠ .In) (h2 : op ≠ .NotIn) : behindInMarks op b = false := by
  have e1 : (op == CmpOp.In) = false := by cases op <;> first | rfl | exact absurd rfl h
  have e2 : (op == CmpOp.NotIn) = false := by cases op <;> first | rfl | exact absurd rfl h2
  cases b <;> simp [behindInMarks, e1, e2]
def tCmp (p : Int → Int → Bool) (ta tb : TE) : TE := fun σ H Q => t2I ta tb (fun i j H2 => Q (.bl (p i j)) H2) σ H
abbrev tLt : TE → TE → TE := tCmp fun i j => decide (i < j)
abbrev tLe : TE → TE → TE := tCmp fun i j => decide (i ≤ j)
abbrev tGt : TE → TE → TE := tCmp fun i j => decide (j < i)
abbrev tGe : TE → TE → TE := tCmp fun i j => decide (j ≤ i)
abbrev tEqI : TE → TE → TE := tCmp fun i j => decide (i = j)
abbrev tNeI : TE → TE → TE := tCmp fun i j => !decide (i = j)
/-- is None -/
def tIsN (ta : TE) : TE := fun σ H Q => ta σ H fun x H1 => Q (.bl (decide (x = .non))) H1
def tNotN (ta : TE) : TE := fun σ H Q => ta σ H fun x H1 => Q (.bl (!decide (x = .non))) H1
/-- a comparison as a value, as a test -/
def tB (t : TE) : TT := fun σ H Q => t σ H fun x H1 => ∃ c, x = .bl c ∧ Q c H1
theorem pt_cmp {op : CmpOp} {t : TE} (h : PC X op a b t) (h1 : behindInMarks op b = false := by first | exact nobehind _ (by decide) (by decide) | rfl) : PT X (.Compare a [op] [b] pos) (tB t) := by
  intro pins s σ H Q I hw
  refine wpAny_isTrue_Compare1 (thn (h pins s σ H _ I hw) fun v s1 h1 => thn h1 fun u s2 h2 => thn h2 fun c s3 ⟨x, H1, I1, r1, q1⟩ => ?_) h1
  obtain ⟨d, rfl, q⟩ := q1
  cases r1
  exact wpAny_truthy_bool ⟨H1, I1, q⟩
/-- an expression whose value is a bool, as a test -/
theorem pt_val {e : Expr} {t : TE} (h : PE X e t) (he : ∀ whole, isTrue e X.env whole = (do let v ← whole; standAt e.pos; holding [v] (truthy v)) := by intro _; rfl) : PT X e (tB t) := by
  intro pins s σ H Q I hw
  refine isTrue_plain (thn (h pins s σ H _ I hw) fun v s1 ⟨x, H1, I1, r1, q1⟩ => ?_) (he _)
  obtain ⟨d, rfl, q⟩ := q1
  cases r1
  exact wpAny_truthy_bool ⟨H1, I1, q⟩

/-! ### and, or, not -/
variable {tA tB' : TT} {rest : List Expr}
def tAnd (t u : TT) : TT := fun σ H Q => t σ H fun c H1 => if c = true then u σ H1 Q else Q false H1
def tOr (t u : TT) : TT := fun σ H Q => t σ H fun c H1 => if c = true then Q true H1 else u σ H1 Q
def tNot (t : TT) : TT := fun σ H Q => t σ H fun c H1 => Q (!c) H1
theorem pw_and1 (ha : PT X a tA) : PW X (.BoolOp .And [a] pos) tA := by
  intro wh pins s σ H Q I h
  refine isTrue_and (thn (ha pins s σ H Q I h) fun c s1 e => ?_)
  cases c with
  | true => exact isTrue_and_nil e
  | false => exact e
theorem pw_or1 (ha : PT X a tA) : PW X (.BoolOp .Or [a] pos) tA := by
  intro wh pins s σ H Q I h
  refine isTrue_or (thn (ha pins s σ H Q I h) fun c s1 e => ?_)
  cases c with
  | false => exact isTrue_or_nil e
  | true => exact e
theorem pw_and (ha : PT X a tA) (hb : PW X (.BoolOp .And (b :: rest) pos) tB') : PW X (.BoolOp .And (a :: b :: rest) pos) (tAnd tA tB') := by
  intro wh pins s σ H Q I h
  refine isTrue_and (thn (ha pins s σ H _ I h) fun c s1 ⟨H1, I1, q1⟩ => ?_)
  cases c with
  | true => exact hb wh pins s1 σ H1 Q I1 q1
  | false => exact ⟨H1, I1, q1⟩
theorem pw_or (ha : PT X a tA) (hb : PW X (.BoolOp .Or (b :: rest) pos) tB') : PW X (.BoolOp .Or (a :: b :: rest) pos) (tOr tA tB') := by
  intro wh pins s σ H Q I h
  refine isTrue_or (thn (ha pins s σ H _ I h) fun c s1 ⟨H1, I1, q1⟩ => ?_)
  cases c with
  | true => exact ⟨H1, I1, q1⟩
  | false => exact hb wh pins s1 σ H1 Q I1 q1
theorem pt_not (ha : PT X a tA) : PT X (.UnaryOp .Not a pos) (tNot tA) := by
  intro pins s σ H Q I h
  exact isTrue_not (ha pins s σ H (fun c H1 => Q (!c) H1) I h)
/-- .. as values (bools) -/
def tAndV (ta tb : TE) : TE := fun σ H Q => ta σ H fun x H1 => ∃ c, x = .bl c ∧ if c = true then tb σ H1 Q else Q (.bl false) H1
def tOrV (ta tb : TE) : TE := fun σ H Q => ta σ H fun x H1 => ∃ c, x = .bl c ∧ if c = true then Q (.bl true) H1 else tb σ H1 Q
def tNotV (ta : TE) : TE := fun σ H Q => ta σ H fun x H1 => ∃ c, x = .bl c ∧ Q (.bl (!c)) H1
theorem pe_one {op} {t : TE} (h : PE X a t) : PE X (.BoolOp op [a] pos) t := fun pins s σ H Q I hw => BoolOp_one (h pins s σ H Q I hw)
theorem pe_and (ha : PE X a ta) (hb : PE X (.BoolOp .And (b :: rest) pos) tb) : PE X (.BoolOp .And (a :: b :: rest) pos) (tAndV ta tb) := by
  intro pins s σ H Q I h
  refine BoolOp_and (thn (ha pins s σ H _ I h) fun v s1 ⟨x, H1, I1, r1, q1⟩ => ?_)
  obtain ⟨c, rfl, q1⟩ := q1
  cases r1
  refine wpAny_truthy_bool ?_
  cases c with
  | true => exact hb pins s1 σ H1 Q I1 q1
  | false => exact ⟨.bl false, H1, I1, rfl, q1⟩
theorem pe_not (ha : PE X a ta) : PE X (.UnaryOp .Not a pos) (tNotV ta) := by
  intro pins s σ H Q I h
  refine UnaryOp_ (thn (ha pins s σ H _ I h) fun v s1 ⟨x, H1, I1, r1, q1⟩ => ?_)
  obtain ⟨c, rfl, q1⟩ := q1
  cases r1
  exact not_of (wpAny_truthy_bool ⟨.bl (!c), H1, I1, rfl, q1⟩)
/-- a if t else b -/
def tIf (t : TT) (ta tb : TE) : TE := fun σ H Q => t σ H fun c H1 => if c = true then ta σ H1 Q else tb σ H1 Q
theorem pe_ifExp {c : Expr} (hc : PT X c tA) (ha : PE X a ta) (hb : PE X b tb) : PE X (.IfExp c a b pos) (tIf tA ta tb) := by
  intro pins s σ H Q I h
  refine wpAny_IfExp (thn (hc pins s σ H _ I h) fun d s1 ⟨H1, I1, q1⟩ => ?_)
  cases d with
  | true => exact ha pins s1 σ H1 Q I1 q1
  | false => exact hb pins s1 σ H1 Q I1 q1
end
end L2

namespace L2
open PySem PySem.Spec PyProof.Rows

/-! ### a list, a tuple that is read: tracked, frozen, or an object of the module -/
def SqL (K : PySem.W.Frag) (H : Hp) (a : Addr) (xs : List V) : Prop :=
  Rd H a (.lst xs) ∨
    ∃ (o : Obj) (its : Array Value) (n : Nat), K.lookup a = some o ∧ o.cls = .type "list" ∧ o.dict = none ∧ o.data = .seq its n ∧ its.size ≤ sizeLine ∧ Vals xs its.toList
def SqT (K : PySem.W.Frag) (H : Hp) (a : Addr) (xs : List V) : Prop :=
  Rd H a (.tup xs) ∨
    ∃ (o : Obj) (its : Array Value) (n : Nat), K.lookup a = some o ∧ o.cls = .type "tuple" ∧ o.data = .seq its n ∧ its.size ≤ sizeLine ∧ Vals xs its.toList
def absV : Value → Option V
  | .none => some .non
  | .bool b => some (.bl b)
  | .int i _ => some (.int i)
  | .str x _ => some (.str x)
  | .bytes b _ => some (.byt b)
  | .float b _ => some (.flt b)
  | .ref a => some (.ref a)
  | .type n => some (.ty n)
  | _ => none
theorem RelV.abs {x : V} {u : Value} (r : RelV x u) : absV u = some x := by
  cases x with
  | non => cases r; rfl
  | bl _ => cases r; rfl
  | int _ => obtain ⟨t, rfl⟩ := r; rfl
  | str _ => obtain ⟨t, rfl⟩ := r; rfl
  | byt _ => obtain ⟨t, rfl⟩ := r; rfl
  | flt _ => obtain ⟨t, rfl⟩ := r; rfl
  | ref _ => cases r; rfl
  | ty _ => cases r; rfl
theorem RelV.inj {x y : V} {u : Value} (r : RelV x u) (q : RelV y u) : x = y := Option.some.inj (r.abs.symm.trans q.abs)
theorem Vals.inj : ∀ {xs ys : List V} {us : List Value}, Vals xs us → Vals ys us → xs = ys
  | _, _, _, .nil, .nil => rfl
  | _, _, _, .cons r t, .cons r' t' => by rw [r.inj r', Vals.inj t t']
section
variable {X : Cx} {pins : List (Addr × Obj)} {σ : St} {H : Hp} {s : Shared} {a : Addr} {xs ys : List V}
theorem SqL.of {K : PySem.W.Frag} (h : H a = some (.lst xs)) : SqL K H a xs := .inl (.inl h)
theorem SqT.of {K : PySem.W.Frag} (h : H a = some (.tup xs)) : SqT K H a xs := .inl (.inl h)
theorem Inv.list (I : Inv X pins σ H s) (h : SqL X.K H a xs) : ∃ its : List Value, Vals xs its ∧ PlainL s.heap a its.toArray ∧ xs.length ≤ sizeLine := by
  rcases h with h | ⟨o, its, n, hk, hc, hd, hs, hz, r⟩
  · obtain ⟨z, its, n, r, e⟩ := h.ok I.hok
    exact ⟨its, r, ⟨_, n, e, rfl, rfl, rfl⟩, z⟩
  · refine ⟨its.toList, r, ⟨o, n, I.kIn a o hk, hc, hd, by simpa using hs⟩, ?_⟩
    have e := r.length
    simp only [Array.length_toList] at e
    omega
theorem Inv.tuple (I : Inv X pins σ H s) (h : SqT X.K H a xs) : ∃ its : List Value, Vals xs its ∧ IsTup s.heap a its.toArray ∧ xs.length ≤ sizeLine := by
  rcases h with h | ⟨o, its, n, hk, hc, hs, hz, r⟩
  · obtain ⟨z, its, r, p⟩ := h.ok I.hok
    exact ⟨its, r, p, z⟩
  · refine ⟨its.toList, r, ⟨o, I.kIn a o hk, hc, n, by simpa using hs⟩, ?_⟩
    have e := r.length
    simp only [Array.length_toList] at e
    omega
theorem Inv.list_inj (I : Inv X pins σ H s) (h : SqL X.K H a xs) (h' : SqL X.K H a ys) : xs = ys := by
  obtain ⟨its, r, ⟨o, n, e, _, _, d⟩, _⟩ := I.list h
  obtain ⟨its', r', ⟨o', n', e', _, _, d'⟩, _⟩ := I.list h'
  rw [e] at e'; cases e'
  rw [d] at d'
  injection d' with d1 _
  have : its = its' := by simpa using congrArg Array.toList d1
  subst this
  exact r.inj r'
end

/-! ### another wish about exceptions -/
abbrev Cx.wish (X : Cx) (E : Value → Shared → Prop) : Cx := { X with xe := E }
/-- no exception leaves -/
abbrev Cx.nox (X : Cx) : Cx := X.wish fun _ _ => False
theorem Cx.Ok.wish {X : Cx} (ok : X.Ok) (E : Value → Shared → Prop) : (X.wish E).Ok :=
  ⟨ok.mod, ok.kind, ok.glob, ok.blt, ok.above, ok.inj, ok.has, ok.cab, ok.hd, ok.frames, ok.stk, ok.exf, ok.bs, ok.bsz, ok.noex, ok.exfs, ok.funs, ok.frf⟩
theorem Cx.Ok.unwish {X : Cx} {E : Value → Shared → Prop} (ok : (X.wish E).Ok) : X.Ok :=
  ⟨ok.mod, ok.kind, ok.glob, ok.blt, ok.above, ok.inj, ok.has, ok.cab, ok.hd, ok.frames, ok.stk, ok.exf, ok.bs, ok.bsz, ok.noex, ok.exfs, ok.funs, ok.frf⟩
section
variable {X : Cx} {pins : List (Addr × Obj)} {σ : St} {H : Hp} {s : Shared} {E : Value → Shared → Prop}
theorem Inv.wish (I : Inv X pins σ H s) (E : Value → Shared → Prop) : Inv (X.wish E) pins σ H s := ⟨I.ok.wish E, I.os, I.bare, I.base, I.loc, I.cell, I.free, I.freeC, I.pin, I.hok, I.len⟩
theorem Inv.unwish (I : Inv (X.wish E) pins σ H s) : Inv X pins σ H s := ⟨I.ok.unwish, I.os, I.bare, I.base, I.loc, I.cell, I.free, I.freeC, I.pin, I.hok, I.len⟩
theorem SP.unwish {D : Ends} {f : Flow} {s' : Shared} (h : SP (X.wish E) pins D f s') : SP X pins D f s' := by
  cases f with
  | next => obtain ⟨σ', H', I, q⟩ := h; exact ⟨σ', H', I.unwish, q⟩
  | brk => obtain ⟨σ', H', I, q⟩ := h; exact ⟨σ', H', I.unwish, q⟩
  | cont => obtain ⟨σ', H', I, q⟩ := h; exact ⟨σ', H', I.unwish, q⟩
  | ret u => obtain ⟨v, σ', H', I, r, q⟩ := h; exact ⟨v, σ', H', I.unwish, r, q⟩
theorem PE.nox {e : Expr} {t : TE} (h : PE X.nox e t) : PE X e t := fun pins s σ H Q I hw =>
  wpAny_mono (h pins s σ H Q (I.wish _) hw) (fun _ _ ⟨v, H', I', r, q⟩ => ⟨v, H', I'.unwish, r, q⟩) fun _ _ z => False.elim z
theorem PT.nox {e : Expr} {t : TT} (h : PT X.nox e t) : PT X e t := fun pins s σ H Q I hw =>
  wpAny_mono (h pins s σ H Q (I.wish _) hw) (fun _ _ ⟨H', I', q⟩ => ⟨H', I'.unwish, q⟩) fun _ _ z => False.elim z
theorem PSs.nox {st : List Stmt} {t : TS} (h : PSs X.nox st t) : PSs X st t := fun pins s σ H D I hw =>
  wpAny_mono (h pins s σ H D (I.wish _) hw) (fun _ _ q => q.unwish) fun _ _ z => False.elim z
end

/-! ### blocks and small statements -/
section
variable {X : Cx} {st : Stmt} {rest : List Stmt} {t u : TS} {e : Expr} {te : TE} {pos : Pos}
def tNext : TS := fun D σ H => D.nx σ H
def tSeq (t u : TS) : TS := fun D σ H => t { D with nx := u D } σ H
theorem pss_nil : PSs X [] tNext := fun _ _ σ H _ I h => wpAny_execs_nil ⟨σ, H, I, h⟩
theorem pss_cons (h1 : PS X st t) (h2 : PSs X rest u) : PSs X (st :: rest) (tSeq t u) := by
  intro pins s σ H D I h
  refine wpAny_execs_cons (thn (h1 pins s σ H { D with nx := u D } I h) fun f s1 q => ?_)
  cases f with
  | next =>
    obtain ⟨σ', H', I', q⟩ := q
    exact h2 pins s1 σ' H' D I' q
  | ret v => exact q
  | brk => exact q
  | cont => exact q
theorem pss_one (h1 : PS X st t) : PSs X [st] t := by
  intro pins s σ H D I h
  refine wpAny_execs_cons (thn (h1 pins s σ H D I h) fun f s1 q => ?_)
  cases f with
  | next => exact wpAny_execs_nil q
  | ret v => exact q
  | brk => exact q
  | cont => exact q
def tBreak : TS := fun D σ H => D.bk σ H
def tCont : TS := fun D σ H => D.ct σ H
/-- in a def's body nothing is shown -/
theorem Inv.quiet {pins : List (Addr × Obj)} {σ : St} {H : Hp} {s : Shared} (I : Inv X pins σ H s) : interactive X.env = false := by simp [interactive, I.ok.kind]
/-- an expression whose value is dropped -/
def tDrop (te : TE) : TS := fun D σ H => te σ H fun _ H1 => D.nx σ H1
theorem ps_expr (he : PE X e te) (hs : swapsWith e none pos.line X.env = pure false := by rfl) : PS X (.Expr e pos) (tDrop te) := by
  intro pins s σ H D I h
  exact wpAny_Expr_any (thn (he pins s σ H _ I h) fun v s1 ⟨x, H1, I1, r1, q1⟩ => ⟨σ, H1, I1, q1⟩) I.quiet hs
def tRet (te : TE) : TS := fun D σ H => te σ H D.rt
theorem ps_ret (he : PE X e te) : PS X (.Return (some e) pos) (tRet te) := by
  intro pins s σ H D I h
  exact wpAny_Return_some (thn (he pins s σ H _ I h) fun v s1 ⟨x, H1, I1, r1, q1⟩ => ⟨x, σ, H1, I1, r1, q1⟩)
def tRetN : TS := fun D _ H => D.rt .non H
def tIfS (c : TT) (t u : TS) : TS := fun D σ H => c σ H fun b H1 => if b = true then t D σ H1 else u D σ H1
theorem ps_if {c : Expr} {a b : List Stmt} {tc : TT} (hc : PT X c tc) (ha : PSs X a t) (hb : PSs X b u) : PS X (.If c a b pos) (tIfS tc t u) := by
  intro pins s σ H D I h
  refine wpAny_If (thn (hc pins s σ H _ I h) fun d s1 ⟨H1, I1, q1⟩ => ?_)
  cases d with
  | true => exact ha pins s1 σ H1 D I1 q1
  | false => exact hb pins s1 σ H1 D I1 q1
/-- code that the proof never comes to -/
def tNever : TS := fun _ _ _ => False
theorem pss_never {sts : List Stmt} : PSs X sts tNever := fun _ _ _ _ _ _ h => h.elim
end

/-! ### targets -/
abbrev TG := V → St → Hp → (St → Hp → Prop) → Prop
abbrev TGs := List V → St → Hp → (St → Hp → Prop) → Prop
def PG (X : Cx) (target : Expr) (t : TG) : Prop :=
  ∀ (pins : List (Addr × Obj)) (s : Shared) (σ : St) (H : Hp) (v : V) (u : Value) (Q : St → Hp → Prop), Inv X pins σ H s → RelV v u → t v σ H Q →
    wpAny (model X.prog X.w) X.A (assign target X.env u) (fun _ s' => ∃ σ' H', Inv X pins σ' H' s' ∧ Q σ' H') X.xe s
/-- several targets, one after another -/
def PGs (X : Cx) (ts : List Expr) (t : TGs) : Prop :=
  ∀ (pins : List (Addr × Obj)) (s : Shared) (σ : St) (H : Hp) (vs : List V) (us : List Value) (Q : St → Hp → Prop), Inv X pins σ H s → Vals vs us → t vs σ H Q →
    wpAny (model X.prog X.w) X.A (assignInOrder ((assignEach ts X.env).map (·.2)) us) (fun _ s' => ∃ σ' H', Inv X pins σ' H' s' ∧ Q σ' H') X.xe s
/-- o[i] = v, by values -/
abbrev TSet := V → V → V → Hp → (Hp → Prop) → Prop
def PSet (X : Cx) (t : TSet) : Prop :=
  ∀ (pins : List (Addr × Obj)) (s : Shared) (σ : St) (H : Hp) (o i v : V) (ov iv u : Value) (Q : Hp → Prop), Inv X pins σ H s → RelV o ov → RelV i iv → RelV v u → t o i v H Q →
    wpAny (model X.prog X.w) X.A (setItem ov iv u) (fun _ s' => ∃ H', Inv X pins σ H' s' ∧ Q H') X.xe s
/-- a op= b, by values -/
abbrev TIp := V → V → Hp → VK → Prop
def PIp (X : Cx) (op : Operator) (t : TIp) : Prop :=
  ∀ (pins : List (Addr × Obj)) (s : Shared) (σ : St) (H : Hp) (x y : V) (v u : Value) (Q : VK), Inv X pins σ H s → RelV x v → RelV y u → t x y H Q →
    wpAny (model X.prog X.w) X.A (inplaceOp op v u) (EP X pins σ Q) X.xe s
section
variable {X : Cx} {pos : Pos}
def gName (i : Nat) : TG := fun v σ H Q => Q (σ.set i (some v)) H
theorem pg_name {i : Nat} {x : Str} (hN : X.N.Nodup) (hi : X.N[i]? = some x) (hx : Loc X.env.scope x) (hf : X.fn x = true ∨ X.env.scope.names.lookup x = some .local := by first | exact .inl rfl | exact .inr rfl | assumption) : PG X (.Name x pos) (gName i) := by
  intro pins s σ H v u Q I r h
  exact wpAny_assign_Name (store_ok I hN hi hx r (fun s' I' => ⟨_, H, I', h⟩) hf)
def gNil : TGs := fun vs σ H Q => vs = [] ∧ Q σ H
def gCons (t : TG) (u : TGs) : TGs := fun vs σ H Q => ∃ v r, vs = v :: r ∧ t v σ H fun σ' H' => u r σ' H' Q
theorem pgs_nil : PGs X [] gNil := by
  intro pins s σ H vs us Q I r h
  obtain ⟨e, h⟩ := h
  subst e
  cases r
  exact assignInOrder_nil ⟨σ, H, I, h⟩
theorem pgs_cons {e : Expr} {es : List Expr} {t : TG} {u : TGs} (h1 : PG X e t) (h2 : PGs X es u)
    (hs : (assignEach (e :: es) X.env).map (·.2) = assign e X.env :: (assignEach es X.env).map (·.2) := by rfl) : PGs X (e :: es) (gCons t u) := by
  intro pins s σ H vs us Q I r h
  obtain ⟨v, vr, e1, h⟩ := h
  subst e1
  cases r with
  | cons r rr =>
    rw [hs]
    refine assignInOrder_cons (thn (h1 pins s σ H _ _ _ I r h) fun _ s1 ⟨σ1, H1, I1, q1⟩ => ?_)
    exact h2 pins s1 σ1 H1 _ _ Q I1 rr q1
/-- (a, b, ..) = a tuple of that length -/
def gTup (K : PySem.W.Frag) (n : Nat) (t : TGs) : TG := fun v σ H Q => ∃ a xs, v = .ref a ∧ SqT K H a xs ∧ xs.length = n ∧ t xs σ H Q
theorem pg_tup {es : List Expr} {k : Nat} {t : TGs} {n : Nat} (hc : X.calm = true) (h : PGs X es t)
    (hn : (assignEach es X.env).length = n := by rfl) (hst : (assignEach es X.env).findIdx? (·.1) = none := by rfl) : PG X (.Tuple es k pos) (gTup X.K n t) := by
  intro pins s σ H v u Q I r hw
  obtain ⟨a, xs, e1, hq, hl, hw⟩ := hw
  subst e1
  cases r
  obtain ⟨its, rv, ht, hz⟩ := I.tuple hq
  refine assign_Tuple_tuple (I.ok.hd hc) ht (by simp [hn, ← hl, rv.length]) hst fun h' hx => ?_
  have I1 : Inv X pins σ H { s with heap := h' } := I.kept (t' := s.toks) fun b o e => hx b o (Nat.ne_of_lt (Heap.lt_size e)) e
  exact h pins _ σ H xs _ Q I1 (by simpa using rv) hw
/-- o[i] = .. -/
def gSub (to ti : TE) (t : TSet) : TG := fun v σ H Q => to σ H fun o H1 => ti σ H1 fun i H2 => t o i v H2 fun H3 => Q σ H3
/-- target = value -/
def tAsg (te : TE) (g : TG) : TS := fun D σ H => te σ H fun x H1 => g x σ H1 D.nx
/-- name = value -/
theorem ps_set {i : Nat} {x : Str} {e : Expr} {te : TE} {pos' : Pos} (hN : X.N.Nodup) (hi : X.N[i]? = some x) (hx : Loc X.env.scope x) (he : PE X e te) (hs : swapsWith e (some (.Name x pos')) pos.line X.env = pure false := by rfl) (hf : X.fn x = true ∨ X.env.scope.names.lookup x = some .local := by first | exact .inl rfl | exact .inr rfl | assumption) :
    PS X (.Assign [.Name x pos'] e pos) (tAsg te (gName i)) := by
  intro pins s σ H D I h
  refine wpAny_Assign_Name (thn (he pins s σ H _ I h) fun v s1 ⟨y, H1, I1, r1, q1⟩ => ?_) hs
  exact store_ok I1 hN hi hx r1 (fun s2 I2 => ⟨_, H1, I2, q1⟩) hf
/-- a, b = x, y with plain local names: stored from the right; the pair itself is not tracked (the opening rows as in PyProof/Rows/TupAssign.lean:23) -/
def tPar (i j : Nat) (ta : TA) : TS := fun D σ H => ta σ H fun vs H1 => ∃ v w, vs = [v, w] ∧ D.nx ((σ.set i (some v)).set j (some w)) H1
/-- name op= e -/
def tAug (i : Nat) (te : TE) (ti : TIp) : TS := fun D σ H => ∃ x, σ[i]? = some (some x) ∧ te σ H fun y H1 => ti x y H1 fun z H2 => D.nx (σ.set i (some z)) H2
/-- o[i] op= e -/
def tAugS (to ti te : TE) (tget : V → V → Hp → VK → Prop) (tip : TIp) (tset : TSet) : TS := fun D σ H => to σ H fun o H1 => ti σ H1 fun i H2 => tget o i H2 fun x H3 => te σ H3 fun y H4 => tip x y H4 fun z H5 => tset o i z H5 fun H6 => D.nx σ H6
/-- o[i], by values -/
def PGet (X : Cx) (t : V → V → Hp → VK → Prop) : Prop :=
  ∀ (pins : List (Addr × Obj)) (s : Shared) (σ : St) (H : Hp) (o i : V) (ov iv : Value) (Q : VK), Inv X pins σ H s → RelV o ov → RelV i iv → t o i H Q →
    wpAny (model X.prog X.w) X.A (getItem ov iv) (EP X pins σ Q) X.xe s
/-- ints -/
def ipI (f : Int → Int → Int) : TIp := fun x y H Q => ∃ i j, x = .int i ∧ y = .int j ∧ Q (.int (f i j)) H
end

/-! ### while -/
section
variable {X : Cx} {pos : Pos}
/-- the invariant W with its measure -/
def tWhile (c : TT) (tb : TS) : TS := fun D σ H => ∃ W : Nat → St → Hp → Prop, (∃ m, W m σ H) ∧ ∀ m σ H, W m σ H →
  c σ H fun b H1 => if b = true then ∃ N : St → Hp → Prop, (∀ σ' H', N σ' H' → ∃ m', m' < m ∧ W m' σ' H') ∧ tb { D with nx := N, ct := N, bk := D.nx } σ H1 else D.nx σ H1
theorem ps_while {c : Expr} {body : List Stmt} {tc : TT} {tb : TS} (hp : PassesOwn (model X.prog X.w) X.A X.env X.xe) (hc : PT X c tc) (hb : PSs X body tb) : PS X (.While c body [] pos) (tWhile tc tb) := by
  intro pins s σ H D I h
  obtain ⟨W, ⟨m0, w0⟩, turn⟩ := h
  refine wpAny_While (codeAny_whileLoop (fun n s' => ∃ σ' H', Inv X pins σ' H' s' ∧ W n σ' H') ?_ m0 ⟨σ, H, I, w0⟩)
  rintro n s1 ⟨σ1, H1, I1, w1⟩
  refine wpAny_passesOwn hp (thn (hc pins s1 σ1 H1 _ I1 (turn n σ1 H1 w1)) fun b s2 ⟨H2, I2, q2⟩ => ?_)
  cases b with
  | true =>
    obtain ⟨N, hN, q2⟩ := q2
    rw [if_pos rfl]
    refine wpAny_passesOwn hp (thn (hb pins s2 σ1 H2 _ I2 q2) fun f s3 q3 => ?_)
    cases f with
    | next =>
      obtain ⟨σ3, H3, I3, n3⟩ := q3
      obtain ⟨m', hm, w3⟩ := hN σ3 H3 n3
      exact ⟨m', hm, σ3, H3, I3, w3⟩
    | cont =>
      obtain ⟨σ3, H3, I3, n3⟩ := q3
      obtain ⟨m', hm, w3⟩ := hN σ3 H3 n3
      exact ⟨m', hm, σ3, H3, I3, w3⟩
    | brk => exact q3
    | ret v => exact q3
  | false =>
    rw [if_neg Bool.false_ne_true]
    exact wpAny_execs_nil ⟨σ1, H2, I2, q2⟩
end

/-! ### what a loop or a comprehension walks -/
/-- at turn i: it yields x (the heap may grow), or it stops -/
structure It where
  go : Nat → Hp → Prop
  yld : Nat → Hp → V → Hp → Prop
  stop : Nat → Hp → Prop
/-- the iterator's own objects may turn: they are not the frame's, not pinned, younger than the entry (or a comprehension's own) -/
def FpOk (X : Cx) (pins : List (Addr × Obj)) (H : Hp) (b : Addr) : Prop :=
  H b = none ∧ b ≠ X.env.locals ∧ b ∉ X.fs ∧ (b ∈ X.ex ∨ X.s₀.heap.objs.size ≤ b) ∧ (∀ x c, X.env.cells.lookup x = some c → c ≠ b) ∧ ∀ p ∈ X.pn ++ pins, p.1 ≠ b
theorem Inv.fpOk {X : Cx} {pins : List (Addr × Obj)} {σ : St} {H H' : Hp} {s : Shared} {b : Addr} (I : Inv X pins σ H s) (hb : s.heap.objs.size ≤ b) (hn : H' b = none) : FpOk X pins H' b := by
  refine ⟨hn, Nat.ne_of_gt (Nat.lt_of_lt_of_le I.lt hb), I.nofs hb, .inr (Nat.le_trans I.sz hb), fun x c e z => ?_, fun p hp z => ?_⟩
  · obtain ⟨v, q⟩ := I.cell x c e
    exact absurd (Nat.lt_of_lt_of_le q.lt (by rw [z]; exact hb)) (Nat.lt_irrefl _)
  · exact absurd (Nat.lt_of_lt_of_le (Heap.lt_size (I.pin p hp).1) (by rw [z]; exact hb)) (Nat.lt_irrefl _)
structure Turn (P : Program) (w : World) (K : PySem.W.Frag) (tg : Expr) (J : It) (fp : List Addr) (it : Addr) (tn : Nat → Heap → Prop) : Prop where
  mem : it ∈ fp
  obj : ∀ i h, tn i h → ∀ b ∈ fp, ∃ o, h.get? b = some o ∧ ∀ v, o.data ≠ .cell v
  keep : ∀ i h h', tn i h → (∀ b ∈ fp, ∀ o, h.get? b = some o → h'.get? b = some o) → tn i h'
  item : ∀ (X : Cx), X.prog = P → X.w = w → X.K = K → X.calm = true → ∀ (i : Nat) (pins : List (Addr × Obj)) (s : Shared) (σ : St) (H : Hp) (E : Value → Shared → Prop), Inv X pins σ H s → (∀ b ∈ fp, FpOk X pins H b) → tn i s.heap → J.go i H →
    wpAny (model P w) X.A (pyNext (.ref it)) (fun r s1 => ∃ u, r = some u ∧
      wpAny (model P w) X.A (letOwnedTupleGo tg (.ref it) u) (fun _ s2 => ∃ x H', Inv X pins σ H' s2 ∧ RelV x u ∧ J.yld i H x H' ∧ tn (i + 1) s2.heap ∧ ∀ b ∈ fp, H' b = none) E s1) E s
  done : ∀ (X : Cx), X.prog = P → X.w = w → X.K = K → X.calm = true → ∀ (i : Nat) (pins : List (Addr × Obj)) (s : Shared) (σ : St) (H : Hp) (E : Value → Shared → Prop), Inv X pins σ H s → (∀ b ∈ fp, FpOk X pins H b) → tn i s.heap → J.stop i H →
    wpAny (model P w) X.A (pyNext (.ref it)) (fun r s1 => r = none ∧ Inv X pins σ H s1) E s
  self : ∀ (A : Around) (i : Nat) (s : Shared) (Q : Value → Shared → Prop) (E : Value → Shared → Prop), tn i s.heap → Q (.ref it) s → wpAny (model P w) A (pyIter (.ref it)) Q E s
abbrev TI := St → Hp → (It → Hp → Prop) → Prop
/-- an iterator has come -/
def PIE (X : Cx) (pins : List (Addr × Obj)) (σ : St) (tg : Expr) (R : It → Hp → Prop) (itv : Value) (s2 : Shared) : Prop :=
  ∃ (it : Addr) (fp : List Addr) (tn : Nat → Heap → Prop) (J : It) (H' : Hp), itv = .ref it ∧ Inv X pins σ H' s2 ∧ Turn X.prog X.w X.K tg J fp it tn ∧ tn 0 s2.heap ∧ (∀ b ∈ fp, FpOk X pins H' b) ∧ R J H'
def PI (X : Cx) (tg iter : Expr) (wi : TI) : Prop :=
  ∀ (pins : List (Addr × Obj)) (s : Shared) (σ : St) (H : Hp) (R : It → Hp → Prop), Inv X pins σ H s → wi σ H R →
    wpAny (model X.prog X.w) X.A (eval iter X.env) (fun v s1 => wpAny (model X.prog X.w) X.A (pyIter v) (PIE X pins σ tg R) X.xe s1) X.xe s

/-- the step ahead of the store is nothing for an iterator that keeps no tuple -/
theorem go_of {M : Model} {A : Around} {E : Value → Shared → Prop} {s : Shared} {tg : Expr} {it : Addr} {u : Value} {o : Obj} {n : String} {vs : Array Value} {Q : Unit → Shared → Prop} (ho : s.heap.get? it = some o) (hc : o.cls = .type n) (hd : o.data = .fields vs)
    (hn : ["enumerate", "zip", "dict_itemiterator", "dict_reverseitemiterator", "odict_iterator", "itertools.zip_longest", "itertools.pairwise"].contains n = false) (hQ : Q () s) : wpAny M A (letOwnedTupleGo tg (.ref it) u) Q E s := by
  unfold letOwnedTupleGo
  cases tg <;> first
    | exact wpAny_pure hQ
    | (cases u <;> first
        | exact wpAny_pure hQ
        | (refine wpAny_bind (wpAny_load ho ?_)
           rw [hc, hd]
           show wpAny M A (if (["enumerate", "zip", "dict_itemiterator", "dict_reverseitemiterator", "odict_iterator", "itertools.zip_longest", "itertools.pairwise"].contains n && vs[0]? == some (rawInt _)) = true then _ else _) Q E s
           rw [if_neg (by intro h; rw [hn, Bool.false_and] at h; cases h)]
           exact wpAny_pure hQ))

/-- the list at a, as it stands at each turn (a loop may append to it) -/
def Itl (K : PySem.W.Frag) (a : Addr) : It :=
  ⟨fun i H => ∃ xs x, SqL K H a xs ∧ xs[i]? = some x, fun i H x H' => H' = H ∧ ∀ xs, SqL K H a xs → xs[i]? = some x, fun i H => ∃ xs, SqL K H a xs ∧ xs.length ≤ i⟩
def Itt (K : PySem.W.Frag) (a : Addr) : It :=
  ⟨fun i H => ∃ xs x, SqT K H a xs ∧ xs[i]? = some x, fun i H x H' => H' = H ∧ ∀ xs, SqT K H a xs → xs[i]? = some x, fun i H => ∃ xs, SqT K H a xs ∧ xs.length ≤ i⟩
/-- lo, lo + 1, .. (n of them) -/
def Itr (lo : Int) (n : Nat) : It := ⟨fun i _ => i < n, fun i H x H' => H' = H ∧ x = .int (lo + i), fun i _ => n ≤ i⟩
theorem turn_list {P : Program} {w : World} {K : PySem.W.Frag} {tg : Expr} (a it : Addr) : Turn P w K tg (Itl K a) [it] it (fun i h => h.IsListIter it a i) where
  mem := by simp
  obj := fun i h st b hb => by
    have e : b = it := by simpa using hb
    subst e
    obtain ⟨o, e, c, d⟩ := st
    exact ⟨o, e, fun v z => by rw [d] at z; cases z⟩
  keep := fun i h h' st k => st.at fun o e => k it (by simp) o e
  item := by
    intro X hP hw hK hc i pins s σ H E I hf st hg
    subst hP hw hK
    obtain ⟨xs, x, hq, hx⟩ := hg
    obtain ⟨its, rv, p, hz⟩ := I.list hq
    obtain ⟨u, hu, ru⟩ := rv.get hx
    obtain ⟨f0, f1, f2, f3, f4, f5⟩ := hf it (by simp)
    refine wpAny_pyNext_list_item st p.isList (x := u) (by simpa using hu) fun h' st' sb => ?_
    have I1 : Inv X pins σ H { s with heap := h' } := I.turned (t' := s.toks) (fun b o hb e => (sb.2 b hb).trans e) f0 f1 f3 f4 f5
    obtain ⟨o, e, c, d⟩ := id st'
    exact ⟨u, rfl, go_of (s := { s with heap := h' }) e c d (by decide) ⟨x, H, I1, ru, ⟨rfl, fun ys hy => by rw [I.list_inj hy hq]; exact hx⟩, st', fun b hb => (hf b hb).1⟩⟩
  done := by
    intro X hP hw hK hc i pins s σ H E I hf st hg
    subst hP hw hK
    obtain ⟨xs, hq, hx⟩ := hg
    obtain ⟨its, rv, p, hz⟩ := I.list hq
    obtain ⟨f0, f1, f2, f3, f4, f5⟩ := hf it (by simp)
    have hl := rv.length
    exact wpAny_pyNext_list_end (I.ok.hd hc) st p.isList (by simp; omega) fun h' eb => ⟨rfl, I.turned (t' := s.toks) (fun b o hb e => eb b o hb e) f0 f1 f3 f4 f5⟩
  self := fun _ _ _ _ _ st h => wpAny_pyIter_listiter st h
theorem turn_range {P : Program} {w : World} {K : PySem.W.Frag} {tg : Expr} (it : Addr) (lo : Int) (n : Nat) : Turn P w K tg (Itr lo n) [it] it (fun i h => IsRangeIter h it (lo + (i : Nat) * 1) ((n : Int) - (i : Nat)) 1) where
  mem := by simp
  obj := fun i h st b hb => by
    have e : b = it := by simpa using hb
    subst e
    exact ⟨_, st, fun v z => by
      have z' : Data.fields _ = Data.cell v := z
      cases z'⟩
  keep := fun i h h' st k => k it (by simp) _ st
  item := by
    intro X hP hw hK hc i pins s σ H E I hf st hg
    subst hP hw hK
    obtain ⟨f0, f1, f2, f3, f4, f5⟩ := hf it (by simp)
    have W := Walks.range (prog := X.prog) (w := X.w) (I.ok.hd hc) it lo 1 n
    refine W.item i s _ _ hg st fun v h' tk hv st' kk => ?_
    obtain ⟨t, rfl⟩ := hv
    have I1 : Inv X pins σ H { s with heap := h', toks := tk } := I.turned (fun b o hb e => kk b o (by simpa using hb) e) f0 f1 f3 f4 f5
    refine ⟨_, rfl, go_of (s := { s with heap := h', toks := tk }) (n := "range_iterator") st' rfl rfl (by decide) ⟨.int (lo + i), H, I1, ⟨t, ?_⟩, ⟨rfl, rfl⟩, st', fun b hb => (hf b hb).1⟩⟩
    rw [Int.mul_one]
  done := by
    intro X hP hw hK hc i pins s σ H E I hf st hg
    subst hP hw hK
    obtain ⟨f0, f1, f2, f3, f4, f5⟩ := hf it (by simp)
    exact wpAny_pyNext_range_end (I.ok.hd hc) st (by have : n ≤ i := hg; omega) fun h' eb => ⟨rfl, I.turned (t' := s.toks) (fun b o hb e => eb b o hb e) f0 f1 f3 f4 f5⟩
  self := fun _ _ _ _ _ st h => wpAny_pyIter_rangeiter st h
end L2

namespace L2
open PySem PySem.Spec PyProof.Rows
section
variable {X : Cx} {tg : Expr}
def iList (K : PySem.W.Frag) (tl : TE) : TI := fun σ H R => tl σ H fun x H1 => ∃ a, x = .ref a ∧ (∃ xs, SqL K H1 a xs) ∧ R (Itl K a) H1
def iTup (K : PySem.W.Frag) (tl : TE) : TI := fun σ H R => tl σ H fun x H1 => ∃ a, x = .ref a ∧ (∃ xs, SqT K H1 a xs) ∧ R (Itt K a) H1
theorem pi_list {l : Expr} {tl : TE} (hl : PE X l tl) : PI X tg l (iList X.K tl) := by
  intro pins s σ H R I h
  refine thn (hl pins s σ H _ I h) fun v s1 ⟨x, H1, I1, r1, q1⟩ => ?_
  obtain ⟨a, e, ⟨xs, hq⟩, q⟩ := q1
  subst e
  cases r1
  obtain ⟨its, rv, p, hz⟩ := I1.list hq
  refine wpAny_pyIter_list p.isList ?_
  refine ⟨s1.heap.objs.size, [s1.heap.objs.size], _, _, H1, rfl, I1.kept (t' := s1.toks) fun b o e => Heap.get?_push_of_some _ e, turn_list a _, ⟨_, Heap.get?_push_size _ rfl, rfl, rfl⟩, fun b hb => ?_, q⟩
  have e : b = s1.heap.objs.size := by simpa using hb
  subst e
  exact I1.fpOk (Nat.le_refl _) (I1.hok.fresh (Nat.le_refl _))
/-- a range object just made, walked -/
theorem range_it {pins : List (Addr × Obj)} {σ : St} {H : Hp} {s : Shared} {R : It → Hp → Prop} {E : Value → Shared → Prop} {lo hi : Int} {t u v : Tok} {tk : Nat} (I : Inv X pins σ H s) (h1 : -(2 ^ 62) ≤ lo) (h2 : lo < 2 ^ 62) (h3 : -(2 ^ 62) ≤ hi) (h4 : hi < 2 ^ 62)
    (q : R (Itr lo (hi - lo).toNat) H) : wpAny (model X.prog X.w) X.A (pyIter (.ref s.heap.objs.size)) (PIE X pins σ tg R) E { s with heap := s.heap.push { cls := .type "range", data := .fields #[.int lo t, .int hi u, .int 1 v] }, toks := tk } := by
  refine wpAny_pyIter_range (IsRange.new ..) (small_one h1 h2 h3 h4) ?_
  have I1 : Inv X pins σ H { s with heap := s.heap.push { cls := .type "range", data := .fields #[.int lo t, .int hi u, .int 1 v] }, toks := tk } := I.kept fun b o e => Heap.get?_push_of_some _ e
  refine ⟨(s.heap.push { cls := .type "range", data := .fields #[.int lo t, .int hi u, .int 1 v] }).objs.size, [(s.heap.push { cls := .type "range", data := .fields #[.int lo t, .int hi u, .int 1 v] }).objs.size], _, _, H, rfl,
    I1.kept (t' := tk) fun b o e => Heap.get?_push_of_some _ e, turn_range _ lo (hi - lo).toNat, ?_, fun b hb => ?_, q⟩
  · have e1 : lo + ((0 : Nat) : Int) * 1 = lo := by simp
    have e2 : (((hi - lo).toNat : Nat) : Int) - ((0 : Nat) : Int) = Builtin.Range.rangeSize lo hi 1 := by rw [rangeSize_one]; split <;> omega
    show IsRangeIter _ _ (lo + ((0 : Nat) : Int) * 1) ((((hi - lo).toNat : Nat) : Int) - ((0 : Nat) : Int)) 1
    rw [e1, e2]
    exact Heap.get?_push_size _ rfl
  · have e : b = (s.heap.push { cls := .type "range", data := .fields #[.int lo t, .int hi u, .int 1 v] }).objs.size := by simpa using hb
    subst e
    exact I1.fpOk (Nat.le_refl _) (I1.hok.fresh (Nat.le_refl _))
def iRng1 (ta : TA) : TI := fun σ H R => ta σ H fun vs H1 => ∃ j : Int, vs = [.int j] ∧ -(2 ^ 62) ≤ j ∧ j < 2 ^ 62 ∧ R (Itr 0 j.toNat) H1
def iRng2 (ta : TA) : TI := fun σ H R => ta σ H fun vs H1 => ∃ i j : Int, vs = [.int i, .int j] ∧ (-(2 ^ 62) ≤ i ∧ i < 2 ^ 62 ∧ -(2 ^ 62) ≤ j ∧ j < 2 ^ 62) ∧ R (Itr i (j - i).toNat) H1
theorem pi_range1 {a : Expr} {ta : TA} {p pos : Pos} (hg : Gl X "range") (hm : X.mg "range" = none) (ha : PA X [a] ta) (hs : starEach [a] X.env = [(false, eval a X.env)] := by rfl) : PI X tg (.Call (.Name "range" p) [a] [] pos) (iRng1 ta) := by
  intro pins s σ H R I h
  refine Call_ (ld_blt I hg hm boot_range (PyProof.Rows.callWith_type1 (thn (ha pos pins s σ H _ I h) fun us s1 ⟨vs, H1, I1, r1, q1⟩ => ?_) hs rfl))
  obtain ⟨j, e, q1, q2, q⟩ := q1
  subst e
  cases r1 with
  | cons r rr =>
    cases rr
    obtain ⟨t, rfl⟩ := r
    exact call_range_1 (range_it I1 (by omega) (by omega) q1 q2 (by simpa using q))
/-! ### for -/
/-- W: the invariant by the turn and a measure; N: what the body is to reach -/
def tFor (wi : TI) (g : TG) (tb : TS) : TS := fun D σ H => wi σ H fun J H1 => ∃ W : Nat → Nat → St → Hp → Prop, (∃ m, W 0 m σ H1) ∧ ∀ i m σ H, W i m σ H →
  (J.stop i H ∧ D.nx σ H) ∨ (J.go i H ∧ ∃ N : St → Hp → Prop, (∀ σ' H', N σ' H' → ∃ m', m' < m ∧ W (i + 1) m' σ' H') ∧ ∀ x H', J.yld i H x H' → g x σ H' fun σ2 H2 => tb { D with nx := N, ct := N, bk := D.nx } σ2 H2)
/-- the records at fp as they stand -/
def pinsAt (fp : List Addr) (h : Heap) : List (Addr × Obj) := fp.filterMap fun b => (h.get? b).map fun o => (b, o)
theorem mem_pinsAt {fp : List Addr} {h : Heap} {b : Addr} {o : Obj} (hb : b ∈ fp) (e : h.get? b = some o) : (b, o) ∈ pinsAt fp h := List.mem_filterMap.mpr ⟨b, hb, by rw [e]; rfl⟩
theorem of_pinsAt {fp : List Addr} {h : Heap} {p : Addr × Obj} (hp : p ∈ pinsAt fp h) : p.1 ∈ fp ∧ h.get? p.1 = some p.2 := by
  obtain ⟨b, hb, e⟩ := List.mem_filterMap.mp hp
  cases q : h.get? b with
  | none => rw [q] at e; cases e
  | some o =>
    rw [q] at e
    have e' : (b, o) = p := Option.some.inj e
    subst e'
    exact ⟨hb, q⟩
theorem Inv.pinned {pins : List (Addr × Obj)} {σ : St} {H : Hp} {s : Shared} {fp : List Addr} (I : Inv X pins σ H s) (hf : ∀ b ∈ fp, FpOk X pins H b) (ho : ∀ b ∈ fp, ∃ o, s.heap.get? b = some o ∧ ∀ v, o.data ≠ .cell v) : Inv X (pins ++ pinsAt fp s.heap) σ H s :=
  I.pins_of fun p hp => (List.mem_append.mp hp).elim (fun z => I.pin p (List.mem_append_right _ z)) fun z => by
    obtain ⟨hb, e⟩ := of_pinsAt z
    obtain ⟨f0, f1, f2, _⟩ := hf p.1 hb
    obtain ⟨o, e', d⟩ := ho p.1 hb
    rw [e] at e'; cases e'
    exact ⟨e, f0, f1, f2, d⟩
theorem Inv.unpinned {pins pl : List (Addr × Obj)} {σ : St} {H : Hp} {s : Shared} (I : Inv X (pins ++ pl) σ H s) : Inv X pins σ H s := I.pins_of fun p hp => I.pin p (List.mem_append_right _ (List.mem_append_left _ hp))
theorem ps_for {iter : Expr} {body : List Stmt} {wi : TI} {g : TG} {tb : TS} {pos : Pos} (hp : PassesOwn (model X.prog X.w) X.A X.env X.xe) (hc : X.calm = true) (hi : PI X tg iter wi) (hg : PG X tg g) (hb : PSs X body tb)
    (hs : ∀ x, foldedSetIterable iter X.env x = pure x := by intro _; rfl) : PS X (.For tg iter body [] pos) (tFor wi g tb) := by
  intro pins s σ H D I h
  refine wpAny_For (thn (hi pins s σ H _ I h) fun v s1 h1 => thn h1 fun itv s2 h2 => ?_) hs
  obtain ⟨it, fp, tn, J, H2, e, I2, T, st2, f2, W, ⟨m0, w0⟩, turn⟩ := h2
  subst e
  -- what stays true of the iterator's objects through the loop
  have stat : ∀ {H' : Hp}, (∀ b ∈ fp, H' b = none) → ∀ b ∈ fp, FpOk X pins H' b := fun hn b hb => ⟨hn b hb, (f2 b hb).2⟩
  refine codeAny_forLoop_any (fun n s' => ∃ i σ' H', Inv X pins σ' H' s' ∧ tn i s'.heap ∧ (∀ b ∈ fp, H' b = none) ∧ W i n σ' H') ?_ m0 ⟨0, σ, H2, I2, st2, fun b hb => (f2 b hb).1, w0⟩
  rintro n s3 ⟨i, σ3, H3, I3, st3, fr3, w3⟩
  rcases turn i n σ3 H3 w3 with ⟨stop, qn⟩ | ⟨go, N, hN, step⟩
  · refine wpAny_passesOwn hp (thn (T.done X rfl rfl rfl hc i pins s3 σ3 H3 X.xe I3 (stat fr3) st3 stop) fun r s4 ⟨hr, I4⟩ => ?_)
    subst hr
    exact wpAny_execs_nil ⟨σ3, H3, I4, qn⟩
  · refine wpAny_passesOwn hp (thn (T.item X rfl rfl rfl hc i pins s3 σ3 H3 X.xe I3 (stat fr3) st3 go) fun r s4 ⟨u, hr, h4⟩ => ?_)
    subst hr
    refine wpAny_passesOwn hp (thn h4 fun _ s5 ⟨x, H5, I5, r5, y5, st5, fr5⟩ => ?_)
    have I5' := I5.pinned (stat fr5) (T.obj _ _ st5)
    refine wpAny_passesOwn hp (thn (hg _ s5 σ3 H5 x u _ I5' r5 (step x H5 y5)) fun _ s6 ⟨σ6, H6, I6, q6⟩ => ?_)
    refine wpAny_passesOwn hp (thn (hb _ s6 σ6 H6 _ I6 q6) fun f s7 q7 => ?_)
    have again : ∀ {σ7 : St} {H7 : Hp}, Inv X (pins ++ pinsAt fp s5.heap) σ7 H7 s7 → N σ7 H7 → ∃ m, m < n ∧ ∃ i σ' H', Inv X pins σ' H' s7 ∧ tn i s7.heap ∧ (∀ b ∈ fp, H' b = none) ∧ W i m σ' H' := fun {σ7 H7} I7 n7 => by
      obtain ⟨m', hm, w7⟩ := hN σ7 H7 n7
      refine ⟨m', hm, i + 1, σ7, H7, I7.unpinned, T.keep _ _ _ st5 fun b hb o e => (I7.pin (b, o) (List.mem_append_right _ (List.mem_append_right _ (mem_pinsAt hb e)))).1, fun b hb => ?_, w7⟩
      obtain ⟨o, e, d⟩ := T.obj _ _ st5 b hb
      exact (I7.pin (b, o) (List.mem_append_right _ (List.mem_append_right _ (mem_pinsAt hb e)))).2.1
    cases f with
    | next => obtain ⟨σ7, H7, I7, n7⟩ := q7; exact again I7 n7
    | cont => obtain ⟨σ7, H7, I7, n7⟩ := q7; exact again I7 n7
    | brk => obtain ⟨σ7, H7, I7, q7⟩ := q7; exact ⟨σ7, H7, I7.unpinned, q7⟩
    | ret v => obtain ⟨x7, σ7, H7, I7, r7, q7⟩ := q7; exact ⟨x7, σ7, H7, I7.unpinned, r7, q7⟩
end

/-! ### the forms one uses -/
/-- over a list that the body leaves as it is -/
theorem for_list {K : PySem.W.Frag} {a : Addr} {xs : List V} {g : TG} {tb : TS} {D : Ends} {σ : St} {H : Hp} (Pv : Nat → St → Hp → Prop) (h0 : Pv 0 σ H) (hl : ∀ i σ H, i ≤ xs.length → Pv i σ H → SqL K H a xs)
    (hs : ∀ i x σ H, xs[i]? = some x → Pv i σ H → g x σ H fun σ2 H2 => tb { D with nx := Pv (i + 1), ct := Pv (i + 1), bk := D.nx } σ2 H2) (hd : ∀ σ H, Pv xs.length σ H → D.nx σ H) :
    ∃ W : Nat → Nat → St → Hp → Prop, (∃ m, W 0 m σ H) ∧ ∀ i m σ H, W i m σ H →
      ((Itl K a).stop i H ∧ D.nx σ H) ∨ ((Itl K a).go i H ∧ ∃ N : St → Hp → Prop, (∀ σ' H', N σ' H' → ∃ m', m' < m ∧ W (i + 1) m' σ' H') ∧ ∀ x H', (Itl K a).yld i H x H' → g x σ H' fun σ2 H2 => tb { D with nx := N, ct := N, bk := D.nx } σ2 H2) := by
  refine ⟨fun i m σ H => m = xs.length - i ∧ i ≤ xs.length ∧ Pv i σ H, ⟨xs.length, by simp, Nat.zero_le _, h0⟩, ?_⟩
  rintro i m σ H ⟨rfl, hi, p⟩
  have q := hl i σ H hi p
  by_cases hlt : i < xs.length
  · refine .inr ⟨⟨xs, xs[i], q, by simp [hlt]⟩, Pv (i + 1), fun σ' H' p' => ⟨xs.length - (i + 1), by omega, rfl, hlt, p'⟩, fun x H' y => ?_⟩
    obtain ⟨e, y⟩ := y
    subst e
    exact hs i x σ _ (y xs q) p
  · have e : i = xs.length := by omega
    subst e
    exact .inl ⟨⟨xs, q, Nat.le_refl _⟩, hd σ H p⟩
theorem for_range {lo : Int} {n : Nat} {g : TG} {tb : TS} {D : Ends} {σ : St} {H : Hp} (Pv : Nat → St → Hp → Prop) (h0 : Pv 0 σ H)
    (hs : ∀ i σ H, i < n → Pv i σ H → g (.int (lo + i)) σ H fun σ2 H2 => tb { D with nx := Pv (i + 1), ct := Pv (i + 1), bk := D.nx } σ2 H2) (hd : ∀ σ H, Pv n σ H → D.nx σ H) :
    ∃ W : Nat → Nat → St → Hp → Prop, (∃ m, W 0 m σ H) ∧ ∀ i m σ H, W i m σ H →
      ((Itr lo n).stop i H ∧ D.nx σ H) ∨ ((Itr lo n).go i H ∧ ∃ N : St → Hp → Prop, (∀ σ' H', N σ' H' → ∃ m', m' < m ∧ W (i + 1) m' σ' H') ∧ ∀ x H', (Itr lo n).yld i H x H' → g x σ H' fun σ2 H2 => tb { D with nx := N, ct := N, bk := D.nx } σ2 H2) := by
  refine ⟨fun i m σ H => m = n - i ∧ i ≤ n ∧ Pv i σ H, ⟨n, by simp, Nat.zero_le _, h0⟩, ?_⟩
  rintro i m σ H ⟨rfl, hi, p⟩
  by_cases hlt : i < n
  · refine .inr ⟨hlt, Pv (i + 1), fun σ' H' p' => ⟨n - (i + 1), by omega, rfl, hlt, p'⟩, fun x H' y => ?_⟩
    obtain ⟨e, y⟩ := y
    subst e y
    exact hs i σ _ hlt p
  · have e : i = n := by omega
    subst e
    exact .inl ⟨Nat.le_refl _, hd σ H p⟩
end L2

namespace L2
open PySem PySem.Spec PyProof.Rows

abbrev R2 := V → V → Hp → VK → Prop
/-- a two-place operation on values: f is binaryOp op, inplaceOp op or compareOp op -/
def OpR (X : Cx) (f : Value → Value → Sem Value) (r : R2) : Prop :=
  ∀ (pins : List (Addr × Obj)) (s : Shared) (σ : St) (H : Hp) (x y : V) (v u : Value) (Q : VK), Inv X pins σ H s → RelV x v → RelV y u → r x y H Q →
    wpAny (model X.prog X.w) X.A (f v u) (EP X pins σ Q) X.xe s
/-- a one-place operation -/
def UnR (X : Cx) (f : Value → Sem Value) (r : V → Hp → VK → Prop) : Prop :=
  ∀ (pins : List (Addr × Obj)) (s : Shared) (σ : St) (H : Hp) (x : V) (v : Value) (Q : VK), Inv X pins σ H s → RelV x v → r x H Q →
    wpAny (model X.prog X.w) X.A (f v) (EP X pins σ Q) X.xe s
/-- a call of a value that is known (a builtin, a type) with values -/
def CallR (X : Cx) (f : Value) (r : List V → Hp → VK → Prop) : Prop :=
  ∀ (pins : List (Addr × Obj)) (s : Shared) (σ : St) (H : Hp) (xs : List V) (us : List Value) (Q : VK), Inv X pins σ H s → Vals xs us → r xs H Q →
    wpAny (model X.prog X.w) X.A (call f us) (EP X pins σ Q) X.xe s
/-- a value's truth -/
def TruR (X : Cx) (r : V → Hp → (Bool → Hp → Prop) → Prop) : Prop :=
  ∀ (pins : List (Addr × Obj)) (s : Shared) (σ : St) (H : Hp) (x : V) (v : Value) (Q : Bool → Hp → Prop), Inv X pins σ H s → RelV x v → r x H Q →
    wpAny (model X.prog X.w) X.A (truthy v) (TP X pins σ Q) X.xe s

def tOp (r : R2) (ta tb : TE) : TE := fun σ H Q => ta σ H fun x H1 => tb σ H1 fun y H2 => r x y H2 Q
def tUn (r : V → Hp → VK → Prop) (ta : TE) : TE := fun σ H Q => ta σ H fun x H1 => r x H1 Q
/-- ints in, under C, and a value out -/
def rI (C : Int → Int → Prop) (g : Int → Int → V) : R2 := fun x y H Q => ∃ i j, x = .int i ∧ y = .int j ∧ C i j ∧ Q (g i j) H
def rI0 (g : Int → Int → V) : R2 := fun x y H Q => ∃ i j, x = .int i ∧ y = .int j ∧ Q (g i j) H
def rU (g : Int → V) : V → Hp → VK → Prop := fun x H Q => ∃ i, x = .int i ∧ Q (g i) H

section
variable {X : Cx} {a b c : Expr} {ta tb tc : TE} {pos : Pos}

theorem binT (ha : PE X a ta) (hb : PE X b tb) {pins : List (Addr × Obj)} {s : Shared} {σ : St} {H : Hp} {R : V → V → Hp → Prop} (I : Inv X pins σ H s)
    (h : ta σ H fun x H1 => tb σ H1 fun y H2 => R x y H2) {Q : Value → Shared → Prop} {f : Value → Value → Sem Value}
    (hf : ∀ v u s2 x y H2, Inv X pins σ H2 s2 → RelV x v → RelV y u → R x y H2 → wpAny (model X.prog X.w) X.A (f v u) Q X.xe s2) :
    wpAny (model X.prog X.w) X.A (eval a X.env) (fun v s₁ => wpAny (model X.prog X.w) X.A (eval b X.env) (fun u s₂ => wpAny (model X.prog X.w) X.A (f v u) Q X.xe s₂) X.xe s₁) X.xe s := by
  refine thn (ha pins s σ H _ I h) fun v s1 ⟨x, H1, I1, r1, q1⟩ => ?_
  refine thn (hb pins s1 σ H1 _ I1 q1) fun u s2 ⟨y, H2, I2, r2, q2⟩ => ?_
  exact hf v u s2 x y H2 I2 r1 r2 q2

theorem pe_op {op : Operator} {r : R2} (ho : OpR X (binaryOp op) r) (ha : PE X a ta) (hb : PE X b tb) : PE X (.BinOp a op b pos) (tOp r ta tb) := by
  intro pins s σ H Q I h
  exact wpAny_BinOp (binT ha hb I h fun v u s2 x y H2 I2 rx ry q => ho pins s2 σ H2 x y v u Q I2 rx ry q)
/-! ### ints -/
theorem opI {f : Value → Value → Sem Value} {C : Int → Int → Prop} {g : Int → Int → Int}
    (rule : ∀ (i j : Int) (t u : Tok) (s : Shared) (Q : Value → Shared → Prop) (E : Value → Shared → Prop), C i j → Q (.int (g i j) s.toks) { s with toks := s.toks + 1 } → wpAny (model X.prog X.w) X.A (f (.int i t) (.int j u)) Q E s) :
    OpR X f (rI C fun i j => .int (g i j)) := by
  intro pins s σ H x y v u Q I rx ry h
  obtain ⟨i, j, rfl, rfl, hc, q⟩ := h
  obtain ⟨t, rfl⟩ := rx
  obtain ⟨t', rfl⟩ := ry
  exact rule i j t t' s _ _ hc ⟨.int (g i j), H, I.tok _, ⟨_, rfl⟩, q⟩
theorem opI0 {f : Value → Value → Sem Value} {g : Int → Int → Int}
    (rule : ∀ (i j : Int) (t u : Tok) (s : Shared) (Q : Value → Shared → Prop) (E : Value → Shared → Prop), Q (.int (g i j) s.toks) { s with toks := s.toks + 1 } → wpAny (model X.prog X.w) X.A (f (.int i t) (.int j u)) Q E s) :
    OpR X f (rI0 fun i j => .int (g i j)) := by
  intro pins s σ H x y v u Q I rx ry h
  obtain ⟨i, j, rfl, rfl, q⟩ := h
  obtain ⟨t, rfl⟩ := rx
  obtain ⟨t', rfl⟩ := ry
  exact rule i j t t' s _ _ ⟨.int (g i j), H, I.tok _, ⟨_, rfl⟩, q⟩
theorem opB0 {f : Value → Value → Sem Value} {g : Int → Int → Bool}
    (rule : ∀ (i j : Int) (t u : Tok) (s : Shared) (Q : Value → Shared → Prop) (E : Value → Shared → Prop), Q (.bool (g i j)) s → wpAny (model X.prog X.w) X.A (f (.int i t) (.int j u)) Q E s) :
    OpR X f (rI0 fun i j => .bl (g i j)) := by
  intro pins s σ H x y v u Q I rx ry h
  obtain ⟨i, j, rfl, rfl, q⟩ := h
  obtain ⟨t, rfl⟩ := rx
  obtain ⟨t', rfl⟩ := ry
  exact rule i j t t' s _ _ ⟨.bl (g i j), H, I, rfl, q⟩

def CDiv (i j : Int) : Prop := 0 < j ∧ j < 1073741824
def CDivN (i j : Int) : Prop := j ≠ 0 ∧ j.natAbs < 1073741824
def CPow (i j : Int) : Prop := 0 ≤ j ∧ j ≤ 1000000 ∧ i.natAbs < 2 ^ 64
def CMul (i j : Int) : Prop := (-(2 ^ 64) < i ∧ i < 2 ^ 64) ∨ (-(2 ^ 64) < j ∧ j < 2 ^ 64)
theorem CMul.ok {i j : Int} (h : CMul i j) : IntMulOk i j := by
  rcases h with ⟨h1, h2⟩ | ⟨h1, h2⟩
  · exact .of_left (intBits_le_64 h1 h2)
  · exact .of_right (intBits_le_64 h1 h2)
theorem op_add : OpR X (binaryOp .Add) (rI0 fun i j => .int (i + j)) := opI0 fun _ _ _ _ _ _ _ q => add_int q
theorem op_sub : OpR X (binaryOp .Sub) (rI0 fun i j => .int (i - j)) := opI0 fun _ _ _ _ _ _ _ q => sub_int q
theorem op_mul : OpR X (binaryOp .Mult) (rI CMul fun i j => .int (i * j)) := opI fun _ _ _ _ _ _ _ hc q => mul_int q hc.ok
/-- // by a positive divisor -/
theorem op_fdiv : OpR X (binaryOp .FloorDiv) (rI CDiv fun i j => .int (i / j)) := opI fun i j _ _ _ _ _ hc q => by
  have h1 : (0 : Int) < j := hc.1
  have h2 : j < 1073741824 := hc.2
  exact floordiv_int (by omega) (by rw [Int.fdiv_eq_ediv_of_nonneg i (by omega)]; exact q) (.inl (PyProof.noPylong_small (by omega)))
/-- % by a positive divisor of any size -/
theorem op_mod : OpR X (binaryOp .Mod) (rI (fun _ j => 0 < j) fun i j => .int (i % j)) := opI fun i j _ _ _ _ _ hc q => by
  have h1 : (0 : Int) < j := hc
  exact mod_int' (by omega) (by rw [Int.fmod_eq_emod_of_nonneg i (by omega)]; exact q)
/-! ### bools among ints: n += (a < b) -/
end

/-! ### comparisons -/
/-- the scalars that == tells apart as data does -/
def scal : V → V → Bool
  | .non, .non => true | .non, .int _ => true | .int _, .non => true | .non, .bl _ => true | .bl _, .non => true | .non, .str _ => true | .str _, .non => true
  | .int _, .int _ => true | .bl _, .bl _ => true | .str _, .str _ => true | .byt _, .byt _ => true
  | .int _, .str _ => true | .str _, .int _ => true | .bl _, .str _ => true | .str _, .bl _ => true
  | _, _ => false
def rEq : R2 := fun x y H Q => scal x y = true ∧ Q (.bl (decide (x = y))) H
def rNe : R2 := fun x y H Q => scal x y = true ∧ Q (.bl (!decide (x = y))) H

theorem dec_int {i j : Int} : decide (V.int i = V.int j) = (i == j) := by
  rw [Bool.eq_iff_iff]
  simp
theorem dec_bl {i j : Bool} : decide (V.bl i = V.bl j) = (i == j) := by
  rw [Bool.eq_iff_iff]
  simp
theorem dec_str {i j : Str} : decide (V.str i = V.str j) = (i == j) := by
  rw [Bool.eq_iff_iff]
  simp
theorem dec_byt {i j : Array UInt8} : decide (V.byt i = V.byt j) = (i.toList == j.toList) := by
  rw [Bool.eq_iff_iff]
  cases i
  cases j
  simp

section
variable {X : Cx} {a b c : Expr} {ta tb tc : TE} {pos : Pos}
theorem fin_bl {pins : List (Addr × Obj)} {σ : St} {H : Hp} {s : Shared} {Q : VK} {k k' : Bool} (I : Inv X pins σ H s) (q : Q (.bl k) H) (e : k = k') : EP X pins σ Q (.bool k') s := by
  subst e
  exact ⟨.bl k, H, I, rfl, q⟩
theorem op_eq : OpR X (compareOp .Eq) rEq := by
  intro pins s σ H x y v u Q I rx ry h
  obtain ⟨hs, q⟩ := h
  cases x with
  | non =>
    cases rx
    cases y with
    | non => cases ry; exact PySem.EqNone.eq_none_none (fin_bl I q (by simp))
    | bl j => cases ry; exact PySem.EqNone.eq_none_bool (fin_bl I q (by simp))
    | int j => obtain ⟨t', rfl⟩ := ry; exact PySem.EqNone.eq_none_int (fin_bl I q (by simp))
    | str j => obtain ⟨t', rfl⟩ := ry; exact PySem.EqNone.eq_none_str (fin_bl I q (by simp))
    | _ => exact absurd (show false = true from hs) Bool.false_ne_true
  | bl i =>
    cases rx
    cases y with
    | non => cases ry; exact PySem.EqNone.eq_bool_none (fin_bl I q (by simp))
    | bl j => cases ry; exact eq_bool (fin_bl I q dec_bl)
    | str j => obtain ⟨t', rfl⟩ := ry; exact PySem.EqMixed.eq_bool_str (fin_bl I q (by simp))
    | _ => exact absurd (show false = true from hs) Bool.false_ne_true
  | int i =>
    obtain ⟨t, rfl⟩ := rx
    cases y with
    | non => cases ry; exact PySem.EqNone.eq_int_none (fin_bl I q (by simp))
    | int j => obtain ⟨t', rfl⟩ := ry; exact eq_int (fin_bl I q dec_int)
    | str j => obtain ⟨t', rfl⟩ := ry; exact PySem.EqMixed.eq_int_str (fin_bl I q (by simp))
    | _ => exact absurd (show false = true from hs) Bool.false_ne_true
  | str i =>
    obtain ⟨t, rfl⟩ := rx
    cases y with
    | non => cases ry; exact PySem.EqNone.eq_str_none (fin_bl I q (by simp))
    | bl j => cases ry; exact PySem.EqMixed.eq_str_bool (fin_bl I q (by simp))
    | int j => obtain ⟨t', rfl⟩ := ry; exact PySem.EqMixed.eq_str_int (fin_bl I q (by simp))
    | str j => obtain ⟨t', rfl⟩ := ry; exact eq_str (fin_bl I q dec_str)
    | _ => exact absurd (show false = true from hs) Bool.false_ne_true
  | byt i =>
    obtain ⟨t, rfl⟩ := rx
    cases y with
    | byt j => obtain ⟨t', rfl⟩ := ry; exact PySem.W.eq_bytes (fin_bl I q dec_byt)
    | _ => exact absurd (show false = true from hs) Bool.false_ne_true
  | _ => cases y <;> exact absurd (show false = true from hs) Bool.false_ne_true
theorem op_ne : OpR X (compareOp .NotEq) rNe := by
  intro pins s σ H x y v u Q I rx ry h
  obtain ⟨hs, q⟩ := h
  cases x with
  | non =>
    cases rx
    cases y with
    | non => cases ry; exact PySem.EqNone.ne_none_none (fin_bl I q (by simp))
    | bl j => cases ry; exact PySem.EqNone.ne_none_bool (fin_bl I q (by simp))
    | int j => obtain ⟨t', rfl⟩ := ry; exact PySem.EqNone.ne_none_int (fin_bl I q (by simp))
    | str j => obtain ⟨t', rfl⟩ := ry; exact PySem.EqNone.ne_none_str (fin_bl I q (by simp))
    | _ => exact absurd (show false = true from hs) Bool.false_ne_true
  | bl i =>
    cases rx
    cases y with
    | non => cases ry; exact PySem.EqNone.ne_bool_none (fin_bl I q (by simp))
    | bl j => cases ry; exact ne_bool (fin_bl I q (congrArg not dec_bl))
    | str j => obtain ⟨t', rfl⟩ := ry; exact PySem.EqMixed.ne_bool_str (fin_bl I q (by simp))
    | _ => exact absurd (show false = true from hs) Bool.false_ne_true
  | int i =>
    obtain ⟨t, rfl⟩ := rx
    cases y with
    | non => cases ry; exact PySem.EqNone.ne_int_none (fin_bl I q (by simp))
    | int j => obtain ⟨t', rfl⟩ := ry; exact ne_int (fin_bl I q (congrArg not dec_int))
    | str j => obtain ⟨t', rfl⟩ := ry; exact PySem.EqMixed.ne_int_str (fin_bl I q (by simp))
    | _ => exact absurd (show false = true from hs) Bool.false_ne_true
  | str i =>
    obtain ⟨t, rfl⟩ := rx
    cases y with
    | non => cases ry; exact PySem.EqNone.ne_str_none (fin_bl I q (by simp))
    | bl j => cases ry; exact PySem.EqMixed.ne_str_bool (fin_bl I q (by simp))
    | int j => obtain ⟨t', rfl⟩ := ry; exact PySem.EqMixed.ne_str_int (fin_bl I q (by simp))
    | str j => obtain ⟨t', rfl⟩ := ry; exact ne_str (fin_bl I q (congrArg not dec_str))
    | _ => exact absurd (show false = true from hs) Bool.false_ne_true
  | byt i =>
    obtain ⟨t, rfl⟩ := rx
    cases y with
    | byt j => obtain ⟨t', rfl⟩ := ry; exact PySem.W.ne_bytes (fin_bl I q (congrArg not dec_byt))
    | _ => exact absurd (show false = true from hs) Bool.false_ne_true
  | _ => cases y <;> exact absurd (show false = true from hs) Bool.false_ne_true

theorem op_lt : OpR X (compareOp .Lt) (rI0 fun i j => .bl (decide (i < j))) := opB0 fun _ _ _ _ _ _ _ q => lt_int q
theorem op_gt : OpR X (compareOp .Gt) (rI0 fun i j => .bl (decide (j < i))) := opB0 fun _ _ _ _ _ _ _ q => gt_int q
/-- is, is not of two objects that are tracked lists or instances -/
def isObj : HO → Bool
  | .lst _ => true
  | .ins _ _ _ => true
  | _ => false
/-- two rules for one operation: by cases -/
theorem OpR.or {f : Value → Value → Sem Value} {r r' : R2} (h : OpR X f r) (h' : OpR X f r') : OpR X f (fun x y H Q => r x y H Q ∨ r' x y H Q) := by
  intro pins s σ H x y v u Q I rx ry q
  rcases q with q | q
  · exact h pins s σ H x y v u Q I rx ry q
  · exact h' pins s σ H x y v u Q I rx ry q

theorem nomark (b : Expr) {op : CmpOp} (h : op ≠ .In := by decide) (h2 : op ≠ .NotIn := by decide) : behindInMarks op b = false := by
  have e1 : (op == CmpOp.In) = false := by cases op <;> first | rfl | exact absurd rfl h
  have e2 : (op == CmpOp.NotIn) = false := by cases op <;> first | rfl | exact absurd rfl h2
  cases b <;> simp [behindInMarks, e1, e2]
/-- a comparison as a value; hm: nomark b, or (for in, not in) by with_unfolding_all rfl -/
theorem pe_cmpR {op : CmpOp} {r : R2} (ho : OpR X (compareOp op) r) (ha : PE X a ta) (hb : PE X b tb) (hm : behindInMarks op b = false) : PE X (.Compare a [op] [b] pos) (tOp r ta tb) := by
  intro pins s σ H Q I h
  exact wpAny_Compare1 (binT ha hb I h fun v u s2 x y H2 I2 rx ry q => ho pins s2 σ H2 x y v u Q I2 rx ry q) hm
/-- a reading of a value as a test -/
def tTest (t : TE) : TT := fun σ H Q => t σ H fun x H' => ∃ k, x = .bl k ∧ Q k H'
theorem pt_cmpR {op : CmpOp} {r : R2} (ho : OpR X (compareOp op) r) (ha : PE X a ta) (hb : PE X b tb) (hm : behindInMarks op b = false) : PT X (.Compare a [op] [b] pos) (tTest (tOp r ta tb)) := by
  intro pins s σ H Q I h
  refine wpAny_isTrue_Compare1 (thn (ha pins s σ H _ I h) fun v s1 ⟨x, H1, I1, r1, q1⟩ => thn (hb pins s1 σ H1 _ I1 q1) fun u s2 ⟨y, H2, I2, r2, q2⟩ =>
    thn (ho pins s2 σ H2 x y v u _ I2 r1 r2 q2) fun c s3 ⟨z, H3, I3, r3, k, e, q3⟩ => ?_) hm
  subst e
  cases r3
  exact wpAny_truthy_bool ⟨H3, I3, q3⟩
/-- a op1 b op2 c -/
def tChain (r r' : R2) (ta tb tc : TE) : TE := fun σ H Q => ta σ H fun x H1 => tb σ H1 fun y H2 => r x y H2 fun z H3 => ∃ k, z = .bl k ∧
  (if k = true then tc σ H3 fun w' H4 => r' y w' H4 Q else Q (.bl false) H3)
/-! ### truth -/
/-- a value's truth by the abstract heap -/
def TruV (K : PySem.W.Frag) (x : V) (H : Hp) (k : Bool) : Prop :=
  match x with
  | .non => k = false
  | .bl b => k = b
  | .int i => k = (i != 0)
  | .str y => y.length ≤ sizeLine ∧ k = ((y.length : Int) != 0)
  | .byt y => y.size ≤ sizeLine ∧ k = ((y.size : Int) != 0)
  | .ref p => (∃ xs, SqL K H p xs ∧ k = !xs.isEmpty) ∨ (∃ xs, SqT K H p xs ∧ k = !xs.isEmpty) ∨ ∃ kvs, H p = some (.dK kvs) ∧ k = !kvs.isEmpty
  | _ => False
theorem isEmpty_kv {κ : Type} {kvs : List (κ × V)} {vs : List (κ × Value)} (r : KV kvs vs) : (!vs.isEmpty) = !kvs.isEmpty := by
  cases r <;> rfl
theorem isEmpty_of {xs : List V} {its : List Value} (r : Vals xs its) : (!its.toArray.isEmpty) = !xs.isEmpty := by
  cases r <;> simp
theorem line63 : (sizeLine : Nat) < 2 ^ 63 := by rw [sizeLine_eq]; decide
theorem tru_ok : TruR X (fun x H Q => ∃ k, TruV X.K x H k ∧ Q k H) := by
  intro pins s σ H x v Q I rx h
  obtain ⟨k, e, q⟩ := h
  have hl := line63
  have hs : sizeLine = 16777216 := sizeLine_eq
  cases x with
  | non =>
    cases rx
    have e' : k = false := e
    subst e'
    exact truthy_none ⟨H, I, q⟩
  | bl b =>
    cases rx
    have e' : k = b := e
    subst e'
    exact wpAny_truthy_bool ⟨H, I, q⟩
  | int i =>
    obtain ⟨t, rfl⟩ := rx
    have e' : k = (i != 0) := e
    subst e'
    exact PySem.P.truthy_int ⟨H, I, q⟩
  | str y =>
    obtain ⟨t, rfl⟩ := rx
    obtain ⟨hy, e'⟩ : y.length ≤ sizeLine ∧ k = ((y.length : Int) != 0) := e
    subst e'
    exact PySem.P.truthy_str (by omega) ⟨H, I.tok _, q⟩
  | byt y =>
    obtain ⟨t, rfl⟩ := rx
    obtain ⟨hy, e'⟩ : y.size ≤ sizeLine ∧ k = ((y.size : Int) != 0) := e
    subst e'
    exact PySem.W.truthy_bytes (by omega) ⟨H, I.tok _, q⟩
  | ref p =>
    cases rx
    have e' : (∃ xs, SqL X.K H p xs ∧ k = !xs.isEmpty) ∨ (∃ xs, SqT X.K H p xs ∧ k = !xs.isEmpty) ∨ ∃ kvs, H p = some (.dK kvs) ∧ k = !kvs.isEmpty := e
    rcases e' with ⟨xs, hx, e'⟩ | ⟨xs, hx, e'⟩ | ⟨kvs, hx, e'⟩
    · subst e'
      obtain ⟨its, r, pl, hz⟩ := I.list hx
      have hlen := r.length
      exact wpAny_truthy_list pl.isList (by simp only [List.size_toArray]; omega) ⟨H, I.tok _, by rw [isEmpty_of r]; exact q⟩
    · subst e'
      obtain ⟨its, r, pl, hz⟩ := I.tuple hx
      have hlen := r.length
      exact truthy_tuple pl (by simp only [List.size_toArray]; omega) ⟨H, I.tok _, by rw [isEmpty_of r]; exact q⟩
    · subst e'
      obtain ⟨hz, hS, vs, r, m⟩ : kvs.length ≤ sizeLine ∧ (p == sysModules) = false ∧ ∃ vs, KV kvs vs ∧ s.heap.DictOf (mixKind X.prog X.w) p vs := I.hok p _ hx
      have hlen : kvs.length = vs.length := Paired.length r
      exact wpAny_truthy_dict hS m (by omega) ⟨H, I.tok _, by rw [isEmpty_kv r]; exact q⟩
  | _ => exact (show False from e).elim
/-- any expression whose test is its value's truth (a name, a call, a subscript, a field ..: he by fun _ => rfl) -/
theorem pt_truth (ha : PE X a ta) (he : ∀ whole, isTrue a X.env whole = (do let v ← whole; standAt a.pos; holding [v] (truthy v))) :
    PT X a (fun σ H Q => ta σ H fun x H' => ∃ k, TruV X.K x H' k ∧ Q k H') := by
  intro pins s σ H Q I h
  exact isTrue_plain (thn (ha pins s σ H _ I h) fun v s1 ⟨x, H1, I1, r1, q1⟩ => tru_ok pins s1 σ H1 x v Q I1 r1 q1) (he _)

/-! ### strs and bytes -/
def PlainIxT (b : Expr) : Prop := ∀ o i, subscripted b false o i = operate [o, i] (getItem o i)
/-! ### scalar builtins, by CallR -/
theorem vals1 {x : V} {us : List Value} (r : Vals [x] us) : ∃ u, us = [u] ∧ RelV x u := by
  cases r with
  | cons r1 r2 => cases r2; exact ⟨_, rfl, r1⟩
theorem vals2 {x y : V} {us : List Value} (r : Vals [x, y] us) : ∃ u w', us = [u, w'] ∧ RelV x u ∧ RelV y w' := by
  cases r with
  | cons r1 r2 =>
    cases r2 with
    | cons r3 r4 => cases r4; exact ⟨_, _, rfl, r1, r3⟩
theorem call_int1 : CallR X (.type "int") (fun xs H Q => (∃ i, xs = [.int i] ∧ Q (.int i) H) ∨ ∃ k, xs = [.bl k] ∧ Q (.int (if k then 1 else 0)) H) := by
  intro pins s σ H xs us Q I r h
  rcases h with ⟨i, rfl, q⟩ | ⟨k, rfl, q⟩
  · obtain ⟨u, rfl, t, rfl⟩ := vals1 r
    exact call_int_int ⟨.int i, H, I, ⟨_, rfl⟩, q⟩
  · obtain ⟨u, rfl, r1⟩ := vals1 r
    cases r1
    exact call_int_bool ⟨.int (if k then 1 else 0), H, I.tok _, ⟨_, rfl⟩, q⟩
/-- len of a str, a bytes, a list, a tuple -/
def LenV (K : PySem.W.Frag) (x : V) (H : Hp) (n : Nat) : Prop :=
  match x with
  | .str y => y.length ≤ sizeLine ∧ n = y.length
  | .byt y => y.size ≤ sizeLine ∧ n = y.size
  | .ref p => (∃ xs, SqL K H p xs ∧ n = xs.length) ∨ ∃ xs, SqT K H p xs ∧ n = xs.length
  | _ => False
end
end L2

namespace L2
open PySem PySem.Spec PyProof.Rows

/-! ### an instance, its attributes a map -/
structure ObjM (h : Heap) (x dx C : Addr) (mA : Str → Option Value) : Prop where
  obj : h.get? x = some (PySem.W.instObj C dx)
  ns : h.Ns1 dx mA
  ne : dx ≠ x

section
variable {prog : Program} {w : World} {A : Around} {E : Value → Shared → Prop} {s : Shared} {K : PySem.W.Frag} {x dx C f : Addr} {mA : Str → Option Value} {name : Str} {v : Value}

end

/-! ### the attributes as a list of pairs -/
def putF (f : Str) (v : V) : List (Str × V) → List (Str × V)
  | [] => [(f, v)]
  | (g, x) :: r => if g = f then (g, v) :: r else (g, x) :: putF f v r
theorem RelO.some_of {v : V} {o : Option Value} (r : RelO (some v) o) : ∃ u, o = some u ∧ RelV v u := by
  cases o with
  | none => exact (show False from r).elim
  | some u => exact ⟨u, rfl, r⟩
section
variable {P : Program} {w : World} {H H' : Hp} {h h' : Heap} {a C dx : Addr} {fs fs' : List (Str × V)}
end

/-! ### what of the text a class must have -/
structure Cls (K : PySem.W.Frag) (C : Addr) : Prop where
  pg : PySem.W.plainGet K C Str.empty = true
  hd : PySem.W.hasDictIn K C = true
  po : PySem.W.plainOver K C = true
  sa : PySem.W.findIn K (.ref C) "__setattr__" = some (some (.builtin "object.__setattr__"))
theorem Cls.get {K : PySem.W.Frag} {C : Addr} (c : Cls K C) (f : Str) : PySem.W.plainGet K C f = true := c.pg
/-- no class of it has the name -/
def NoAttr (K : PySem.W.Frag) (C : Addr) (f : Str) : Prop := PySem.W.findIn K (.ref C) f = some none
/-- a constant of the class -/
structure Con (K : PySem.W.Frag) (C : Addr) (f : Str) (v : V) (u : Value) : Prop where
  at_ : PySem.W.findIn K (.ref C) f = some (some u)
  rel : RelV v u
  get : PySem.W.specialIn K u "__get__" = some none
  cp : PySem.W.copiedNames.contains f = false
/-- a method: a plain def of the class or of one above it -/
structure Meth (K : PySem.W.Frag) (C : Addr) (m : Str) (f : Addr) : Prop where
  at_ : PySem.W.findIn K (.ref C) m = some (some (.ref f))
  fn : PySem.W.isFn K (.ref f) = true
  kp : PySem.W.keepIn K (.ref f) = true

section
variable {X : Cx} {pins : List (Addr × Obj)} {σ : St} {H : Hp} {s : Shared} {a C dx : Addr} {fs : List (Str × V)} {f : Str} {v : V} {A : Around} {E : Value → Shared → Prop}

/-- a new instance, tracked, without attributes -/
theorem Inv.made (I : Inv X pins σ H s) : Inv X pins σ (upd (upd H s.heap.objs.size (.own (s.heap.objs.size + 1))) (s.heap.objs.size + 1) (.ins C s.heap.objs.size []))
    { s with heap := (s.heap.push PySem.W.emptyDict).push (PySem.W.instObj C s.heap.objs.size) } := by
  have e1 : (s.heap.push PySem.W.emptyDict).get? s.heap.objs.size = some PySem.W.emptyDict := Heap.get?_push_size s.heap rfl
  have e2 : ((s.heap.push PySem.W.emptyDict).push (PySem.W.instObj C s.heap.objs.size)).get? (s.heap.objs.size + 1) = some (PySem.W.instObj C s.heap.objs.size) := by
    have := Heap.get?_push_size (s.heap.push PySem.W.emptyDict) (o := PySem.W.instObj C s.heap.objs.size) rfl
    rwa [Heap.size_push] at this
  have e3 : (s.heap.push PySem.W.emptyDict).Ns s.heap.objs.size (fun _ => none) := ⟨PySem.W.emptyDict, #[], _, e1, rfl, (fun e he => absurd he (by simp)), fun _ => rfl⟩
  have I1 := I.laid (a := s.heap.objs.size) (o := .own (s.heap.objs.size + 1)) (h' := s.heap.push PySem.W.emptyDict) (t' := s.toks) (fun b u q => Heap.get?_push_of_some _ q) (Nat.le_refl _) ⟨_, e1⟩
  refine I1.laid (a := s.heap.objs.size + 1) (o := .ins C s.heap.objs.size []) (t' := s.toks) (fun b u q => Heap.get?_push_of_some _ q) (Nat.le_of_eq (Heap.size_push _ _)) ?_
  have ne : s.heap.objs.size ≠ s.heap.objs.size + 1 := Nat.ne_of_lt (Nat.lt_succ_self _)
  refine ⟨by rw [upd_ne ne, upd_same], Nat.zero_le _, ne, e2, fun _ => none, (Heap.Ns1.of_empty e3).at fun o q => Heap.get?_push_of_some _ q, fun _ => True.intro, fun y hy => absurd rfl hy⟩

end

/-! ### readings and rules -/
/-- e.f, an attribute of the instance -/
def tFld (K : PySem.W.Frag) (ta : TE) (f : Str) : TE := fun σ H Q => ta σ H fun x H1 => ∃ a C dx fs v, x = .ref a ∧ H1 a = some (.ins C dx fs) ∧ Cls K C ∧ NoAttr K C f ∧ fs.lookup f = some v ∧ Q v H1
/-- e.f, a constant of the class -/
def tCon (K : PySem.W.Frag) (ta : TE) (f : Str) : TE := fun σ H Q => ta σ H fun x H1 => ∃ a C dx fs v u, x = .ref a ∧ H1 a = some (.ins C dx fs) ∧ Cls K C ∧ Con K C f v u ∧ fs.lookup f = none ∧ Q v H1
/-- e.f = value -/
def sFld (K : PySem.W.Frag) (ta tv : TE) (f : Str) : TS := fun D σ H => tv σ H fun y H1 => ta σ H1 fun x H2 => ∃ a C dx fs, x = .ref a ∧ H2 a = some (.ins C dx fs) ∧ Cls K C ∧ NoAttr K C f ∧ fs.length < 1000 ∧
  D.nx σ (upd H2 a (.ins C dx (putF f y fs)))
/-- an augmented operator on two values -/
def InOp (X : Cx) (op : Operator) (rd : V → V → Hp → VK → Prop) : Prop :=
  ∀ (pins : List (Addr × Obj)) (s : Shared) (σ : St) (H : Hp) (x y : V) (u v : Value) (Q : VK), Inv X pins σ H s → RelV x u → RelV y v → rd x y H Q → wpAny (model X.prog X.w) X.A (inplaceOp op u v) (EP X pins σ Q) X.xe s
/-- e.f op= value -/
def sFldAug (K : PySem.W.Frag) (ta tv : TE) (rd : V → V → Hp → VK → Prop) (f : Str) : TS := fun D σ H => ta σ H fun x H1 => ∃ a C dx fs v, x = .ref a ∧ H1 a = some (.ins C dx fs) ∧ Cls K C ∧ NoAttr K C f ∧ fs.lookup f = some v ∧
  tv σ H1 fun y H2 => rd v y H2 fun z H3 => ∃ dx' fs', H3 a = some (.ins C dx' fs') ∧ fs'.length < 1000 ∧ D.nx σ (upd H3 a (.ins C dx' (putF f z fs')))

section
variable {X : Cx} {o e value : Expr} {f : Str} {pos pos' tpos : Pos} {ta tv : TE}
def rAdd : V → V → Hp → VK → Prop := fun x y H Q => ∃ i j, x = .int i ∧ y = .int j ∧ Q (.int (i + j)) H
def rSub : V → V → Hp → VK → Prop := fun x y H Q => ∃ i j, x = .int i ∧ y = .int j ∧ Q (.int (i - j)) H
end

/-! ### isinstance -/
section
variable {X : Cx} {pins : List (Addr × Obj)} {σ : St} {H : Hp} {s : Shared} {A : Around} {E : Value → Shared → Prop} {Q : Value → Shared → Prop} {c : Value} {b : Bool}
/-- the type of a value, as the fragment's deciders take it; for an instance its class -/
inductive TyOf (K : PySem.W.Frag) (H : Hp) : V → Value → Prop where
  | non : TyOf K H .non (.type "NoneType")
  | bl (x : Bool) : TyOf K H (.bl x) (.type "bool")
  | int (i : Int) : TyOf K H (.int i) (.type "int")
  | str (x : Str) : TyOf K H (.str x) (.type "str")
  | flt (x : UInt64) : TyOf K H (.flt x) (.type "float")
  | lst {a : Addr} {xs : List V} (e : H a = some (.lst xs)) : TyOf K H (.ref a) (.type "list")
  | frz {a : Addr} {o : Obj} {xs : List V} (e : H a = some (.frz o (.lst xs))) : TyOf K H (.ref a) (.type "list")
  | tup {a : Addr} {xs : List V} (e : H a = some (.tup xs)) : TyOf K H (.ref a) (.type "tuple")
  | dK {a : Addr} {kvs : List (Key × V)} (e : H a = some (.dK kvs)) : TyOf K H (.ref a) (.type "dict")
  | dT {a : Addr} {kvs : List (List Key × V)} (e : H a = some (.dT kvs)) : TyOf K H (.ref a) (.type "dict")
  | ins {a C dx : Addr} {fs : List (Str × V)} (e : H a = some (.ins C dx fs)) (cl : Cls K C) (ha : PySem.W.findIn K (.ref C) "__class__" = some (some (.builtin "object.__class__")))
      (hn : PySem.W.specialIn K (.builtin "object.__class__") "__get__" = some (some (.builtin "getset_descriptor.__get__"))) (htk : PySem.W.takesIn K (.builtin "object.__class__") = some true)
      (hm : PySem.W.mroIn K C (.type "object") = some true) : TyOf K H (.ref a) (.ref C)
end
end L2

namespace L2
open PySem PySem.Spec PyProof.Rows

/-! ### room -/
structure Room (k : Nat) (A : Around) : Prop where
  hd : A.handled = none
  dp : A.depth + 3 * k + 5 < recursionLimit
  un : A.units + 16 * k + 200 < cLine
theorem Room.mono {j k : Nat} {A : Around} (r : Room k A) (h : j ≤ k) : Room j A := ⟨r.hd, by have := r.dp; omega, by have := r.un; omega⟩
theorem Room.deeper {k : Nat} {A : Around} (r : Room (k + 1) A) (env : Env) : Room k (A.deeper env) :=
  ⟨r.hd, by have := r.dp; show A.depth + 1 + 3 * k + 5 < _; omega, by have := r.un; show A.units + 3 + 16 * k + 200 < _; omega⟩
theorem Room.depth {k : Nat} {A : Around} (r : Room k A) : A.depth < recursionLimit := by have := r.dp; omega
theorem Room.units {k : Nat} {A : Around} (r : Room k A) : A.units + 64 < cLine := by have := r.un; omega
/-! ### argument lists and displays -/
def tNil : TA := fun _ H Q => Q [] H
def tCons (ta : TE) (tr : TA) : TA := fun σ H Q => ta σ H fun x H1 => tr σ H1 fun xs H2 => Q (x :: xs) H2
section
variable {X : Cx} {e : Expr} {es : List Expr} {te : TE} {t : TA} {pos : Pos}
theorem pa_nil : PA X [] tNil := fun _ _ _ _ H Q I h => Calls.spliced_nil ⟨[], H, I, .nil, h⟩
theorem pa_cons (ha : PE X e te) (hr : PA X es t) (hs : starEach (e :: es) X.env = (false, eval e X.env) :: starEach es X.env := by rfl) : PA X (e :: es) (tCons te t) := by
  intro pos pins s σ H Q I h
  rw [hs]
  show wpAny _ _ (spliced ((false, eval e X.env) :: backTo pos (starEach es X.env))) _ _ s
  refine Calls.spliced_cons (thn (ha pins s σ H _ I h) fun u s1 ⟨x, H1, I1, r1, q1⟩ => ?_)
  exact thn (hr pos pins s1 σ H1 _ I1 q1) fun us s2 ⟨xs, H2, I2, r2, q2⟩ => ⟨x :: xs, H2, I2, .cons r1 r2, q2⟩

/-- a tuple, a list of written items -/
def tTup (t : TA) : TE := fun σ H Q => t σ H fun xs H1 => xs.length ≤ sizeLine ∧ ∀ p, H1 p = none → Q (.ref p) (upd H1 p (.tup xs))
def tLst (t : TA) : TE := fun σ H Q => t σ H fun xs H1 => xs.length ≤ sizeLine ∧ ∀ p, H1 p = none → Q (.ref p) (upd H1 p (.lst xs))
theorem pe_tup {x1} (h : PA X es t) : PE X (.Tuple es x1 pos) (tTup t) := by
  intro pins s σ H Q I hq
  refine wpAny_Tuple_spliced (thn (h pos pins s σ H _ I hq) fun us s1 ⟨xs, H1, I1, r, z, q⟩ => ⟨by rw [← r.length]; exact z, ?_⟩)
  have hf : H1 s1.heap.objs.size = none := I1.hok.fresh (Nat.le_refl _)
  refine ⟨.ref s1.heap.objs.size, upd H1 s1.heap.objs.size (.tup xs), I1.laid (t' := s1.toks) (fun b u e => Heap.get?_push_of_some _ e) (Nat.le_refl _) ?_, rfl, q _ hf⟩
  exact ⟨z, us, r, ⟨_, Heap.get?_push_size _ rfl, rfl, _, rfl⟩⟩
theorem pe_lst (h : PA X es t) : PE X (.List es pos) (tLst t) := by
  intro pins s σ H Q I hq
  refine wpAny_List_spliced (thn (h pos pins s σ H _ I hq) fun us s1 ⟨xs, H1, I1, r, z, q⟩ => ⟨by rw [← r.length]; exact z, ?_⟩)
  have hf : H1 s1.heap.objs.size = none := I1.hok.fresh (Nat.le_refl _)
  refine ⟨.ref s1.heap.objs.size, upd H1 s1.heap.objs.size (.lst xs), I1.laid (t' := s1.toks) (fun b u e => Heap.get?_push_of_some _ e) (Nat.le_refl _) ?_, rfl, q _ hf⟩
  exact ⟨z, us, 0, r, Heap.get?_push_size _ rfl⟩
end

/-! ### what a def promises -/
/-- a def's promise: the bound arguments in the parameters' order, the heap, the wanted end, the wanted exception -/
abbrev Sp := List V → Hp → VK → XK → Prop
/-- how an exception lies behind a call (file 08 gives it): the callers' frames, abstract heap and state ahead of the call, the wish, the exception, the state -/
abbrev CXT := List Env → Hp → Shared → XK → Value → Shared → Prop

/-- the state at a call -/
structure Env0 (P : Program) (w : World) (K : PySem.W.Frag) (mg : Str → Option Value) (base : Heap) (A : Around) (outer : List Env) (s : Shared) (H : Hp) : Prop where
  frames : A.frames = some outer
  mod : Mod K mg base
  bs : ∀ b o, base.get? b = some o → s.heap.get? b = some o ∧ H b = none
  bsz : base.objs.size ≤ s.heap.objs.size
  funs : s.heap.FunFrames base outer
  frf : ∀ b ∈ frs outer, H b = none
  hok : HOk P w H s.heap
  bare : AllBare s.gens
/-- a call's end -/
def CE (outer : List Env) (P : Program) (w : World) (H : Hp) (s : Shared) (Q : VK) (u : Value) (s' : Shared) : Prop :=
  ∃ v H', s'.os = s.os ∧ AllBare s'.gens ∧ Un (frs outer) [] H H' s.heap s'.heap ∧ HOk P w H' s'.heap ∧ RelV v u ∧ Q v H'
def CR (CX : CXT) (outer : List Env) (P : Program) (w : World) (H : Hp) (s : Shared) (Q : VK) (E : XK) (r : Result) (s' : Shared) : Prop :=
  match r with
  | .ok (.ret u) => CE outer P w H s Q u s'
  | .ok _ => False
  | .error e => CX outer H s E e s'
structure FnOk (P : Program) (w : World) (K : PySem.W.Frag) (mg : Str → Option Value) (base : Heap) (CX : CXT) (k : Nat) (f : Addr) (fd : FuncData) (ps : List Str) (sp : Sp) : Prop where
  len : ∀ vs H Q E, sp vs H Q E → vs.length = ps.length
  run : ∀ (A : Around) (outer : List Env) (s : Shared) (H : Hp) (args : Args) (us : List Value) (vs : List V) (Q : VK) (E : XK), Room k A → Env0 P w K mg base A outer s H → BindsTo s fd args (ps.zip us) → Vals vs us → sp vs H Q E →
    codeAny (model P w) A (.call (.ref f) args) (CR CX outer P w H s Q E) s
theorem FnOk.mono {P : Program} {w : World} {K : PySem.W.Frag} {mg : Str → Option Value} {base : Heap} {CX : CXT} {j k : Nat} {f : Addr} {fd : FuncData} {ps : List Str} {sp : Sp} (F : FnOk P w K mg base CX j f fd ps sp) (h : j ≤ k) :
    FnOk P w K mg base CX k f fd ps sp := ⟨F.len, fun A outer s H args us vs Q E hr => F.run A outer s H args us vs Q E (hr.mono h)⟩
/-- a weaker promise -/
theorem FnOk.imp {P : Program} {w : World} {K : PySem.W.Frag} {mg : Str → Option Value} {base : Heap} {CX : CXT} {k : Nat} {f : Addr} {fd : FuncData} {ps : List Str} {sp sp' : Sp} (F : FnOk P w K mg base CX k f fd ps sp)
    (h : ∀ vs H Q E, sp' vs H Q E → sp vs H Q E) : FnOk P w K mg base CX k f fd ps sp' :=
  ⟨fun vs H Q E q => F.len vs H Q E (h _ _ _ _ q), fun A outer s H args us vs Q E hr he hb hv hs => F.run A outer s H args us vs Q E hr he hb hv (h _ _ _ _ hs)⟩

section
variable {X : Cx} {pins : List (Addr × Obj)} {σ : St} {H : Hp} {s s' : Shared}
/-- from a body: what a callee wants -/
theorem Inv.env0 (I : Inv X pins σ H s) : Env0 X.prog X.w X.K X.mg X.base X.A X.stack s H :=
  ⟨I.ok.frames, I.ok.mod, I.bs, Nat.le_trans I.ok.bsz I.sz, I.stack, I.stkFree, I.hok, I.bare⟩
/-- behind a call -/
theorem Inv.after {Q : VK} {u : Value} (I : Inv X pins σ H s) (h : CE X.stack X.prog X.w H s Q u s') : EP X pins σ Q u s' := by
  obtain ⟨v, H', os, bare, un, hok, r, q⟩ := h
  obtain ⟨hh, g, d, t, os'⟩ := s'
  obtain rfl : os' = s.os := os
  exact ⟨v, H', I.call (h' := hh) (g' := g) (d' := d) (t' := t) (ch := []) un hok bare (fun b z => absurd z (by simp)), r, q⟩
end

/-! ### calls -/
/-- f(..): the written arguments, then the defaults dvs; E: what is wanted of an exception -/
def tCall (sp : Sp) (dvs : List V) (E : XK) (t : TA) : TE := fun σ H Q => t σ H fun vs H1 => sp (vs ++ dvs) H1 Q E
/-- o.m(..) of an instance of the class at C -/
def tMeth (C : Addr) (m : Str) (sp : Sp) (dvs : List V) (E : XK) (ta : TE) (t : TA) : TE := fun σ H Q => ta σ H fun x H1 => ∃ a dx fs, x = .ref a ∧ H1 a = some (.ins C dx fs) ∧ fs.lookup m = none ∧
  t σ H1 fun vs H2 => sp (x :: (vs ++ dvs)) H2 Q E
/-- C(..): a new instance and its dict, then __init__ -/
def tMake (C : Addr) (sp : Sp) (dvs : List V) (E : XK) (t : TA) : TE := fun σ H Q => t σ H fun vs H1 => ∀ x dx, H1 x = none → H1 dx = none → dx ≠ x →
  sp (.ref x :: (vs ++ dvs)) (upd (upd H1 dx (.own x)) x (.ins C dx [])) (fun v H2 => v = .non ∧ Q (.ref x) H2) E

/-- how the parameters are bound: us the positional arguments, kw the keywords' values by name, ds the defaults that fill up -/
def Binds (K : PySem.W.Frag) (fd : FuncData) (ps : List Str) (ds : List Value) : Prop :=
  ∀ (s : Shared) (us : List Value), K.In s.heap → (us ++ ds).length = ps.length → BindsTo s fd ⟨us, []⟩ (ps.zip (us ++ ds))
/-- every parameter is given -/
theorem Binds.all {K : PySem.W.Frag} {fd : FuncData} {ps : List Str} (h : ∀ us : List Value, us.length = ps.length → bindArgs fd ⟨us, []⟩ = pure (ps.zip us)) : Binds K fd ps [] := fun s us _ hl => by
  rw [List.append_nil] at hl ⊢
  exact .of_eq (h us hl)

/-- an exception of a callee reaches what this body wants of exceptions -/
def Passes (CX : CXT) (X : Cx) (E : XK) : Prop := ∀ (pins : List (Addr × Obj)) (σ : St) (H : Hp) (s : Shared) (e : Value) (s' : Shared), Inv X pins σ H s → CX X.stack H s E e s' → X.xe e s'

section
variable {X : Cx} {CX : CXT} {k : Nat} {f C : Addr} {fd : FuncData} {ps : List Str} {sp : Sp} {dvs : List V} {ds : List Value} {E : XK} {x m : Str} {p pos apos : Pos} {e o : Expr} {es : List Expr} {ta : TE} {t : TA}

/-- the callee runs -/
theorem run_fn {pins : List (Addr × Obj)} {σ : St} {H : Hp} {s : Shared} {Q : VK} {us : List Value} {vs : List V} (F : FnOk X.prog X.w X.K X.mg X.base CX k f fd ps sp) (hr : Room k X.A) (hb : Binds X.K fd ps ds) (hd : Vals dvs ds) (hx : Passes CX X E)
    (I : Inv X pins σ H s) (r : Vals vs us) (h : sp (vs ++ dvs) H Q E) : wpAny (model X.prog X.w) X.A (call (.ref f) us) (EP X pins σ Q) X.xe s := by
  have r2 : Vals (vs ++ dvs) (us ++ ds) := r.append hd
  have hl : (us ++ ds).length = ps.length := by rw [← r2.length]; exact F.len _ _ _ _ h
  refine wpAny_call (codeAny_mono (F.run X.A X.stack s H ⟨us, []⟩ (us ++ ds) (vs ++ dvs) Q E hr I.env0 (hb s us I.kIn hl) r2 h) fun r s' hq => ?_)
  cases r with
  | error e => exact hx pins σ H s e s' I hq
  | ok fl =>
    cases fl with
    | ret u => exact I.after hq
    | next => exact False.elim hq
    | brk => exact False.elim hq
    | cont => exact False.elim hq

theorem pe_call (F : FnOk X.prog X.w X.K X.mg X.base CX k f fd ps sp) (hr : Room k X.A) (hg : Gl X x) (hm : X.mg x = some (.ref f)) (hk : PySem.W.keepIn X.K (.ref f) = true) (hb : Binds X.K fd ps ds) (hd : Vals dvs ds) (hx : Passes CX X E)
    (ha : PA X (e :: es) t) (hdb : (x == ("__debug__" : Str)) = false := by decide) (he : starEach (e :: es) X.env = (false, eval e X.env) :: starEach es X.env := by rfl) (hpl : (backTo pos (starEach es X.env)).any (·.1) = false := by rfl) :
    PE X (.Call (.Name x p) (e :: es) [] pos) (tCall sp dvs E t) := by
  intro pins s σ H Q I h
  refine wpAny_Call_Name_kw (ld_glob I hg hm ?_ hdb)
  refine PySem.W.callWith_K (h₀ := X.base) I.ok.mod.kin hk (thn (ha pos pins s σ H _ I h) fun us s1 ⟨vs, H1, I1, r, q⟩ => ⟨I1.kIn, ?_⟩) he hpl
  exact run_fn F hr hb hd hx I1 r q
/-- what a class must have to be made -/
structure Mk (K : PySem.W.Frag) (C f : Addr) : Prop where
  makes : PySem.W.makesIn K C = true
  init : PySem.W.findIn K (.ref C) "__init__" = some (some (.ref f))
  fn : PySem.W.isFn K (.ref f) = true
  kp : PySem.W.keepIn K (.ref C) = true

end

/-! ### keywords -/
/-- the values of the keywords, from the left -/
def PK (X : Cx) (kws : List Keyword) (t : TA) : Prop :=
  ∀ (pos : Pos) (pins : List (Addr × Obj)) (s : Shared) (σ : St) (H : Hp) (Q : List V → Hp → Prop), Inv X pins σ H s → t σ H Q → wpAny (model X.prog X.w) X.A (evalAll ((backToKw pos (keywordEach kws X.env)).map (·.2))) (AP X pins σ Q) X.xe s
section
variable {X : Cx} {CX : CXT} {k : Nat} {f C : Addr} {fd : FuncData} {ps ks : List Str} {sp : Sp} {E : XK} {x m : Str} {p pos apos kpos : Pos} {e o : Expr} {es : List Expr} {kws : List Keyword} {te ta : TE} {t tk : TA} {nm : Option Str}
/-- how a call with keywords binds: g puts the positional values us and the keywords' values ws (names ks) in the parameters' order, defaults among them -/
structure KBinds (K : PySem.W.Frag) (fd : FuncData) (ps ks : List Str) (g : List Value → List Value → List Value) (gV : List V → List V → List V) : Prop where
  to : ∀ (s : Shared) (us ws : List Value), K.In s.heap → (g us ws).length = ps.length → BindsTo s fd ⟨us, ks.zip ws⟩ (ps.zip (g us ws))
  rel : ∀ {vs : List V} {us : List Value} {zs : List V} {ws : List Value}, Vals vs us → Vals zs ws → Vals (gV vs zs) (g us ws)
def tCallK (sp : Sp) (gV : List V → List V → List V) (E : XK) (t tk : TA) : TE := fun σ H Q => t σ H fun vs H1 => tk σ H1 fun zs H2 => sp (gV vs zs) H2 Q E
variable {g : List Value → List Value → List Value} {gV : List V → List V → List V}
end

/-! ### a def's body keeps its promise -/
/-- names: the parameters first -/
structure FnScope (N P : List Str) (sc : Scope) : Prop where
  kind : sc.kind = .function
  co : sc.isCoroutine = false
  gen : sc.isGenerator = false
  nd : N.Nodup
  pre : N.take P.length = P
  par : ∀ x ∈ P, sc.names.lookup x = some .local ∨ sc.names.lookup x = some .cell
  nofree : ∀ y ∈ sc.names, y.2 ≠ .free

theorem bindL_out {kindOf : Str → Option NameKind} {x : Str} : ∀ {binds : List (Str × Value)} {m : Str → Option Value}, (∀ v, (x, v) ∉ binds) → bindL kindOf binds m x = m x
  | [], _, _ => rfl
  | (n, v) :: r, m, h => by
    unfold bindL
    rw [bindL_out fun w hw => h w (List.mem_cons_of_mem _ hw)]
    split
    · have : x ≠ n := by rintro rfl; exact h v List.mem_cons_self
      simp [this]
    · rfl
theorem bindC_out {kindOf : Str → Option NameKind} {x : Str} : ∀ {binds : List (Str × Value)} {m : Str → Option Value}, (∀ v, (x, v) ∉ binds) → bindC kindOf binds m x = m x
  | [], _, _ => rfl
  | (n, v) :: r, m, h => by
    unfold bindC
    rw [bindC_out fun w hw => h w (List.mem_cons_of_mem _ hw)]
    split
    · rfl
    · have : x ≠ n := by rintro rfl; exact h v List.mem_cons_self
      simp [this]
theorem bindL_get {kindOf : Str → Option NameKind} {x : Str} {v : Value} : ∀ {P : List Str} {vs : List Value} {i : Nat} {m : Str → Option Value}, P.Nodup → P[i]? = some x → vs[i]? = some v → kindOf x = some .local →
    bindL kindOf (P.zip vs) m x = some v
  | [], _, _, _, _, h, _, _ => by simp at h
  | _ :: _, [], _, _, _, _, h, _ => by simp at h
  | p :: P, w :: vs, 0, m, nd, h1, h2, hk => by
    simp at h1 h2; subst h1; subst h2
    show bindL kindOf ((p, w) :: P.zip vs) m p = _
    unfold bindL
    rw [bindL_out fun v hv => (List.nodup_cons.mp nd).1 (List.of_mem_zip hv).1, if_pos hk]
    simp
  | p :: P, w :: vs, i + 1, m, nd, h1, h2, hk => by
    show bindL kindOf ((p, w) :: P.zip vs) m x = _
    unfold bindL
    exact bindL_get (i := i) (List.nodup_cons.mp nd).2 (by simpa using h1) (by simpa using h2) hk
theorem bindC_get {kindOf : Str → Option NameKind} {x : Str} {v : Value} : ∀ {P : List Str} {vs : List Value} {i : Nat} {m : Str → Option Value}, P.Nodup → P[i]? = some x → vs[i]? = some v → kindOf x ≠ some .local →
    bindC kindOf (P.zip vs) m x = some v
  | [], _, _, _, _, h, _, _ => by simp at h
  | _ :: _, [], _, _, _, _, h, _ => by simp at h
  | p :: P, w :: vs, 0, m, nd, h1, h2, hk => by
    simp at h1 h2; subst h1; subst h2
    show bindC kindOf ((p, w) :: P.zip vs) m p = _
    unfold bindC
    rw [bindC_out fun v hv => (List.nodup_cons.mp nd).1 (List.of_mem_zip hv).1, if_neg hk]
    simp
  | p :: P, w :: vs, i + 1, m, nd, h1, h2, hk => by
    show bindC kindOf ((p, w) :: P.zip vs) m x = _
    unfold bindC
    exact bindC_get (i := i) (List.nodup_cons.mp nd).2 (by simpa using h1) (by simpa using h2) hk

/-- the names' values at the entry -/
def start (N : List Str) (vs : List V) : St := vs.map some ++ List.replicate (N.length - vs.length) none

/-- the context of a def's body, at its entry; an exception leaves the frame, then lies as CX says -/
def cxOf (CX : CXT) (P : Program) (w : World) (K : PySem.W.Frag) (mg : Str → Option Value) (base : Heap) (N : List Str) (qual : Str) (scope : Scope) (f : Addr) (cd : Value) (A : Around) (outer : List Env) (s : Shared) (H : Hp) (E : XK) : Cx where
  prog := P
  w := w
  K := K
  mg := mg
  base := base
  A := A.deeper (envOfC qual scope s.heap.objs.size f cd)
  N := N
  s₀ := s
  H₀ := H
  env := envOfC qual scope s.heap.objs.size f cd
  outer := outer
  stack := envOfC qual scope s.heap.objs.size f cd :: outer
  ex := []
  calm := true
  fn := fun _ => true
  pn := []
  xe := fun e s' => wpAny (model P w) (A.deeper (envOfC qual scope s.heap.objs.size f cd)) (leaving (envOfC qual scope s.heap.objs.size f cd) e) (fun _ s'' => CX outer H s E e s'') (fun e' s'' => CX outer H s E e' s'') s'

theorem cell_has {sc : Scope} {n : Nat} {x : Str} (h : sc.names.lookup x = some .cell) : ∃ c, (cellsFrom n sc.names []).lookup x = some c := by
  have q := PySem.W.cellsFrom_some sc.names n [] (.inl h)
  exact Option.isSome_iff_exists.mp q

theorem inv_start {CX : CXT} {P : Program} {w : World} {K : PySem.W.Frag} {mg : Str → Option Value} {base : Heap} {N ps : List Str} {qual : Str} {scope : Scope} {f : Addr} {cd : Value} {A : Around} {outer : List Env} {s s1 : Shared} {H : Hp} {E : XK} {us : List Value} {vs : List V}
    (S : FnScope N ps scope) (hd : A.handled = none) (e0 : Env0 P w K mg base A outer s H) (hl : vs.length = ps.length) (r : Vals vs us)
    (x : InCallC s s.heap.objs.size (bindL (envOfC qual scope s.heap.objs.size f cd).kindOf (ps.zip us) fun _ => none) (cellsFrom (s.heap.objs.size + 1) scope.names []) (bindC (envOfC qual scope s.heap.objs.size f cd).kindOf (ps.zip us) fun _ => none) s1) :
    Inv (cxOf CX P w K mg base N qual scope f cd A outer s H E) [] (start N vs) H s1 := by
  have hpl : ps.length ≤ N.length := by have := congrArg List.length S.pre; rw [List.length_take] at this; omega
  obtain ⟨h1, tk, rfl, hk⟩ := x.done
  have noA : ∀ b : Addr, b ∉ (cxOf CX P w K mg base N qual scope f cd A outer s H E).ex := fun b z => absurd (show b ∈ ([] : List Addr) from z) (by simp)
  refine ⟨⟨e0.mod, S.kind, rfl, rfl, Nat.le_refl _, fun y z c h1 h2 => ?_, fun y hy => ?_, fun y c _ h => ?_, fun _ => hd, Around.frames_deeper e0.frames, .inr ⟨rfl, rfl⟩, fun b z => absurd z (noA b), e0.bs, e0.bsz, fun b _ _ => noA b, fun b z => absurd z (noA b), e0.funs, e0.frf⟩,
    rfl, e0.bare, Un.kept hk, ⟨_, x.toInCall.ns, fun i y v h1 h2 h3 => ?_⟩, fun y c h => ⟨_, x.cell y c h⟩, e0.hok.fresh (Nat.le_refl _), fun y c h => ?_, fun p hp => absurd (show p ∈ ([] : List (Addr × Obj)) from hp) (by simp), e0.hok.kept hk, ?_⟩
  · exact name_of_addr x.apart (PySem.mem_of_lookup h1) (PySem.mem_of_lookup h2)
  · have hy : scope.names.lookup y = some .cell ∨ scope.names.lookup y = some .free := hy
    rcases hy with hy | hy
    · exact cell_has hy
    · exact absurd rfl (S.nofree _ (PySem.mem_of_lookup hy))
  · exact Nat.le_of_lt (x.above y c (PySem.mem_of_lookup h))
  · have hi : i < vs.length := by
      unfold start at h2
      by_cases hi : i < vs.length
      · exact hi
      · rw [List.getElem?_append_right (by simpa using hi)] at h2
        rw [List.getElem?_replicate] at h2
        split at h2 <;> cases h2
    have ha : vs[i]? = some v := by
      unfold start at h2
      rw [List.getElem?_append_left (by simpa using hi), List.getElem?_map] at h2
      cases e : vs[i]? with
      | none => rw [e] at h2; cases h2
      | some a => rw [e] at h2; cases h2; rfl
    obtain ⟨u, hu, rv⟩ := r.get ha
    have hp : ps[i]? = some y := by
      rw [← S.pre, List.getElem?_take_of_lt (by omega)]; exact h1
    have ndP : ps.Nodup := by rw [← S.pre]; exact S.nd.sublist (List.take_sublist _ _)
    refine ⟨u, rv, ?_⟩
    rcases S.par y (List.mem_of_getElem? hp) with k | k
    · exact .inl ⟨k, bindL_get ndP hp hu k⟩
    · obtain ⟨c, e⟩ := cell_has (n := s.heap.objs.size + 1) k
      refine .inr ⟨.inl k, c, e, ?_⟩
      have q := x.cell y c e
      rw [bindC_get ndP hp hu (by show scope.names.lookup y ≠ _; rw [k]; decide)] at q
      exact q
  · exact e0.hok.fresh (Nat.le_of_lt (x.above y c (PySem.mem_of_lookup h)))
  · unfold start
    show _ = N.length
    rw [List.length_append, List.length_map, List.length_replicate]
    omega

/-- THE RULE: a def (or a method) of the text, by its body. The body's reading t is chosen for each entry; it is run at the parameters' values -/
theorem fn_of {CX : CXT} {P : Program} {w : World} {K : PySem.W.Frag} {mg : Str → Option Value} {base : Heap} {k : Nat} {f : Addr} {name qual : Str} {params : Arguments} {body : List Stmt} {scope : Scope} {dV kV doc pm cdv ct oc : Value} {an od : Option Addr}
    {osl : Array (Option Value)} {N ps : List Str} {sp : Sp} (lk : K.lookup f = some ⟨oc, od, .func (PySem.W.fnOf name qual params body scope dV kV doc pm an cdv ct), osl⟩) (hcd : PySem.W.codeIn K cdv qual = true) (S : FnScope N ps scope)
    (len : ∀ vs H Q E, sp vs H Q E → vs.length = ps.length)
    (hbody : ∀ (A : Around) (outer : List Env) (s : Shared) (H : Hp) (vs : List V) (Q : VK) (E : XK), Room k (A.deeper (envOfC qual scope s.heap.objs.size f cdv)) → sp vs H Q E →
      ∃ t, PSs (cxOf CX P w K mg base N qual scope f cdv A outer s H E) body t ∧ t { nx := fun _ H' => Q .non H', rt := Q } (start N vs) H) :
    FnOk P w K mg base CX (k + 1) f (PySem.W.fnOf name qual params body scope dV kV doc pm an cdv ct) ps sp := by
  refine ⟨len, fun A outer s H args us vs Q E hr e0 hb r hsp => ?_⟩
  have hl := len _ _ _ _ hsp
  have KX : K.In s.heap := e0.mod.kin.keeps fun b o e => (e0.bs b o e).1
  have lim : s.heap.NoLimit := e0.mod.nolimit.keeps fun b o e => (e0.bs b o e).1
  have hkind : ∀ y ∈ ps.zip us, scope.names.lookup y.1 = some .local ∨ (scope.names.lookup y.1 = some .cell ∧ ((cellsFrom (s.heap.objs.size + 1) scope.names []).lookup y.1).isSome = true) := fun ⟨n, v⟩ hy => by
    rcases S.par n (List.of_mem_zip hy).1 with q | q
    · exact .inl q
    · exact .inr ⟨q, PySem.W.cellsFrom_some _ _ _ (.inl q)⟩
  refine codeAny_call_function hr.depth (KX _ _ lk) rfl S.co S.gen rfl (PySem.W.codeRec_of KX hcd) (hb _ _ _ _ ?_)
  refine wpAny_newFunctionEnv_cells S.kind hkind fun env he s1 x => ?_
  subst he
  refine ⟨lim.keeps x.toInCall.keep, codeAny_func ?_⟩
  obtain ⟨t, ht, hq⟩ := hbody A outer s H vs Q E (hr.deeper _) hsp
  have I : Inv (cxOf CX P w K mg base N qual scope f cdv A outer s H E) [] (start N vs) H s1 := inv_start S hr.hd e0 hl r x
  refine wpAny_mono (ht [] s1 (start N vs) H _ I hq) (fun fl s' hs => ?_) fun e s' hs => hs
  have fin : ∀ {σ' : St} {H' : Hp} {v : V} {u : Value}, Inv (cxOf CX P w K mg base N qual scope f cdv A outer s H E) [] σ' H' s' → RelV v u → Q v H' → CE outer P w H s Q u s' :=
    fun {σ' H' v u} J rv q => ⟨v, H', J.os, J.bare, J.base, J.hok, rv, q⟩
  cases fl with
  | ret u =>
    obtain ⟨v, σ', H', J, rv, q⟩ := hs
    exact fin J rv q
  | next =>
    obtain ⟨σ', H', J, q⟩ := hs
    exact fin (v := V.non) (u := Value.none) J rfl q
  | brk =>
    obtain ⟨_, _, _, q⟩ := hs
    exact False.elim q
  | cont =>
    obtain ⟨_, _, _, q⟩ := hs
    exact False.elim q
end L2

namespace L2
open PySem PySem.Spec PyProof.Rows
section
variable {X : Cx} {x : Str} {p pos : Pos} {e : Expr} {es : List Expr} {t : TA} {id T : String} {r : List V → Hp → VK → Prop}

def tCB (r : List V → Hp → VK → Prop) (t : TA) : TE := fun σ H Q => t σ H fun vs H1 => r vs H1 Q
/-- f(e, ..), f a built-in function -/
theorem pe_callB (hc : CallR X (.builtin id) r) (hg : Gl X x) (hm : X.mg x = none) (hv : bootBuiltins x = some (.builtin id)) (ha : PA X (e :: es) t) (hn : x ≠ "__name__" := by decide) (hdb : (x == ("__debug__" : Str)) = false := by decide)
    (he : starEach (e :: es) X.env = (false, eval e X.env) :: starEach es X.env := by rfl) (hpl : (backTo pos (starEach es X.env)).any (·.1) = false := by rfl) : PE X (.Call (.Name x p) (e :: es) [] pos) (tCB r t) := by
  intro pins s σ H Q I h
  refine wpAny_Call_Name_kw (ld_blt I hg hm hv ?_ hn hdb)
  exact PyProof.Rows.callWith_builtin1 (thn (ha pos pins s σ H _ I h) fun us s1 ⟨vs, H1, I1, r1, q1⟩ => hc pins s1 σ H1 vs us Q I1 r1 q1) he hpl
/-- T(e, ..), T a built-in type -/
theorem pe_callTy (hc : CallR X (.type T) r) (hg : Gl X x) (hm : X.mg x = none) (hv : bootBuiltins x = some (.type T)) (ha : PA X (e :: es) t) (hn : x ≠ "__name__" := by decide) (hdb : (x == ("__debug__" : Str)) = false := by decide)
    (he : starEach (e :: es) X.env = (false, eval e X.env) :: starEach es X.env := by rfl) (hpl : (backTo pos (starEach es X.env)).any (·.1) = false := by rfl) : PE X (.Call (.Name x p) (e :: es) [] pos) (tCB r t) := by
  intro pins s σ H Q I h
  refine wpAny_Call_Name_kw (ld_blt I hg hm hv ?_ hn hdb)
  exact PyProof.Rows.callWith_type1 (thn (ha pos pins s σ H _ I h) fun us s1 ⟨vs, H1, I1, r1, q1⟩ => hc pins s1 σ H1 vs us Q I1 r1 q1) he hpl
end
end L2

namespace HT
open PySem PyProof.Rows

/-- t < u of tuples of ints -/
def lexLt : List Int → List Int → Bool
  | [], [] => false
  | [], _ :: _ => true
  | _ :: _, [] => false
  | x :: xs, y :: ys => if x = y then lexLt xs ys else decide (x < y)
section
open PySem.SeqAt
open PySem.AutoSeq1 (wpAny_loadPart')
open PySem.MeetsSeq PySem.MeetsSeq2 PySem.MeetsSeq3

end

section
variable {prog : Program} {w : World} {A : Around} {E : Value → Shared → Prop} {s : Shared}

/-! ### t[a:b], not the whole -/
/-- a slice's bound as a place among n (d where it is left out) -/
def sIx (n d : Nat) : Option Int → Nat
  | none => d
  | some v => if v < 0 then (v + (n : Int)).toNat else min v.toNat n
theorem sIx_le (n d : Nat) (hd : d ≤ n) (o : Option Int) : sIx n d o ≤ n := by
  cases o with
  | none => exact hd
  | some v =>
    show (if v < 0 then (v + (n : Int)).toNat else min v.toNat n) ≤ n
    by_cases hv : v < 0
    · rw [if_pos hv]; omega
    · rw [if_neg hv]; exact Nat.min_le_right _ _
theorem clip_eq (v : Int) (n d : Nat) : (if v < 0 then max (v + (n : Int)) 0 else min v (n : Int)) = ((sIx n d (some v) : Nat) : Int) := by
  show (if v < 0 then max (v + (n : Int)) 0 else min v (n : Int)) = (((if v < 0 then (v + (n : Int)).toNat else min v.toNat n) : Nat) : Int)
  by_cases hv : v < 0
  · simp only [if_pos hv]; omega
  · simp only [if_neg hv]; omega
theorem adjust_gen (lo hi : Option Int) (n : Nat) : Builtin.Slice.sliceAdjust lo hi 1 (n : Int) = (((sIx n 0 lo : Nat) : Int), ((sIx n n hi : Nat) : Int)) := by
  have h1 : ¬ ((1 : Int) < 0) := by omega
  unfold Builtin.Slice.sliceAdjust
  simp only [h1, if_false]
  refine Prod.ext ?_ ?_
  · cases lo with
    | none => rfl
    | some v => exact clip_eq v n 0
  · cases hi with
    | none => rfl
    | some v => exact clip_eq v n n
theorem places_gen (i j : Nat) : Builtin.Slice.slicePlaces (i : Int) (j : Int) 1 = j - i := by
  unfold Builtin.Slice.slicePlaces
  have h1 : (1 : Int) > 0 := by omega
  simp only [h1, if_true, Int.ediv_one]
  split <;> omega
theorem slicePart_ {v : Value} {o : Option Int} {Q : Option Int → Shared → Prop} (p : IsPart v o) (h : Q o s) : wpAny (model prog w) A (Builtin.Slice.slicePartIndex v) Q E s := by
  cases p with
  | none => exact slicePart_none h
  | int i t => exact slicePart_int h
theorem sliceApplied_gen {sl : Addr} {vl vu : Value} {lo hi : Option Int} {n : Nat} {Q : Int × Int × Nat → Shared → Prop} (hs : s.heap.IsSliceOf sl vl vu .none) (pl : IsPart vl lo) (pu : IsPart vu hi)
    (h : Q (((sIx n 0 lo : Nat) : Int), 1, sIx n n hi - sIx n 0 lo) s) : wpAny (model prog w) A (Builtin.Slice.sliceApplied (.ref sl) (pure (n : Int))) Q E s := by
  obtain ⟨os, hos, hcs, hds⟩ := id hs
  unfold Builtin.Slice.sliceApplied Builtin.Slice.sliceFields
  refine wpAny_bind (wpAny_bind (wpAny_field hos hds (x := vl) rfl (wpAny_bind (wpAny_field hos hds (x := vu) rfl (wpAny_bind (wpAny_field hos hds (x := .none) rfl (wpAny_pure ?_)))))))
  refine wpAny_bind (slicePart_none ?_)
  show wpAny _ _ (if ((1 : Int) == 0) = true then _ else _) _ _ s
  rw [if_neg (by decide)]
  refine wpAny_bind (slicePart_ pl (wpAny_bind (slicePart_ pu (wpAny_bind (wpAny_pure ?_)))))
  show wpAny _ _ (match Builtin.Slice.sliceAdjust lo hi 1 (n : Int) with | (lo, hi) => pure (lo, (1 : Int), Builtin.Slice.slicePlaces lo hi 1)) _ _ s
  rw [adjust_gen lo hi n]
  show wpAny _ _ (pure (((sIx n 0 lo : Nat) : Int), (1 : Int), Builtin.Slice.slicePlaces ((sIx n 0 lo : Nat) : Int) ((sIx n n hi : Nat) : Int) 1)) _ _ s
  rw [places_gen]
  exact wpAny_pure h
theorem pick_gen (xs : Array Value) (i k : Nat) : ((List.range k).filterMap fun (m : Nat) => xs[((i : Int) + (m : Int) * 1).toNat]?).toArray = ((xs.toList.drop i).take k).toArray := by
  have e : (fun (m : Nat) => xs[((i : Int) + (m : Int) * 1).toNat]?) = fun m => xs[i + m]? := by
    funext m
    have : ((i : Int) + (m : Int) * 1).toNat = i + m := by omega
    rw [this]
  rw [e]
  have := pick_run xs i k
  rw [List.filterMap_map] at this
  have e2 : ((fun x => xs[x]?) ∘ fun x => i + x) = fun m => xs[i + m]? := rfl
  rw [e2] at this
  rw [this]

theorem getItem_tuple_cut {t sl : Addr} {items : Array Value} {vl vu : Value} {lo hi : Option Int} {Q : Value → Shared → Prop} (ht : IsTup s.heap t items) (hs : s.heap.IsSliceOf sl vl vu .none) (pl : IsPart vl lo) (pu : IsPart vu hi)
    (hw : ¬ (sIx items.size 0 lo = 0 ∧ sIx items.size items.size hi = items.size))
    (h : Q (.ref s.heap.objs.size) { s with heap := s.heap.push { cls := .type "tuple", data := .seq ((items.toList.drop (sIx items.size 0 lo)).take (sIx items.size items.size hi - sIx items.size 0 lo)).toArray } })
    (hsz : items.size ≤ sizeLine) : wpAny (model prog w) A (getItem (.ref t) (.ref sl)) Q E s := by
  have htake : sizeOk (.seq ((items.toList.drop (sIx items.size 0 lo)).take (sIx items.size items.size hi - sIx items.size 0 lo)).toArray) := by
    show ((items.toList.drop (sIx items.size 0 lo)).take (sIx items.size items.size hi - sIx items.size 0 lo)).toArray.size ≤ sizeLine
    rw [List.size_toArray, List.length_take, List.length_drop, Array.length_toList]
    omega
  have hj : sIx items.size items.size hi ≤ items.size := sIx_le _ _ (Nat.le_refl _) hi
  obtain ⟨os, hos, hcs, hds⟩ := id hs
  have hTs : s.TypeIs (.ref sl) "slice" := ⟨os, hos, hcs⟩
  unfold getItem
  try with_reducible refine wpAny_holding ?_
  first | refine wpAny_bind (wpAny_pure ?_) | skip
  refine wpAny_bind (wpAny_sequenceKey ht.typeIs (by decide) ?_)
  refine wpAny_bind (wpAny_callSpecial?_slot (name := Str.ofString "__getitem__") ht.typeIs PyProof.Rows.slot_tuple_getitem
    (wpAny_call_entry PyProof.Rows.slot_tuple_getitem ht.typeIs entry_tuple_getitem ?_ (args_tuple_getitem _ _)))
  show wpAny _ _ (Builtin.Tuple.tupleItemsOf (.ref t) >>= _) _ _ s
  refine wpAny_bind (tupleItemsOf_ ht ?_)
  refine wpAny_bind (wpAny_typeOf hTs ?_)
  rw [if_pos (by decide)]
  refine wpAny_bind (sliceApplied_gen hs pl pu ?_)
  have hno : ¬ ((((sIx items.size 0 lo : Nat) : Int) == 0 && (1 : Int) == 1 && (sIx items.size items.size hi - sIx items.size 0 lo) == items.size) = true) := by
    intro q
    rw [Bool.and_eq_true, Bool.and_eq_true] at q
    have q1 : ((sIx items.size 0 lo : Nat) : Int) = 0 := eq_of_beq q.1.1
    have q2 : sIx items.size items.size hi - sIx items.size 0 lo = items.size := eq_of_beq q.2
    exact hw ⟨by omega, by omega⟩
  show wpAny _ _ (if (((sIx items.size 0 lo : Nat) : Int) == 0 && (1 : Int) == 1 && (sIx items.size items.size hi - sIx items.size 0 lo) == items.size) = true then _ else _) _ _ s
  rw [if_neg hno, pick_gen]
  first
    | exact wpAny_bind (m := Builtin.Tuple.tupleExact _) (wpAny_newObj_type (wpAny_pure ⟨_, rfl, wpAny_pure h⟩) htake)
    | exact wpAny_bind (m := Builtin.Tuple.tupleExact _) (wpAny_newObj_type (wpAny_bind (wpAny_pure (wpAny_pure ⟨_, rfl, wpAny_pure h⟩))) htake)
    | exact wpAny_bind (wpAny_bind (m := Builtin.Tuple.tupleExact _) (wpAny_newObj_type (wpAny_pure (wpAny_pure ⟨_, rfl, wpAny_pure h⟩)) htake))
    | exact wpAny_bind (wpAny_bind (m := Builtin.Tuple.tupleExact _) (wpAny_newObj_type (wpAny_pure ⟨_, rfl, wpAny_pure h⟩) htake))
end
end HT

namespace L2
open PySem PySem.Spec PyProof.Rows

/-! ### the parts of a slice -/
abbrev TO := St → Hp → (Option Int → Hp → Prop) → Prop
/-- a slice's part (left out, or an int) -/
def PO (X : Cx) (e : Option Expr) (t : TO) : Prop :=
  ∀ (pins : List (Addr × Obj)) (s : Shared) (σ : St) (H : Hp) (Q : Option Int → Hp → Prop), Inv X pins σ H s → t σ H Q →
    wpAny (model X.prog X.w) X.A (evalPart e X.env) (fun u s' => ∃ o H', Inv X pins σ H' s' ∧ IsPart u o ∧ Q o H') X.xe s
def tNoPart : TO := fun _ H Q => Q none H
def tPart (t : TE) : TO := fun σ H Q => t σ H fun x H1 => ∃ i, x = .int i ∧ Q (some i) H1

theorem intsAre_of {ns : List Int} : ∀ {us : List Value}, Vals (ns.map V.int) us → IntsAre us ns := by
  induction ns with
  | nil => intro us r; rw [List.map_nil] at r; cases r; exact .nil
  | cons n ns ih =>
    intro us r
    rw [List.map_cons] at r
    cases r with
    | cons r1 r2 =>
      obtain ⟨t, e⟩ := r1
      subst e
      exact .cons n t (ih r2)

section
variable {X : Cx} {e : Expr} {te : TE} {lo hi : Option Expr} {tl th : TO} {pos p2 : Pos}

theorem po_none : PO X none tNoPart := by
  intro pins s σ H Q I h
  rw [evalPart_none]
  exact wpAny_pure ⟨none, H, I, .none, h⟩
theorem po_some (h : PE X e te) : PO X (some e) (tPart te) := by
  intro pins s σ H Q I hw
  rw [evalPart_some]
  refine thn (h pins s σ H _ I hw) fun u s1 ⟨x, H1, I1, r1, q1⟩ => ?_
  obtain ⟨i, rfl, q⟩ := q1
  obtain ⟨t, rfl⟩ := r1
  exact ⟨some i, H1, I1, .int i t, q⟩

/-- what a slice of a value is, by values: the slice object stands at sl -/
def SlR (X : Cx) (r : V → Option Int → Option Int → Hp → VK → Prop) : Prop :=
  ∀ (pins : List (Addr × Obj)) (s : Shared) (σ : St) (H : Hp) (x : V) (v vl vu : Value) (lo hi : Option Int) (sl : Addr) (Q : VK), Inv X pins σ H s → RelV x v → s.heap.IsSliceOf sl vl vu .none → IsPart vl lo → IsPart vu hi → r x lo hi H Q →
    ∃ T id, typeLookup (.type T) "__getitem__" = pure (some (.builtin id)) ∧ s.TypeIs v T ∧ wpAny (model X.prog X.w) X.A (getItem v (.ref sl)) (EP X pins σ Q) X.xe s
theorem SlR.or {r r' : V → Option Int → Option Int → Hp → VK → Prop} (h : SlR X r) (h' : SlR X r') : SlR X (fun x lo hi H Q => r x lo hi H Q ∨ r' x lo hi H Q) := by
  intro pins s σ H x v vl vu lo hi sl Q I rx hs pl pu q
  rcases q with q | q
  · exact h pins s σ H x v vl vu lo hi sl Q I rx hs pl pu q
  · exact h' pins s σ H x v vl vu lo hi sl Q I rx hs pl pu q
def tSl (r : V → Option Int → Option Int → Hp → VK → Prop) (te : TE) (tl th : TO) : TE := fun σ H Q => te σ H fun x H1 => tl σ H1 fun l H2 => th σ H2 fun u H3 => r x l u H3 Q
/-- a[lo:hi], any a -/
theorem pe_slice {r : V → Option Int → Option Int → Hp → VK → Prop} (hr : SlR X r) (he : PE X e te) (hl : PO X lo tl) (hu : PO X hi th) : PE X (.Subscript e (.Slice lo hi none p2) pos) (tSl r te tl th) := by
  intro pins s σ H Q I h
  refine Subscript_ (thn (he pins s σ H _ I h) fun v s1 ⟨x, H1, I1, r1, q1⟩ => ?_)
  refine wpAny_Slice (thn (hl pins s1 σ H1 _ I1 q1) fun vl s2 ⟨l, H2, I2, pl, q2⟩ => thn (hu pins s2 σ H2 _ I2 q2) fun vu s3 ⟨u, H3, I3, pu, q3⟩ => ?_)
  rw [evalPart_none]
  refine wpAny_pure ?_
  have I4 : Inv X pins σ H3 { s3 with heap := s3.heap.push { cls := .type "slice", data := .fields #[vl, vu, .none] } } := I3.kept (t' := s3.toks) fun b ob q => Heap.get?_push_of_some _ q
  obtain ⟨T, id, hT, ht, hg⟩ := hr pins { s3 with heap := s3.heap.push { cls := .type "slice", data := .fields #[vl, vu, .none] } } σ H3 x v vl vu l u s3.heap.objs.size Q I4 r1 (Heap.IsSliceOf.new ..) pl pu q3
  show wpAny (model X.prog X.w) X.A (subscriptTail e (.Slice lo hi none p2) v (.ref s3.heap.objs.size)) (EP X pins σ Q) X.xe { s3 with heap := s3.heap.push { cls := .type "slice", data := .fields #[vl, vu, .none] } }
  exact tail_any (ops := [.ref s3.heap.objs.size, v]) ht hT hg (by with_unfolding_all rfl)

/-- the items of xs[lo:hi] -/
def cutV (xs : List V) (lo hi : Option Int) : List V := (xs.drop (HT.sIx xs.length 0 lo)).take (HT.sIx xs.length xs.length hi - HT.sIx xs.length 0 lo)
theorem cutV_length (xs : List V) (lo hi : Option Int) : (cutV xs lo hi).length ≤ xs.length := by
  unfold cutV
  rw [List.length_take, List.length_drop]
  omega
/-- t[lo:hi], not the whole of it (the whole would be t itself) -/
def rSlT (K : PySem.W.Frag) : V → Option Int → Option Int → Hp → VK → Prop := fun x lo hi H Q => ∃ a xs, x = .ref a ∧ SqT K H a xs ∧
  ¬ (HT.sIx xs.length 0 lo = 0 ∧ HT.sIx xs.length xs.length hi = xs.length) ∧ ∀ p, H p = none → Q (.ref p) (upd H p (.tup (cutV xs lo hi)))
theorem sl_tup : SlR X (rSlT X.K) := by
  intro pins s σ H x v vl vu lo hi sl Q I rx hs pl pu h
  obtain ⟨a, xs, rfl, hx, hw, q⟩ := h
  cases rx
  obtain ⟨its, r, ht, hz⟩ := I.tuple hx
  have hlen : its.toArray.size = xs.length := by rw [List.size_toArray]; exact r.length.symm
  refine ⟨"tuple", _, PyProof.Rows.slot_tuple_getitem.lookup, ht.typeIs, ?_⟩
  refine HT.getItem_tuple_cut ht hs pl pu (by rw [hlen]; exact hw) ?_ (by rw [hlen]; exact hz)
  rw [hlen]
  refine ⟨.ref s.heap.objs.size, _, I.laid (t' := s.toks) (o := .tup (cutV xs lo hi)) (fun b ob q => Heap.get?_push_of_some _ q) (Nat.le_refl _) ?_, rfl, q _ (I.hok.fresh (Nat.le_refl _))⟩
  exact ⟨Nat.le_trans (cutV_length xs lo hi) hz, _, (r.drop (HT.sIx xs.length 0 lo)).take (HT.sIx xs.length xs.length hi - HT.sIx xs.length 0 lo), IsTup.new _ _⟩

/-! ### t < u, t + u -/
def rLtT (K : PySem.W.Frag) : R2 := fun x y H Q => ∃ a b ns ms, x = .ref a ∧ y = .ref b ∧ SqT K H a (ns.map V.int) ∧ SqT K H b (ms.map V.int) ∧ Q (.bl (HT.lexLt ns ms)) H
/-- t + u, t not empty: u empty gives t itself -/
def rCatT (K : PySem.W.Frag) : R2 := fun x y H Q => ∃ a b xs ys, x = .ref a ∧ y = .ref b ∧ SqT K H a xs ∧ SqT K H b ys ∧ xs ≠ [] ∧ xs.length + ys.length ≤ sizeLine ∧
  (ys = [] → Q (.ref a) H) ∧ (ys ≠ [] → ∀ p, H p = none → Q (.ref p) (upd H p (.tup (xs ++ ys))))
end
end L2

namespace L2
open PySem PySem.Spec PyProof.Rows

/-! ### places -/
/-- the place that an index of any sign means -/
def ixN (n : Nat) (i : Int) : Option Nat := if 0 ≤ i then (if i < n then some i.toNat else none) else if -(n : Int) ≤ i then some (i + n).toNat else none
def atI {α : Type} (xs : List α) (i : Int) : Option α := (ixN xs.length i).bind fun j => xs[j]?
theorem ixN_seq {n : Nat} {i : Int} {j : Nat} (h : ixN n i = some j) : seqIndex? i n = some j ∧ j < n ∧ -(n : Int) ≤ i ∧ i < n := by
  unfold ixN at h
  by_cases h0 : 0 ≤ i
  · rw [if_pos h0] at h
    by_cases h1 : i < n
    · rw [if_pos h1] at h
      have e : i.toNat = j := Option.some.inj h
      exact ⟨by rw [seqIndex_of h0 h1, e], by omega, by omega, h1⟩
    · rw [if_neg h1] at h; cases h
  · rw [if_neg h0] at h
    by_cases h1 : -(n : Int) ≤ i
    · rw [if_pos h1] at h
      have e : (i + n).toNat = j := Option.some.inj h
      exact ⟨by rw [seqIndex_neg (by omega) h1, e], by omega, h1, by omega⟩
    · rw [if_neg h1] at h; cases h
theorem atI_get {α : Type} {xs : List α} {i : Int} {v : α} (h : atI xs i = some v) : ∃ j, seqIndex? i xs.length = some j ∧ xs[j]? = some v ∧ j < xs.length ∧ -(xs.length : Int) ≤ i ∧ i < xs.length := by
  unfold atI at h
  cases e : ixN xs.length i with
  | none => rw [e] at h; cases h
  | some j =>
    rw [e] at h
    obtain ⟨h1, h2, h3, h4⟩ := ixN_seq e
    exact ⟨j, h1, h, h2, h3, h4⟩
theorem atI_nat {α : Type} {xs : List α} {j : Nat} {v : α} (h : xs[j]? = some v) : atI xs (j : Int) = some v := by
  have hj : j < xs.length := (List.getElem?_eq_some_iff.mp h).1
  have e : ixN xs.length (j : Int) = some j := by
    unfold ixN
    rw [if_pos (by omega), if_pos (by omega)]; simp
  unfold atI; rw [e]; exact h
/-! ### what may be subscripted -/
/-- what stands as an index of a plain subscript -/
def PlainIx (b : Expr) : Prop := ∀ o i, subscripted b false o i = operate [o, i] (getItem o i)
/-- a subscript by values -/
def IxR (X : Cx) (r : R2) : Prop :=
  ∀ (value slice : Expr) (pins : List (Addr × Obj)) (s : Shared) (σ : St) (H : Hp) (x y : V) (v u : Value) (Q : VK), Inv X pins σ H s → RelV x v → RelV y u → r x y H Q →
    subscripted slice false v u = operate [v, u] (getItem v u) → wpAny (model X.prog X.w) X.A (subscriptTail value slice v u) (EP X pins σ Q) X.xe s
/-- a call of a builtin's method by values: the receiver, the arguments -/
def MtR (X : Cx) (id : String) (r : V → List V → Hp → VK → Prop) : Prop :=
  ∀ (pins : List (Addr × Obj)) (s : Shared) (σ : St) (H : Hp) (x : V) (xs : List V) (v : Value) (us : List Value) (Q : VK), Inv X pins σ H s → RelV x v → Vals xs us → r x xs H Q →
    wpAny (model X.prog X.w) X.A (call (.builtin id) (v :: us)) (EP X pins σ Q) X.xe s
section
variable {X : Cx} {a b : Expr} {ta tb : TE} {pos : Pos}
theorem IxR.or {r r' : R2} (h : IxR X r) (h' : IxR X r') : IxR X (fun x y H Q => r x y H Q ∨ r' x y H Q) := by
  intro value slice pins s σ H x y v u Q I rx ry q hs
  rcases q with q | q
  · exact h value slice pins s σ H x y v u Q I rx ry q hs
  · exact h' value slice pins s σ H x y v u Q I rx ry q hs
theorem MtR.or {id : String} {r r' : V → List V → Hp → VK → Prop} (h : MtR X id r) (h' : MtR X id r') : MtR X id (fun x xs H Q => r x xs H Q ∨ r' x xs H Q) := by
  intro pins s σ H x xs v us Q I rx rs q
  rcases q with q | q
  · exact h pins s σ H x xs v us Q I rx rs q
  · exact h' pins s σ H x xs v us Q I rx rs q
/-- a[b] -/
theorem pe_ix {r : R2} (hr : IxR X r) (ha : PE X a ta) (hb : PE X b tb) (hs : PlainIx b) : PE X (.Subscript a b pos) (tOp r ta tb) := by
  intro pins s σ H Q I h
  exact Subscript_ (binT ha hb I h fun v u s2 x y H2 I2 rx ry q => hr a b pins s2 σ H2 x y v u Q I2 rx ry q (hs _ _))

def rIxL (K : PySem.W.Frag) : R2 := fun x y H Q => ∃ p xs i v, x = .ref p ∧ y = .int i ∧ SqL K H p xs ∧ atI xs i = some v ∧ Q v H
def rIxT (K : PySem.W.Frag) : R2 := fun x y H Q => ∃ p xs i v, x = .ref p ∧ y = .int i ∧ SqT K H p xs ∧ atI xs i = some v ∧ Q v H
def rIxS : R2 := fun x y H Q => ∃ z i c, x = .str z ∧ y = .int i ∧ z.length ≤ sizeLine ∧ atI z.cps.toList i = some c ∧ Q (.str ⟨#[c]⟩) H
theorem ix_list : IxR X (rIxL X.K) := by
  intro value slice pins s σ H x y v u Q I rx ry h hs
  obtain ⟨p, xs, i, z, rfl, rfl, hq, he, q⟩ := h
  cases rx
  obtain ⟨t, rfl⟩ := ry
  obtain ⟨its, r, pl, hz⟩ := I.list hq
  obtain ⟨j, h1, h2, h3, h4, h5⟩ := atI_get he
  obtain ⟨w, ew, rw'⟩ := r.get h2
  have hl := r.length
  have hn := line63
  have fin : EP X pins σ Q w s := ⟨z, H, I, rw', q⟩
  by_cases h0 : 0 ≤ i
  · have hj : i.toNat = j := by
      rw [seqIndex_of h0 h5] at h1
      exact Option.some.inj h1
    exact item_listR pl.isList h0 (by omega) (by rw [hj]; simpa using ew) fin hs
  · have hj : (i + (its.toArray.size : Int)).toNat = j := by
      rw [seqIndex_neg (by omega) h4] at h1
      rw [List.size_toArray, ← hl]
      exact Option.some.inj h1
    exact subscriptTail_builtinR (x := w) pl.isList.typeIs slot_list_getitem.lookup
      (wpAny_getItem_list_neg (Q := fun r s' => r = w ∧ EP X pins σ Q r s') pl.isList (by omega) (by rw [List.size_toArray] <;> omega) (by omega) (by rw [hj]; simpa using ew) ⟨rfl, fin⟩) hs
theorem ix_tup : IxR X (rIxT X.K) := by
  intro value slice pins s σ H x y v u Q I rx ry h hs
  obtain ⟨p, xs, i, z, rfl, rfl, hq, he, q⟩ := h
  cases rx
  obtain ⟨t, rfl⟩ := ry
  obtain ⟨its, r, pl, hz⟩ := I.tuple hq
  obtain ⟨j, h1, h2, h3, h4, h5⟩ := atI_get he
  obtain ⟨w, ew, rw'⟩ := r.get h2
  have hl := r.length
  have hn := line63
  have fin : EP X pins σ Q w s := ⟨z, H, I, rw', q⟩
  exact subscriptTail_builtinR (x := w) pl.typeIs slot_tuple_getitem.lookup
    (getItem_tuple (j := j) (Q := fun r s' => r = w ∧ EP X pins σ Q r s') pl (by omega) (by omega) (by rw [List.size_toArray, ← hl]; exact h1) (by simpa using ew) ⟨rfl, fin⟩) hs
/-- list, tuple or str -/
def rIx (K : PySem.W.Frag) : R2 := fun x y H Q => rIxL K x y H Q ∨ rIxT K x y H Q ∨ rIxS x y H Q
/-! ### xs[i] = v, any sign -/
theorem Inv.lst {pins : List (Addr × Obj)} {σ : St} {H : Hp} {s : Shared} {p : Addr} {xs : List V} (I : Inv X pins σ H s) (h : H p = some (.lst xs)) :
    ∃ (its : List Value) (n : Nat), Vals xs its ∧ s.heap.get? p = some { cls := .type "list", data := .seq its.toArray n } ∧ xs.length ≤ sizeLine := by
  obtain ⟨z, its, n, r, e⟩ := I.hok p _ h
  exact ⟨its, n, r, e, z⟩
def rSetL : V → V → V → Hp → (Hp → Prop) → Prop := fun o i v H Q => ∃ p xs k j, o = .ref p ∧ i = .int k ∧ H p = some (.lst xs) ∧ ixN xs.length k = some j ∧ Q (upd H p (.lst (xs.set j v)))
/-! ### slices -/
theorem slice_bounds (lo hi : Option Int) (n : Nat) : (sliceBounds lo hi none n).1 = ((HT.sIx n 0 lo : Nat) : Int) ∧ (sliceBounds lo hi none n).2.1 = ((HT.sIx n n hi : Nat) : Int) ∧ (sliceBounds lo hi none n).2.2 = 1 := by
  refine ⟨?_, ?_, rfl⟩
  · cases lo with
    | none => simp [sliceBounds, HT.sIx]
    | some i =>
      simp only [sliceBounds, HT.sIx, Option.getD_none, show (1 : Int) > 0 by decide, if_true]
      by_cases h : i < 0
      · simp only [h, if_true] <;> omega
      · simp only [h, if_false] <;> omega
  · cases hi with
    | none => simp [sliceBounds, HT.sIx]
    | some i =>
      simp only [sliceBounds, HT.sIx, Option.getD_none, show (1 : Int) > 0 by decide, if_true]
      by_cases h : i < 0
      · simp only [h, if_true] <;> omega
      · simp only [h, if_false] <;> omega
theorem slicePick_cut (its : List Value) (lo hi : Option Int) : slicePick its.toArray lo hi none = ((its.drop (HT.sIx its.length 0 lo)).take (HT.sIx its.length its.length hi - HT.sIx its.length 0 lo)).toArray := by
  obtain ⟨h1, h2, h3⟩ := slice_bounds lo hi its.toArray.size
  unfold slicePick
  rw [h1, h2, h3]
  simp only [sliceRange_one, pick_run, List.size_toArray] <;> rfl
/-- xs[lo:hi] of a list: a new list -/
def rSlL (K : PySem.W.Frag) : V → Option Int → Option Int → Hp → VK → Prop := fun x lo hi H Q => ∃ a xs, x = .ref a ∧ SqL K H a xs ∧ ∀ p, H p = none → Q (.ref p) (upd H p (.lst (cutV xs lo hi)))
theorem sl_list : SlR X (rSlL X.K) := by
  intro pins s σ H x v vl vu lo hi sl Q I rx hs pl pu h
  obtain ⟨a, xs, rfl, hx, q⟩ := h
  cases rx
  obtain ⟨its, r, ht, hz⟩ := I.list hx
  have hlen := r.length
  refine ⟨"list", _, slot_list_getitem.lookup, ht.isList.typeIs, ?_⟩
  refine wpAny_getItem_list_slice ht.isList hs pl pu .none (by simp) ?_ (by rw [List.size_toArray] <;> omega)
  rw [slicePick_cut, ← hlen]
  refine ⟨.ref s.heap.objs.size, _, I.laid (t' := s.toks) (o := .lst (cutV xs lo hi)) (fun b ob q => Heap.get?_push_of_some _ q) (Nat.le_refl _) ?_, rfl, q _ (I.hok.fresh (Nat.le_refl _))⟩
  exact ⟨Nat.le_trans (cutV_length xs lo hi) hz, _, 0, (r.drop (HT.sIx xs.length 0 lo)).take (HT.sIx xs.length xs.length hi - HT.sIx xs.length 0 lo), Heap.get?_push_size _ rfl⟩

/-! ### in, not in: flat items -/
def flatV : V → Bool
  | .non => true
  | .bl _ => true
  | .int _ => true
  | .str _ => true
  | _ => false
/-- == of flat values -/
def eqV : V → V → Bool
  | .non, .non => true
  | .bl a, .bl b => a == b
  | .bl a, .int b => (if a then 1 else 0) == b
  | .int a, .bl b => a == (if b then 1 else 0)
  | .int a, .int b => a == b
  | .str a, .str b => a == b
  | _, _ => false
theorem eqAt_V {A : Around} {s : Shared} {y x : V} {u v : Value} (ry : RelV y u) (rx : RelV x v) (fy : flatV y = true) (fx : flatV x = true) : SeqAt.EqAt A s u v (eqV y x) := by
  cases y with
  | non =>
    cases ry
    cases x with
    | non => cases rx; exact SeqAt.EqAt.same _
    | bl b => cases rx; exact SeqAt.EqAt.none_bool b
    | int b => obtain ⟨t, rfl⟩ := rx; exact SeqAt.EqAt.none_int b t
    | str b => obtain ⟨t, rfl⟩ := rx; exact SeqAt.EqAt.none_str b t
    | _ => exact absurd (show false = true from fx) Bool.false_ne_true
  | bl a =>
    cases ry
    cases x with
    | non => cases rx; exact SeqAt.EqAt.bool_none a
    | bl b => cases rx; exact SeqAt.EqAt.bool_bool a b
    | int b => obtain ⟨t, rfl⟩ := rx; exact SeqAt.EqAt.bool_int a b t
    | str b => obtain ⟨t, rfl⟩ := rx; exact SeqAt.EqAt.bool_str a b t
    | _ => exact absurd (show false = true from fx) Bool.false_ne_true
  | int a =>
    obtain ⟨t', rfl⟩ := ry
    cases x with
    | non => cases rx; exact SeqAt.EqAt.int_none a t'
    | bl b => cases rx; exact SeqAt.EqAt.int_bool a t' b
    | int b => obtain ⟨t, rfl⟩ := rx; exact SeqAt.EqAt.int_int a t' b t
    | str b => obtain ⟨t, rfl⟩ := rx; exact SeqAt.EqAt.int_str a t' b t
    | _ => exact absurd (show false = true from fx) Bool.false_ne_true
  | str a =>
    obtain ⟨t', rfl⟩ := ry
    cases x with
    | non => cases rx; exact SeqAt.EqAt.str_none a t'
    | bl b => cases rx; exact SeqAt.EqAt.str_bool a t' b
    | int b => obtain ⟨t, rfl⟩ := rx; exact SeqAt.EqAt.str_int a t' b t
    | str b => obtain ⟨t, rfl⟩ := rx; exact SeqAt.EqAt.str_str a t' b t
    | _ => exact absurd (show false = true from fx) Bool.false_ne_true
  | _ => exact absurd (show false = true from fy) Bool.false_ne_true
/-- the items' answers, read off the values (a value's own answer does not lean on its token) -/
def eqU (x : V) (u : Value) : Bool := match u with
  | .none => eqV .non x
  | .bool b => eqV (.bl b) x
  | .int i _ => eqV (.int i) x
  | .str z _ => eqV (.str z) x
  | _ => false
theorem eqU_of {x y : V} {u : Value} (r : RelV y u) (f : flatV y = true) : eqU x u = eqV y x := by
  cases y with
  | non => cases r; rfl
  | bl b => cases r; rfl
  | int i => obtain ⟨t, rfl⟩ := r; rfl
  | str z => obtain ⟨t, rfl⟩ := r; rfl
  | _ => exact absurd (show false = true from f) Bool.false_ne_true
theorem any_eqU {x : V} : ∀ {xs : List V} {us : List Value}, Vals xs us → xs.all flatV = true → us.any (eqU x) = xs.any fun y => eqV y x
  | _, _, .nil, _ => rfl
  | y :: xs, u :: us, .cons r t, f => by
    rw [List.all_cons, Bool.and_eq_true] at f
    rw [List.any_cons, List.any_cons, eqU_of r f.1, any_eqU t f.2]
theorem mem_eqAt {A : Around} {s : Shared} {x : V} {v : Value} (rx : RelV x v) (fx : flatV x = true) : ∀ {xs : List V} {us : List Value}, Vals xs us → xs.all flatV = true → ∀ u ∈ us, SeqAt.EqAt A s u v (eqU x u)
  | _, _, .nil, _ => fun u hu => by cases hu
  | y :: xs, u :: us, .cons r t, f => fun u' hu => by
    rw [List.all_cons, Bool.and_eq_true] at f
    rcases List.mem_cons.mp hu with rfl | hu
    · rw [eqU_of r f.1]; exact eqAt_V r rx f.1 fx
    · exact mem_eqAt rx fx t f.2 u' hu
def inV (x : V) (xs : List V) : Bool := xs.any fun y => eqV y x
/-- x in a list or tuple of flat items -/
def rIn (K : PySem.W.Frag) (neg : Bool) : R2 := fun x y H Q => ∃ p xs, y = .ref p ∧ (SqL K H p xs ∨ SqT K H p xs) ∧ flatV x = true ∧ xs.all flatV = true ∧ Q (.bl (if neg then !inV x xs else inV x xs)) H
theorem op_in_seq : OpR X (compareOp .In) (rIn X.K false) := by
  intro pins s σ H x y v u Q I rx ry h
  obtain ⟨p, xs, rfl, hq, fx, fs, q⟩ := h
  cases ry
  rcases hq with hq | hq
  · obtain ⟨its, r, pl, hz⟩ := I.list hq
    refine SeqAt.in_listAt (eqU x) pl.isList (fun w hw => mem_eqAt rx fx r fs w (by simpa using hw)) ⟨.bl _, H, I, rfl, ?_⟩
    rw [show its.toArray.any (eqU x) = its.any (eqU x) by simp, any_eqU r fs]
    exact q
  · obtain ⟨its, r, pl, hz⟩ := I.tuple hq
    refine SeqAt.in_tupleAt (eqU x) pl (fun w hw => mem_eqAt rx fx r fs w (by simpa using hw)) ⟨.bl _, H, I, rfl, ?_⟩
    rw [show its.toArray.any (eqU x) = its.any (eqU x) by simp, any_eqU r fs]
    exact q
theorem op_notIn_seq : OpR X (compareOp .NotIn) (rIn X.K true) := by
  intro pins s σ H x y v u Q I rx ry h
  obtain ⟨p, xs, rfl, hq, fx, fs, q⟩ := h
  cases ry
  rcases hq with hq | hq
  · obtain ⟨its, r, pl, hz⟩ := I.list hq
    refine SeqAt.notIn_listAt (eqU x) pl.isList (fun w hw => mem_eqAt rx fx r fs w (by simpa using hw)) ⟨.bl _, H, I, rfl, ?_⟩
    rw [show its.toArray.any (eqU x) = its.any (eqU x) by simp, any_eqU r fs]
    exact q
  · obtain ⟨its, r, pl, hz⟩ := I.tuple hq
    refine SeqAt.notIn_tupleAt (eqU x) pl (fun w hw => mem_eqAt rx fx r fs w (by simpa using hw)) ⟨.bl _, H, I, rfl, ?_⟩
    rw [show its.toArray.any (eqU x) = its.any (eqU x) by simp, any_eqU r fs]
    exact q
/-! ### len, list(x), tuple(x) of any list or tuple that is read -/
theorem call_len_seq : CallR X (.builtin "len") (fun xs H Q => ∃ p ys, xs = [.ref p] ∧ (SqL X.K H p ys ∨ SqT X.K H p ys) ∧ Q (.int ys.length) H) := by
  intro pins s σ H xs us Q I r h
  obtain ⟨p, ys, rfl, hq, q⟩ := h
  obtain ⟨u, rfl, rx⟩ := vals1 r
  cases rx
  have hn := line63
  rcases hq with hq | hq
  · obtain ⟨its, r', pl, hz⟩ := I.list hq
    have hlen := r'.length
    exact Calls.call_len_list pl.isList (by simp only [List.size_toArray] <;> omega) ⟨.int ys.length, H, I.tok _, ⟨s.toks + 1, by rw [List.size_toArray, hlen]⟩, q⟩
  · obtain ⟨its, r', pl, hz⟩ := I.tuple hq
    have hlen := r'.length
    exact len_tuple pl (by simp only [List.size_toArray] <;> omega) ⟨.int ys.length, H, I.tok _, ⟨s.toks + 1, by rw [List.size_toArray, hlen]⟩, q⟩
theorem CallR.or {f : Value} {r r' : List V → Hp → VK → Prop} (h : CallR X f r) (h' : CallR X f r') : CallR X f (fun xs H Q => r xs H Q ∨ r' xs H Q) := by
  intro pins s σ H xs us Q I rs q
  rcases q with q | q
  · exact h pins s σ H xs us Q I rs q
  · exact h' pins s σ H xs us Q I rs q
theorem call_list_of : CallR X (.type "list") (fun xs H Q => ∃ p ys, xs = [.ref p] ∧ (SqL X.K H p ys ∨ SqT X.K H p ys) ∧ ∀ l, H l = none → Q (.ref l) (upd H l (.lst ys))) := by
  intro pins s σ H xs us Q I r h
  obtain ⟨p, ys, rfl, hq, q⟩ := h
  obtain ⟨u, rfl, rx⟩ := vals1 r
  cases rx
  have fin : ∀ (its : List Value), Vals ys its → ys.length ≤ sizeLine → ∀ (h' : Heap) (c' : Nat), (∀ b o', s.heap.get? b = some o' → h'.get? b = some o') →
      h'.get? s.heap.objs.size = some { cls := .type "list", dict := none, data := .seq its.toArray c', slots := #[] } → EP X pins σ Q (.ref s.heap.objs.size) { s with heap := h' } := fun its r' hz h' c' kp e =>
    ⟨.ref s.heap.objs.size, _, I.laid (t' := s.toks) kp (Nat.le_refl _) (show ObjOk X.prog X.w _ h' _ (.lst ys) from ⟨hz, its, c', r', e⟩), rfl, q _ (I.hok.fresh (Nat.le_refl _))⟩
  rcases hq with hq | hq
  · obtain ⟨its, r', pl, hz⟩ := I.list hq
    have hlen := r'.length
    obtain ⟨o, ho, hc, n, hd⟩ := pl.isList
    exact call_list_seq p (.inl rfl) ho hc hd (fun h' c' kp e => fin its r' hz h' c' kp e) (by simp only [List.size_toArray] <;> omega)
  · obtain ⟨its, r', pl, hz⟩ := I.tuple hq
    have hlen := r'.length
    obtain ⟨o, ho, hc, n, hd⟩ := pl
    exact call_list_seq p (.inr rfl) ho hc hd (fun h' c' kp e => fin its r' hz h' c' kp e) (by simp only [List.size_toArray] <;> omega)
/-! ### the call of a builtin's method: o.m(..) -/
/-- the value is of that builtin type -/
def tyV (K : PySem.W.Frag) (T : String) (x : V) (H : Hp) : Prop := match x with
  | .str _ => T = "str"
  | .int _ => T = "int"
  | .ref p => (T = "list" ∧ ∃ xs, SqL K H p xs) ∨ (T = "tuple" ∧ ∃ o, K.lookup p = some o ∧ o.cls = .type "tuple" ∧ o.dict = none) ∨
      (T = "dict" ∧ ((∃ kvs, H p = some (.dK kvs)) ∨ ∃ kvs, H p = some (.dT kvs))) ∨ (T = "set" ∧ ∃ S n, H p = some (.set S n))
  | _ => False
theorem tyV_is {pins : List (Addr × Obj)} {σ : St} {H : Hp} {s : Shared} {T : String} {x : V} {v : Value} (I : Inv X pins σ H s) (r : RelV x v) (ty : tyV X.K T x H) :
    s.TypeIs v T ∧ ∀ a, v = .ref a → ∃ ob, s.heap.get? a = some ob ∧ ob.dict = none := by
  cases x with
  | str z =>
    obtain ⟨t, rfl⟩ := r
    cases (show T = "str" from ty)
    exact ⟨typeIs_str s z t, fun _ e => nomatch e⟩
  | int i =>
    obtain ⟨t, rfl⟩ := r
    cases (show T = "int" from ty)
    exact ⟨typeIs_int s i t, fun _ e => nomatch e⟩
  | ref p =>
    cases r
    rcases ty with ⟨rfl, xs, hq⟩ | ⟨rfl, o, hk, hc, hd⟩ | ⟨rfl, hk⟩ | ⟨rfl, S, n, hk⟩
    · obtain ⟨its, _, pl, _⟩ := I.list hq
      refine ⟨pl.isList.typeIs, fun a e => ?_⟩
      cases e
      obtain ⟨o, n, e, c, hd, _⟩ := pl
      exact ⟨o, e, hd⟩
    · refine ⟨⟨o, I.kIn p o hk, hc⟩, fun a e => ?_⟩
      cases e
      exact ⟨o, I.kIn _ o hk, hd⟩
    · have z : ∃ o, s.heap.get? p = some o ∧ o.ExactDict := by
        rcases hk with ⟨kvs, hk⟩ | ⟨kvs, hk⟩
        · obtain ⟨_, _, _, _, o, _, _, e, ex, _⟩ := I.hok p _ hk
          exact ⟨o, e, ex⟩
        · obtain ⟨_, _, _, _, o, _, _, e, ex, _⟩ := I.hok p _ hk
          exact ⟨o, e, ex⟩
      obtain ⟨o, e, ex⟩ := z
      refine ⟨⟨o, e, ex.1⟩, fun a e2 => ?_⟩
      cases e2
      exact ⟨o, e, ex.2.1⟩
    · obtain ⟨o, _, _, _, e, ex, _⟩ := I.hok p _ hk
      refine ⟨⟨o, e, ex.1⟩, fun a e2 => ?_⟩
      cases e2
      exact ⟨o, e, ex.2.1⟩
  | _ => exact False.elim ty
def tBM0 (K : PySem.W.Frag) (T : String) (r : V → List V → Hp → VK → Prop) (to : TE) : TE := fun σ H Q => to σ H fun x H1 => tyV K T x H1 ∧ r x [] H1 Q
def tBM (K : PySem.W.Frag) (T : String) (r : V → List V → Hp → VK → Prop) (to : TE) (t : TA) : TE := fun σ H Q => to σ H fun x H1 => tyV K T x H1 ∧ t σ H1 fun xs H2 => r x xs H2 Q
variable {o e : Expr} {es : List Expr} {to : TE} {t : TA} {name : Str} {apos cpos : Pos} {T id : String} {r : V → List V → Hp → VK → Prop}
theorem pe_bm0 (pa : PlainAttrs T) (slot : Slot T name id) (hty : typeOf (.builtin id) = pure (.type "method_descriptor")) (hm : MtR X id r) (ho : PE X o to)
    (hbase : attributeBase o name X.env (eval o X.env) = eval o X.env := by rfl) (hline : (apos.endLine == cpos.line) = true := by rfl) : PE X (.Call (.Attribute o name apos) [] [] cpos) (tBM0 X.K T r to) := by
  intro pins s σ H Q I h
  refine wpAny_Call_method0_late hbase hline (thn (ho pins s σ H _ I h) fun v s1 ⟨x, H1, I1, r1, ty, q1⟩ => ?_)
  obtain ⟨h1, h2⟩ := tyV_is I1 r1 ty
  exact ⟨T, id, pa, slot, hty, h1, h2, Calls.callWith_builtin rfl (PySem.evalArgs_none (hm pins s1 σ H1 x [] v [] Q I1 r1 .nil q1))⟩
theorem pe_bm (pa : PlainAttrs T) (slot : Slot T name id) (hty : typeOf (.builtin id) = pure (.type "method_descriptor")) (hm : MtR X id r) (ho : PE X o to) (ha : PA X (e :: es) t)
    (hbase : attributeBase o name X.env (eval o X.env) = eval o X.env := by rfl)
    (hfew : ((backTo cpos (starEach (e :: es) X.env)).all (fun x => !x.1) && (backToKw cpos (keywordEach [] X.env)).all (fun x => x.1.isSome)
      && decide ((e :: es).length + ([] : List Keyword).length + (if ([] : List Keyword).isEmpty then 0 else 1) < 30)) = true := by rfl)
    (hline : (apos.endLine == cpos.line) = true := by rfl) (hs : starEach (e :: es) X.env = (false, eval e X.env) :: starEach es X.env := by rfl) (hplain : (backTo cpos (starEach es X.env)).any (·.1) = false := by rfl) :
    PE X (.Call (.Attribute o name apos) (e :: es) [] cpos) (tBM X.K T r to t) := by
  intro pins s σ H Q I h
  refine wpAny_Call_method_late hbase hfew hline rfl (thn (ho pins s σ H _ I h) fun v s1 ⟨x, H1, I1, r1, ty, q1⟩ => ?_)
  obtain ⟨h1, h2⟩ := tyV_is I1 r1 ty
  refine ⟨T, id, pa, slot, hty, h1, h2, ?_⟩
  have hA := ha cpos pins s1 σ H1 _ I1 q1
  rw [hs] at hA ⊢
  refine Calls.callWith_builtin (by show (false || (backTo cpos (starEach es X.env)).any (·.1)) = false; rw [hplain] <;> rfl) (Calls.evalArgs_plain ?_)
  exact thn hA fun us s2 ⟨vs, H2, I2, r2, q2⟩ => hm pins s2 σ H2 x vs v us Q I2 r1 r2 q2
/- xs.append(e), list.index on a module's tuple .. are MtR facts of 06m -/
end
end L2

namespace L2
open PySem PySem.Spec PyProof.Rows

def MtM (X : Cx) (id : String) (r : V → List V → Hp → VK → Prop) : Prop :=
  ∀ (pins : List (Addr × Obj)) (s : Shared) (σ : St) (H : Hp) (x : V) (xs : List V) (v : Value) (us : List Value) (Q : VK), Inv X pins σ H s → RelV x v → Vals xs us → r x xs H Q →
    wpAny (model X.prog X.w) X.A (call (.builtin id) (v :: us)) (EP X pins σ Q) X.xe s

/-! ### lists of values -/
theorem Vals.one : ∀ {x : V} {us : List Value}, Vals [x] us → ∃ u, us = [u] ∧ RelV x u
  | _, _, .cons r .nil => ⟨_, rfl, r⟩
theorem Vals.two : ∀ {x y : V} {us : List Value}, Vals [x, y] us → ∃ u v, us = [u, v] ∧ RelV x u ∧ RelV y v
  | _, _, _, .cons r (.cons q .nil) => ⟨_, _, rfl, r, q⟩
theorem Vals.zero : ∀ {us : List Value}, Vals [] us → us = []
  | _, .nil => rfl
theorem Vals.dropLast {xs : List V} {us : List Value} (h : Vals xs us) : Vals xs.dropLast us.dropLast := by
  induction h with
  | nil => exact .nil
  | cons r t ih =>
    cases t with
    | nil => exact .nil
    | cons q t' => exact .cons r ih
theorem Vals.eraseIdx : ∀ {xs : List V} {us : List Value} (i : Nat), Vals xs us → Vals (xs.eraseIdx i) (us.eraseIdx i)
  | _, _, _, .nil => .nil
  | _, _, 0, .cons _ t => t
  | _, _, i + 1, .cons r t => .cons r (Vals.eraseIdx i t)
theorem Vals.reverse {xs : List V} {us : List Value} (h : Vals xs us) : Vals xs.reverse us.reverse := by
  induction h with
  | nil => exact .nil
  | cons r t ih => rw [List.reverse_cons, List.reverse_cons]; exact Vals.append ih (.cons r .nil)
theorem erase_last {α : Type} (l : List α) : l.eraseIdx (l.length - 1) = l.dropLast := by
  induction l with
  | nil => rfl
  | cons a r ih =>
    cases r with
    | nil => rfl
    | cons b r =>
      have e : (a :: b :: r).length - 1 = ((b :: r).length - 1) + 1 := by
        have h1 : (a :: b :: r).length = r.length + 2 := rfl
        have h2 : (b :: r).length = r.length + 1 := rfl
        omega
      rw [e, List.eraseIdx_cons_succ, ih]
      all_goals rfl
theorem len_erase {α : Type} : ∀ (l : List α) (i : Nat), (l.eraseIdx i).length ≤ l.length
  | [], _ => Nat.le_refl _
  | _ :: _, 0 => Nat.le_succ _
  | _ :: r, i + 1 => Nat.succ_le_succ (len_erase r i)
section
variable {X : Cx} {pins : List (Addr × Obj)} {σ : St} {H : Hp} {s : Shared} {l b : Addr} {xs ys zs : List V}

/-! ### the two steps: a tracked list is rewritten, a new list is laid -/
theorem Inv.lset {its its' : List Value} {n : Nat} {f : Array Value → Array Value} {t' : Nat} (I : Inv X pins σ H s) (hH : H l = some (.lst xs))
    (e : s.heap.get? l = some { cls := .type "list", data := .seq its.toArray n }) (hf : f its.toArray = its'.toArray) (hv : Vals ys its') (hz : ys.length ≤ sizeLine) :
    Inv X pins σ (upd H l (.lst ys)) { s with heap := s.heap.update l (Obj.mapSeq f), toks := t' } := by
  have q := PySem.IsL.update e f
  rw [hf] at q
  refine I.write (x := l) (e := l) (by rw [hH]; exact trivial) (.inl rfl) (fun b' u hb hu => (Heap.get?_update_other s.heap (Obj.mapSeq f) (Ne.symm hb)).trans hu) ⟨_, q⟩ ?_
  exact ⟨hz, its', _, hv, q⟩
theorem Inv.lnew {its : List Value} {t' : Nat} (I : Inv X pins σ H s) (hv : Vals ys its) (hz : ys.length ≤ sizeLine) :
    Inv X pins σ (upd H s.heap.objs.size (.lst ys)) { s with heap := s.heap.push { cls := .type "list", data := .seq its.toArray }, toks := t' } :=
  I.laid (fun _ _ q => Heap.get?_push_of_some _ q) (Nat.le_refl _) ⟨hz, its, 0, hv, Heap.get?_push_size _ rfl⟩
theorem Inv.fresh (I : Inv X pins σ H s) : H s.heap.objs.size = none := I.hok.fresh (Nat.le_refl _)
theorem Inv.lstM (I : Inv X pins σ H s) (hH : H l = some (.lst xs)) : xs.length ≤ sizeLine ∧ ∃ (its : List Value) (n : Nat), Vals xs its ∧ xs.length = its.length ∧ s.heap.get? l = some { cls := .type "list", data := .seq its.toArray n } := by
  obtain ⟨z, its, n, r, e⟩ := I.hok l _ hH
  exact ⟨z, its, n, r, r.length, e⟩

theorem notLongL {n : Nat} (h : n ≤ sizeLine) : Builtin.List.listTooLong n = false := by
  unfold Builtin.List.listTooLong
  exact decide_eq_false (by omega)
end

section
variable {X : Cx}

/-! ### methods -/
def rAppend : V → List V → Hp → VK → Prop := fun x vs H Q => ∃ l xs y, x = .ref l ∧ vs = [y] ∧ H l = some (.lst xs) ∧ xs.length < sizeLine ∧ Q .non (upd H l (.lst (xs ++ [y])))
theorem mt_append : MtM X "list.append" rAppend := by
  intro pins s σ H x vs v us Q I rx rv h
  obtain ⟨l, xs, y, rfl, rfl, hH, hz, q⟩ := h
  cases rx
  obtain ⟨u, rfl, ru⟩ := rv.one
  obtain ⟨z, its, n, r, hl, e⟩ := I.lstM hH
  refine call_meets F.slot_list_append ⟨_, e, rfl⟩ F.entry_list_append (F.args_list_append_2 _ _) (PySem.list_append l its.toArray n u (by rw [List.size_toArray]; omega)) ⟨e, ?_⟩
  refine ⟨.non, _, I.lset (its' := its ++ [u]) hH e (by simp) (r.append (.cons ru .nil)) ?_, rfl, q⟩
  rw [List.length_append, List.length_singleton]
  omega

def rExtend : V → List V → Hp → VK → Prop := fun x vs H Q => ∃ l b xs zs, x = .ref l ∧ vs = [.ref b] ∧ H l = some (.lst xs) ∧ H b = some (.lst zs) ∧ xs.length + zs.length ≤ sizeLine ∧ Q .non (upd H l (.lst (xs ++ zs)))
theorem mt_extend : MtM X "list.extend" rExtend := by
  intro pins s σ H x vs v us Q I rx rv h
  obtain ⟨l, b, xs, zs, rfl, rfl, hH, hB, hz, q⟩ := h
  cases rx
  obtain ⟨u, rfl, ru⟩ := rv.one
  cases ru
  obtain ⟨z, its, n, r, hl, e⟩ := I.lstM hH
  obtain ⟨z2, its2, n2, r2, hl2, e2⟩ := I.lstM hB
  have hsz : its.toArray.size + its2.toArray.size ≤ sizeLine := by rw [List.size_toArray, List.size_toArray]; omega
  have hlong : ¬ (!its.toArray.isEmpty && Builtin.List.listTooLong (its.toArray.size + its2.toArray.size)) = true := by
    rw [notLongL hsz, Bool.and_false]
    exact Bool.false_ne_true
  refine call_meets F.slot_list_extend ⟨_, e, rfl⟩ F.entry_list_extend (F.args_list_extend_2 _ _)
    (AutoSeq1.list_extend_list_list_0 l its.toArray n b its2.toArray n2 hlong (by rw [List.size_toArray]; omega) (by omega)) ⟨e, e2, ?_⟩
  refine ⟨.non, _, I.lset (its' := its ++ its2) hH e (by simp) (r.append r2) ?_, rfl, q⟩
  rw [List.length_append]
  omega

def rPop : V → List V → Hp → VK → Prop := fun x vs H Q => ∃ l xs y, x = .ref l ∧ vs = [] ∧ H l = some (.lst xs) ∧ xs[xs.length - 1]? = some y ∧ Q y (upd H l (.lst xs.dropLast))
theorem mt_pop : MtM X "list.pop" rPop := by
  intro pins s σ H x vs v us Q I rx rv h
  obtain ⟨l, xs, y, rfl, rfl, hH, hy, q⟩ := h
  cases rx
  have hus := rv.zero
  subst hus
  obtain ⟨z, its, n, r, hl, e⟩ := I.lstM hH
  obtain ⟨u, hu, ru⟩ := r.get hy
  have hy' : its.toArray[its.toArray.size - 1]? = some u := by
    show its.toArray[its.length - 1]? = some u
    rw [← Array.getElem?_toList, ← hl]
    exact hu
  refine call_meets F.slot_list_pop ⟨_, e, rfl⟩ F.entry_list_pop (F.args_list_pop_1 _) (MeetsSeq.list_pop_last l its.toArray n u hy' (by rw [List.size_toArray]; omega)) ⟨e, ?_⟩
  refine ⟨y, _, I.lset (its' := its.dropLast) hH e ?_ r.dropLast ?_, ru, q⟩
  · show its.toArray.eraseIdxIfInBounds (its.toArray.size - 1) = its.dropLast.toArray
    rw [List.size_toArray, List.eraseIdxIfInBounds_toArray, erase_last]
  · rw [List.length_dropLast]
    omega

def rPopAt : V → List V → Hp → VK → Prop := fun x vs H Q => ∃ l xs i k y, x = .ref l ∧ vs = [.int i] ∧ H l = some (.lst xs) ∧ -(2 ^ 63) ≤ i ∧ i < 2 ^ 63 ∧ seqIndex? i xs.length = some k ∧ xs[k]? = some y ∧ Q y (upd H l (.lst (xs.eraseIdx k)))
theorem mt_popAt : MtM X "list.pop" rPopAt := by
  intro pins s σ H x vs v us Q I rx rv h
  obtain ⟨l, xs, i, k, y, rfl, rfl, hH, h1, h2, hk, hy, q⟩ := h
  cases rx
  obtain ⟨u, rfl, ru⟩ := rv.one
  obtain ⟨t, rfl⟩ := ru
  obtain ⟨z, its, n, r, hl, e⟩ := I.lstM hH
  obtain ⟨w, hw, rw'⟩ := r.get hy
  refine call_meets F.slot_list_pop ⟨_, e, rfl⟩ F.entry_list_pop (F.args_list_pop_2 _ _)
    (MeetsSeq.list_pop_at l its.toArray n i t k w (fitsIndex_both h1 h2) (by rw [List.size_toArray, ← hl]; exact hk) (by rw [← Array.getElem?_toList]; exact hw) (by rw [List.size_toArray]; omega)) ⟨e, ?_⟩
  refine ⟨y, _, I.lset (its' := its.eraseIdx k) hH e ?_ (r.eraseIdx k) ?_, rw', q⟩
  · show its.toArray.eraseIdxIfInBounds k = (its.eraseIdx k).toArray
    rw [List.eraseIdxIfInBounds_toArray]
  · have := len_erase xs k
    omega

def rReverse : V → List V → Hp → VK → Prop := fun x vs H Q => ∃ l xs, x = .ref l ∧ vs = [] ∧ H l = some (.lst xs) ∧ Q .non (upd H l (.lst xs.reverse))
def rClear : V → List V → Hp → VK → Prop := fun x vs H Q => ∃ l xs, x = .ref l ∧ vs = [] ∧ H l = some (.lst xs) ∧ Q .non (upd H l (.lst []))
/-! ### list + list, list += list, list * int -/
def rCat : R2 := fun x y H Q => ∃ l b xs zs, x = .ref l ∧ y = .ref b ∧ H l = some (.lst xs) ∧ H b = some (.lst zs) ∧ xs.length + zs.length ≤ sizeLine ∧ ∀ p, H p = none → Q (.ref p) (upd H p (.lst (xs ++ zs)))
theorem op_cat : OpR X (binaryOp .Add) rCat := by
  intro pins s σ H x y v u Q I rx ry h
  obtain ⟨l, b, xs, zs, rfl, rfl, hH, hB, hz, q⟩ := h
  cases rx
  cases ry
  obtain ⟨z, its, n, r, hl, e⟩ := I.lstM hH
  obtain ⟨z2, its2, n2, r2, hl2, e2⟩ := I.lstM hB
  refine PySem.P.add_list e e2 ?_ (by rw [List.size_toArray, List.size_toArray]; omega)
  have ea : its.toArray ++ its2.toArray = (its ++ its2).toArray := by simp
  rw [ea]
  exact ⟨.ref _, _, I.lnew (t' := s.toks) (r.append r2) (by rw [List.length_append]; omega), rfl, q _ I.fresh⟩
/-- a list times an int (a negative one is nothing) -/
def rRep : R2 := fun x y H Q => ∃ l k xs, x = .ref l ∧ y = .int k ∧ H l = some (.lst xs) ∧ -(2 ^ 63) ≤ k ∧ k < 2 ^ 63 ∧ xs.length * k.toNat ≤ sizeLine ∧
  ∀ p, H p = none → Q (.ref p) (upd H p (.lst (List.replicate k.toNat xs).flatten))
/-! ### del xs[i] -/
end

/-! ### xs[a:b] = ys -/
section
variable {prog : Program} {w : World} {A : Around} {E : Value → Shared → Prop} {s : Shared}
end

section
variable {X : Cx}
end
end L2

namespace Att
open PySem PySem.W PySem.Calls PyProof.Rows

/-! ### the script -/
theorem ints_of_wellAll {P : Params} {h : Heap} : ∀ (ns : List Int) (vs : List Value), WellAll P h vs (ns.map WData.int) → IntsAre vs ns := by
  intro ns
  induction ns with
  | nil =>
    intro vs w
    rw [List.map_nil] at w
    cases w
    exact .nil
  | cons n ns ih =>
    intro vs w
    rw [List.map_cons] at w
    cases w with
    | cons a b =>
      cases a
      exact .cons _ _ (ih _ b)

theorem script_of {l : OpenLaw} {n : Nat} (hn : l.most = some n) {P : Params} {h : Heap} {args : List WData} {vals : List Value}
    (hpre : l.row.toRowW.claim.pre args = true) (hwl : WellAll P h vals args) :
    ∃ a vs ns, vals = [Value.ref a] ∧ args = [WData.list (ns.map WData.int)] ∧ h.get? a = some { cls := .type "list", data := .seq vs.toArray } ∧ IntsAre vs ns ∧ ns.length ≤ n := by
  have hsh : WShape.hasAll [] args [.list .int] = true := (pre_splitW hpre).1
  have hc : l.pre.holds [] { args := args } = true := (pre_splitW hpre).2
  obtain ⟨d, r, rfl, h1, h2⟩ := hasAllW_cons hsh
  obtain rfl := hasAllW_nil h2
  obtain ⟨xs, rfl, h3⟩ := hasW_list h1
  obtain ⟨ns, rfl⟩ := items_int h3
  have hlen : ns.length ≤ n := by
    unfold OpenLaw.pre at hc
    have h4 : (WTm.not (.lt (.lit (.int (n : Int))) (.len (.arg 0)))).holds [] { args := [.list (ns.map .int)] } = true := by
      have h4 := (holds_andW hc).1
      rw [hn] at h4
      exact h4
    have h5 := condW_of h4 (w_not (w_lt w_lit (w_len_list (w_arg rfl))))
    rw [List.length_map] at h5
    refine Nat.le_of_not_lt fun q => ?_
    have q' : (n : Int) < ((ns.length : Nat) : Int) := by omega
    first
      | (rw [decide_eq_true q'] at h5; exact absurd h5 (by decide))
      | (simp at h5; omega)
  cases hwl with
  | cons w1 w2 =>
    cases w2
    cases w1 with
    | list ho hall => exact ⟨_, _, ns, rfl, rfl, ho, ints_of_wellAll ns _ hall, hlen⟩

theorem post_true (l : OpenLaw) (args : List WData) : l.row.toRowW.claim.post args (.bool true) args = true :=
  postW_of (r := l.row.toRowW) (X := (true == true))
    (show WShape.has [] (.bool true) .bool = true by first | rfl | decide | simp [WShape.has, WShape.arms, WShape.armsAll])
    (show (WTm.eq .res (.lit (.bool true))).value [] { args := args, res := some (.bool true), after := args } = some (.bool (true == true)) from w_eq_bool (w_res rfl) w_lit) rfl

/-! ### the attachment: holds_open's last premise (the goal 'hc' behind k_head) from a wpAny of the law's body -/
/-- the same from a codeAny of the CALL (for a layer whose function contracts speak of calls) -/
theorem attach_call {l : OpenLaw} {n : Nat} {q : Program} {loose : List Str} {XP : (Str → Option Value) → Heap → Prop} {YP : World → Heap → Prop} {d : DefRec}
    (hn : l.most = some n) (hdf : d.params.defaults = [])
    (call : ∀ (w : World) (s₀ s₁ : Shared) (mg mb : Str → Option Value) (fa : Addr) (o : Obj) (pm cd doc : Value) (a : Addr) (vs : List Value) (ns : List Int),
      Ground q loose [] XP w s₀ mg mb s₁.heap → YP w s₁.heap →
      s₁.heap.get? fa = some o → o.data = .func (docDef d.name d.params d.body d.scope pm cd doc) → s₁.heap.CodeRec cd d.name → mg d.name = some (.ref fa) →
      s₁.heap.get? a = some { cls := .type "list", data := .seq vs.toArray } → IntsAre vs ns → ns.length ≤ n → s₁.gens = #[] →
      codeAny (model l.prog w) callerA (.call (.ref fa) ⟨[.ref a], []⟩) (fun r s' => r = .ok (.ret (.bool true)) ∧ OldK s₁.heap s'.heap ∧ s'.os = s₁.os ∧ AllBare s'.gens) s₁) :
    WalkO q loose XP YP l.row.toRowW d [] (fun f vs => PySem.call f vs) := by
  intro w s₀ s₁ mg mb G Y fa o pm cd doc dV kV ho hd hcd hD hmg hg args vals as hpre hlay hrd hwl hlo
  obtain rfl : dV = .none := Dflts.none hD hdf
  obtain rfl : kV = .none := Dflts.noKw hD
  obtain ⟨a, vs, ns, rfl, rfl, hobj, hints, hlen⟩ := script_of hn hpre hwl
  refine enter_call (codeAny_mono (call w s₀ s₁ mg mb fa o pm cd doc a vs ns G Y ho (fd_plain hd) hcd hmg hobj hints hlen hg) fun r s' hq => ?_)
  obtain ⟨rfl, h2, h3, h4⟩ := hq
  exact ⟨.inl ⟨.bool true, .bool true, [], rfl, fun _ => rfl, .bool true, post_true l _, fun _ => ⟨List.Pairwise.nil, fun _ hm => (nomatch hm)⟩⟩, h2, h3, h4⟩

/-! ### rules over ANY heap (no ledger) from facts about the written part K: the library's own take a ledger (News) for what they write -/
section
variable {prog : Program} {w : World} {A : Around} {E : Value → Shared → Prop} {s : Shared} {K : Frag}

/-! the whole heap as the ledger: makes every rule that writes through a ledger a rule over any heap -/
def noObjs (h : Heap) : Heap := { h with objs := #[] }
def ledger (h : Heap) (L d : Addr) : List (Addr × Obj) := (List.range h.objs.size).filterMap fun a => if a = L ∨ a = d then none else (h.get? a).map fun o => (a, o)
end
end Att

namespace L2
open PySem PySem.Spec PyProof.Rows

theorem vals_ints : ∀ {vs : List Value} {ns : List Int}, IntsAre vs ns → Vals (ns.map V.int) vs
  | _, _, .nil => .nil
  | _, _, .cons n t h => .cons ⟨t, rfl⟩ (vals_ints h)

/-- nothing is tracked but the script, known to the object (or it is an object of the module) -/
def Only (H : Hp) : Prop := ∀ b, H b = none ∨ ∃ o xs, H b = some (.frz o (.lst xs))

/-- THE HEAD: the law's promise, at the heap behind the top. F, the promise of the law's def, may use that base is part of the heap (so K.In base, base.Ns mainGlobals mg stand in Mod) -/
theorem law_call {P : Program} {w : World} {K : PySem.W.Frag} {mg mb : Str → Option Value} {CX : CXT} {k : Nat} {fa a : Addr} {fd : FuncData} {x : Str} {sp : Sp} {s₁ : Shared} {vs : List Value} {ns : List Int}
    (KX : K.In s₁.heap) (hns : s₁.heap.Ns mainGlobals mg) (hb : s₁.heap.Ns builtinsNs mb) (hbb : ∀ x : Str, x ≠ "__name__" → mb x = bootBuiltins x) (hlim : s₁.heap.NoLimit) (hg : s₁.gens = #[])
    (ha : s₁.heap.get? a = some { cls := .type "list", data := .seq vs.toArray }) (hi : IntsAre vs ns) (hl : ns.length ≤ sizeLine) (hr : Room k callerA)
    (F : ∀ base : Heap, K.In base → base.Ns mainGlobals mg → FnOk P w K mg base CX k fa fd [x] sp) (hbind : ∀ (s : Shared) (u : Value), BindsTo s fd ⟨[u], []⟩ [(x, u)])
    (hsp : ∀ H : Hp, Only H → SqL K H a (ns.map V.int) → sp [.ref a] H (fun v _ => v = .bl true) fun _ _ _ => False)
    (hCX : ∀ H e s', CX [] H s₁ (fun _ _ _ => False) e s' → False) :
    codeAny (model P w) callerA (.call (.ref fa) ⟨[.ref a], []⟩) (fun r s' => r = .ok (.ret (.bool true)) ∧ OldK s₁.heap s'.heap ∧ s'.os = s₁.os ∧ AllBare s'.gens) s₁ := by
  have rv := vals_ints hi
  have lenV := hi.length
  -- from an abstract heap in which nothing but the script may be tracked
  have core : ∀ H : Hp, Only H → SqL K H a (ns.map V.int) → HOk P w H s₁.heap → (∀ b, H b ≠ none → b = a) → (H a ≠ none → K.lookup a = none) →
      codeAny (model P w) callerA (.call (.ref fa) ⟨[.ref a], []⟩) (fun r s' => r = .ok (.ret (.bool true)) ∧ OldK s₁.heap s'.heap ∧ s'.os = s₁.os ∧ AllBare s'.gens) s₁ := by
    intro H hO hS hok hA hK
    have base_of : ∀ {b : Addr} {o : Obj}, s₁.heap.get? b = some o → H b = none → (hidT s₁.heap H).get? b = some o := fun e n => hidT_get e n
    have noA : ∀ {b : Addr} {o : Obj} {es : Array DictEntry} {ep : Nat}, s₁.heap.get? b = some o → o.data = .dict es ep → H b = none := fun {b o es ep} e d => by
      cases q : H b with
      | none => rfl
      | some u =>
        have e' : b = a := hA b (by rw [q]; simp)
        subst e'
        rw [ha] at e; cases e
        have d' : Data.seq vs.toArray _ = Data.dict es ep := d
        cases d'
    have nsK : ∀ {b : Addr} {m : Str → Option Value}, s₁.heap.Ns b m → (hidT s₁.heap H).Ns b m := fun {b m} ⟨o, es, ep, e, d, r⟩ => ⟨o, es, ep, base_of e (noA e d), d, r⟩
    have hKb : K.In (hidT s₁.heap H) := fun b o e => base_of (KX b o e) (by
      cases q : H b with
      | none => rfl
      | some u =>
        have e' : b = a := hA b (by rw [q]; simp)
        subst e'
        rw [hK (by rw [q]; simp)] at e; cases e)
    have hM : Mod K mg (hidT s₁.heap H) := ⟨hKb, nsK hns, ⟨mb, nsK hb, hbb⟩, let ⟨mc, h1, h2⟩ := hlim; ⟨mc, nsK h1, h2⟩⟩
    have e0 : Env0 P w K mg (hidT s₁.heap H) callerA [] s₁ H := ⟨rfl, hM, fun b o e => of_hidT e, Nat.le_of_eq (hidT_size _ _), trivial, fun b hb => absurd (show b ∈ ([] : List Addr) from hb) (by simp), hok, .of_eq hg⟩
    refine codeAny_mono ((F _ hKb (nsK hns)).run callerA [] s₁ H ⟨[.ref a], []⟩ [.ref a] [.ref a] _ _ hr e0 (hbind s₁ (.ref a)) (.cons rfl .nil) (hsp H hO hS)) fun r s' h => ?_
    cases r with
    | error e => exact (hCX H e s' h).elim
    | ok fl =>
      cases fl with
      | next => exact False.elim h
      | brk => exact False.elim h
      | cont => exact False.elim h
      | ret u =>
        obtain ⟨v, H', os, bare, un, hok', r', q⟩ := h
        have q' : v = .bl true := q
        subst q'
        obtain rfl : u = Value.bool true := r'
        refine ⟨rfl, OldK.of_keep fun b o e => ?_, os, bare⟩
        cases q : H b with
        | none => exact un.keep b o e q (by intro z; exact absurd (show b ∈ ([] : List Addr) from z) (by simp)) (by simp)
        | some u =>
          rcases hO b with z | ⟨ob, xs, z⟩
          · rw [q] at z; cases z
          · have z2 := un.frzs b ob _ z
            obtain ⟨e1, _⟩ := hok b _ z
            obtain ⟨e2, _⟩ := hok' b _ z2
            rw [e] at e1; cases e1
            exact e2
  cases hk : K.lookup a with
  | some o =>
    -- the script is one of the module's own objects
    have e := KX a o hk
    rw [ha] at e
    cases e
    refine core (fun _ => none) (fun _ => .inl rfl) (.inr ⟨_, vs.toArray, _, hk, rfl, rfl, rfl, by rw [List.size_toArray, lenV]; exact hl, by simpa using rv⟩) (fun b u z => by have z' : (none : Option HO) = some u := z; cases z') (fun b z => absurd rfl z) fun z => absurd rfl z
  | none =>
    refine core (fun b => if b = a then some (.frz { cls := .type "list", data := .seq vs.toArray } (.lst (ns.map V.int))) else none) (fun b => ?_) (.inl (.inr ⟨{ cls := .type "list", data := .seq vs.toArray }, if_pos rfl⟩)) (fun b u z => ?_) (fun b z => ?_) fun _ => hk
    · by_cases hb : b = a
      · exact .inr ⟨_, _, if_pos hb⟩
      · exact .inl (if_neg hb)
    · by_cases hb : b = a
      · have z' := (if_pos hb).symm.trans z
        cases z'
        subst hb
        exact ⟨ha, by rw [List.length_map]; exact hl, vs, _, rv, ha⟩
      · have z' := (if_neg hb).symm.trans z
        cases z'
    · by_cases hb : b = a
      · exact hb
      · exact absurd (if_neg hb) z
end L2

namespace L2
open PySem PySem.Spec PyProof.Rows

abbrev KOf {K : PySem.W.Frag} {h : Heap} (_ : K.In h) : PySem.W.Frag := K

/-- the goal that k_head leaves (case hc), from the law's promise. F gives the function object fd (K's own) once, then the promise over every base -/
theorem walk_of {l : PySem.W.OpenLaw} {n k : Nat} {q : Program} {loose : List Str} {XP : (Str → Option Value) → Heap → Prop} {YP : World → Heap → Prop} {d : DefRec} {K : Params → PySem.W.Frag} {CX : World → CXT} {sp : World → Sp} {x : Str}
    (hn : l.most = some n) (hn2 : n ≤ sizeLine) (hdf : d.params.defaults = []) (hr : Room k callerA)
    (hY : ∀ (w : World) (h : Heap), YP w h → (K w.params).In h)
    (F : ∀ (w : World) (mg : Str → Option Value) (fa : Addr) (h : Heap), (K w.params).In h → h.Ns mainGlobals mg → mg d.name = some (.ref fa) →
      ∃ fd : FuncData, (∀ (s : Shared) (u : Value), BindsTo s fd ⟨[u], []⟩ [(x, u)]) ∧
        ∀ base : Heap, (K w.params).In base → base.Ns mainGlobals mg → FnOk l.prog w (K w.params) mg base (CX w) k fa fd [x] (sp w))
    (hsp : ∀ (w : World) (H : Hp) (a : Addr) (ns : List Int), ns.length ≤ n → Only H → SqL (K w.params) H a (ns.map V.int) → sp w [.ref a] H (fun v _ => v = .bl true) fun _ _ _ => False)
    (hCX : ∀ (w : World) (H : Hp) (s : Shared) (e : Value) (s' : Shared), CX w [] H s (fun _ _ _ => False) e s' → False) :
    PySem.W.WalkO q loose XP YP l.row.toRowW d [] (fun f vs => PySem.call f vs) := by
  refine Att.attach_call hn hdf fun w s₀ s₁ mg mb fa o pm cd doc a vs ns G Y ho hd hcd hmg hobj hints hlen hg => ?_
  have KX := hY w _ Y
  obtain ⟨fd, hb, hF⟩ := F w mg fa _ KX G.T.g hmg
  exact law_call KX G.T.g G.T.b G.T.builtins G.T.nolimit hg hobj hints (Nat.le_trans hlen hn2) hr hF hb (fun H hO hS => hsp w H a ns hlen hO hS) fun H e s' => hCX w H s₁ e s'
end L2

/- THE LAST THEOREM (shape; LID, My.* are yours):
   My.Adr: a structure of the addresses that your layer names (classes, functions); My.Txt K t: a structure (Prop) of the equations over K;
   My.txt_mk : {K} {implicit addresses ..} (e1 : nsIn K mainGlobals "law" = some (some (.ref f))) (e2 : K.lookup f = some ⟨oc, od, .func (fnOf "law" "law" params body scope dV kV doc pm an cdv ct), sl⟩) (e3 : codeIn K cdv "law" = true) .. : ∃ t, My.Txt K t

(the tactic k_is has no namespace: write k_is) -/

/-! SHORT WORDS over the layer: a def of the text, its body, what a loop and a test want. -/
namespace L2
open PySem PySem.Spec PyProof.Rows

/-! ### the text by places -/
/-- the j-th statement of a class's body -/
def inClass (s : Stmt) (j : Nat) : Stmt := match s with
  | .ClassDef _ _ _ body _ _ _ _ _ _ _ => body.getD j (.Pass ⟨0, 0, 0, 0⟩)
  | _ => .Pass ⟨0, 0, 0, 0⟩
def defArgs (s : Stmt) : Arguments := match s with
  | .FunctionDef _ a _ _ _ _ _ _ _ _ => a
  | _ => { posonlyargs := [], args := [], vararg := none, kwonlyargs := [], kw_defaults := [], kwarg := none, defaults := [] }
def defBody (s : Stmt) : List Stmt := match s with
  | .FunctionDef _ _ b _ _ _ _ _ _ _ => b
  | _ => []
def defScope (s : Stmt) : Scope := match s with
  | .FunctionDef _ _ _ _ _ _ sc _ _ _ => sc
  | _ => { kind := .function, names := [], isGenerator := false, isCoroutine := false }

/-! ### no exception leaves a def -/
abbrev CX0 : CXT := fun _ _ _ _ _ _ => False
abbrev E0 : XK := fun _ _ _ => False
theorem pass0 {X : Cx} : Passes CX0 X E0 := fun _ _ _ _ _ _ _ h => h.elim

/-! ### a def (or method) of the text as it stands behind the top -/
structure Fun (K : PySem.W.Frag) (x qual : Str) (st : Stmt) (f : Addr) (fd : FuncData) : Prop where
  ex : ∃ (oc : Value) (od : Option Addr) (kV doc pm : Value) (an : Option Addr) (cdv ct : Value) (osl : Array (Option Value)),
    fd = PySem.W.fnOf x qual (defArgs st) (defBody st) (defScope st) .none kV doc pm an cdv ct ∧ K.lookup f = some ⟨oc, od, .func fd, osl⟩ ∧ PySem.W.codeIn K cdv qual = true
  kp : PySem.W.keepIn K (.ref f) = true
section
variable {P : Program} {w : World} {K : PySem.W.Frag} {mg : Str → Option Value} {base : Heap}
/-- THE RULE for a def: its body as a term of rules, and the reading of that term -/
theorem Fun.ok {x qual : Str} {st : Stmt} {f : Addr} {fd : FuncData} {N ps : List Str} {k : Nat} {sp : Sp} (F : Fun K x qual st f fd) (S : FnScope N ps (defScope st)) (len : ∀ vs H Q E, sp vs H Q E → vs.length = ps.length)
    (hbody : ∀ (cdv : Value) (A : Around) (outer : List Env) (s : Shared) (H : Hp) (vs : List V) (Q : VK) (E : XK), Room k (A.deeper (envOfC qual (defScope st) s.heap.objs.size f cdv)) → sp vs H Q E →
      ∃ t, PSs (cxOf CX0 P w K mg base N qual (defScope st) f cdv A outer s H E).nox (defBody st) t ∧ t { nx := fun _ H' => Q .non H', rt := Q } (start N vs) H) : FnOk P w K mg base CX0 (k + 1) f fd ps sp := by
  obtain ⟨oc, od, kV, doc, pm, an, cdv, ct, osl, rfl, lk, hcd⟩ := F.ex
  refine fn_of lk hcd S len fun A outer s H vs Q E hr hsp => ?_
  obtain ⟨t, h, q⟩ := hbody cdv A outer s H vs Q E hr hsp
  exact ⟨t, h.nox, q⟩
/-- how its arguments bind (no defaults): h is «fun _ _ _ _ _ _ us hl => match us, hl with | [_, _], _ => rfl», one _ a parameter -/
theorem Fun.binds {x qual : Str} {st : Stmt} {f : Addr} {fd : FuncData} {ps : List Str} (F : Fun K x qual st f fd)
    (h : ∀ (kV doc pm : Value) (an : Option Addr) (cdv ct : Value) (us : List Value), us.length = ps.length → bindArgs (PySem.W.fnOf x qual (defArgs st) (defBody st) (defScope st) .none kV doc pm an cdv ct) ⟨us, []⟩ = pure (ps.zip us)) : Binds K fd ps [] := by
  obtain ⟨oc, od, kV, doc, pm, an, cdv, ct, osl, rfl, lk, hcd⟩ := F.ex
  exact .all (h kV doc pm an cdv ct)
theorem fun_mk {x qual : Str} {st : Stmt} {f : Addr} {oc : Value} {od an : Option Addr} {osl : Array (Option Value)} {kV doc pm cdv ct : Value} (l : K.lookup f = some ⟨oc, od, .func (PySem.W.fnOf x qual (defArgs st) (defBody st) (defScope st) .none kV doc pm an cdv ct), osl⟩)
    (c : PySem.W.codeIn K cdv qual = true) (k : PySem.W.keepIn K (.ref f) = true) : Fun K x qual st f (PySem.W.fnOf x qual (defArgs st) (defBody st) (defScope st) .none kV doc pm an cdv ct) := ⟨⟨oc, od, kV, doc, pm, an, cdv, ct, osl, rfl, l, c⟩, k⟩
end
theorem hu_of {A : Around} {k : Nat} (hr : Room k A) : A.units + 1 < cLine := Nat.lt_of_le_of_lt (Nat.add_le_add_left (by decide : 1 ≤ 64) _) hr.units
/-! ### expressions in short: the name that stands in the i-th slot -/
section
variable {X : Cx}
theorem pv (i : Nat) {x : Str} {pos : Pos} (hN : X.N[i]? = some x := by rfl) (hv : Vis X.env.scope x := by first | exact Or.inl rfl | exact Or.inr (Or.inl rfl) | exact Or.inr (Or.inr rfl)) (hd : (x == ("__debug__" : Str)) = false := by decide)
    (hcd : (x == ("__classdict__" : Str)) = false := by decide) : PE X (.Name x pos) (tVar i) := pe_var hN hv hd hcd
end

/-! ### tests -/
theorem iteF {A B : Prop} (h : B) : if false = true then A else B := by
  rw [if_neg Bool.false_ne_true]
  exact h
theorem iteT {A B : Prop} (h : A) : if true = true then A else B := by
  rw [if_pos rfl]
  exact h
theorem ite2 {c A B : Prop} [Decidable c] (h1 : c → A) (h2 : ¬ c → B) : if c then A else B := by
  by_cases h : c
  · rw [if_pos h]
    exact h1 h
  · rw [if_neg h]
    exact h2 h
theorem iteNS {c A B : Prop} [Decidable c] (hc : c) (h : B) : if (!decide c) = true then A else B := by
  rw [decide_eq_true hc]
  exact iteF h

/-! ### heaps -/
/-- all that was tracked is as it was -/
def Same (H H' : Hp) : Prop := ∀ b o, H b = some o → H' b = some o
theorem Same.refl (H : Hp) : Same H H := fun _ _ h => h
theorem Same.trans {H H1 H2 : Hp} (a : Same H H1) (b : Same H1 H2) : Same H H2 := fun c o h => b c o (a c o h)
theorem Same.free {H H' : Hp} (e : Same H H') {l : Addr} (h : H' l = Option.none) : H l = Option.none := by
  cases q : H l with
  | none => rfl
  | some o =>
    rw [e l o q] at h
    cases h
theorem Same.seq {K : PySem.W.Frag} {H H' : Hp} {a : Addr} {xs : List V} (e : Same H H') (h : SqL K H a xs) : SqL K H' a xs := by
  rcases h with (h | ⟨o, h⟩) | h
  · exact .inl (.inl (e _ _ h))
  · exact .inl (.inr ⟨o, e _ _ h⟩)
  · exact .inr h

end L2

namespace L2
open PySem PySem.Spec PyProof.Rows

/-! ### lists of pairs as tables -/
section
variable {κ : Type} [DecidableEq κ]
def valV (kvs : List (κ × V)) (k : κ) : Option V := (kvs.find? fun kv => decide (kv.1 = k)).map (·.2)
/-- in its place, or at the end -/
def putK (kvs : List (κ × V)) (k : κ) (v : V) : List (κ × V) :=
  if (kvs.any fun kv => decide (kv.1 = k)) = true then kvs.map (fun kv => if kv.1 = k then (kv.1, v) else kv) else kvs ++ [(k, v)]
def dropK (kvs : List (κ × V)) (k : κ) : List (κ × V) := kvs.filter fun kv => decide (kv.1 ≠ k)

theorem valV_nil {k : κ} : valV ([] : List (κ × V)) k = none := rfl
theorem valV_pos {p : κ × V} {r : List (κ × V)} {k : κ} (e : p.1 = k) : valV (p :: r) k = some p.2 := by simp [valV, List.find?_cons, e]
theorem valV_neg {p : κ × V} {r : List (κ × V)} {k : κ} (e : ¬ p.1 = k) : valV (p :: r) k = valV r k := by simp [valV, List.find?_cons, e]
theorem valV_any (k : κ) : ∀ kvs : List (κ × V), (kvs.any fun kv => decide (kv.1 = k)) = (valV kvs k).isSome
  | [] => rfl
  | p :: r => by
    rw [List.any_cons]
    by_cases e : p.1 = k
    · simp only [valV_pos e, decide_eq_true e, Bool.true_or, Option.isSome_some]
    · rw [valV_neg e, decide_eq_false e, Bool.false_or]; exact valV_any k r
theorem valV_map (k j : κ) (y : V) : ∀ kvs : List (κ × V), valV (kvs.map fun kv => if kv.1 = k then (kv.1, y) else kv) j = (valV kvs j).map fun x => if j = k then y else x
  | [] => rfl
  | p :: r => by
    have ih := valV_map k j y r
    rw [List.map_cons]
    by_cases h : p.1 = k
    · rw [if_pos h]
      by_cases e : p.1 = j
      · rw [valV_pos (p := (p.1, y)) e, valV_pos e, Option.map_some, if_pos (e.symm.trans h)]
      · rw [valV_neg (p := (p.1, y)) e, valV_neg e, ih]
    · rw [if_neg h]
      by_cases e : p.1 = j
      · rw [valV_pos (p := p) e, valV_pos e, Option.map_some, if_neg (fun z => h (e.trans z))]
      · rw [valV_neg (p := p) e, valV_neg e, ih]
theorem valV_snoc (k j : κ) (y : V) : ∀ kvs : List (κ × V), valV kvs k = none → valV (kvs ++ [(k, y)]) j = if j = k then some y else valV kvs j
  | [], _ => by
    by_cases e : k = j
    · rw [if_pos e.symm]; exact valV_pos (p := (k, y)) e
    · rw [if_neg (fun z => e z.symm)]; exact valV_neg (p := (k, y)) e
  | p :: r, hn => by
    rw [List.cons_append]
    have hk : ¬ p.1 = k := fun z => by rw [valV_pos z] at hn; cases hn
    rw [valV_neg hk] at hn
    have ih := valV_snoc k j y r hn
    by_cases e : p.1 = j
    · rw [valV_pos e, valV_pos e, if_neg (fun z => hk (e.trans z))]
    · rw [valV_neg e, valV_neg e, ih]
theorem valV_put (kvs : List (κ × V)) (k j : κ) (y : V) : valV (putK kvs k y) j = if j = k then some y else valV kvs j := by
  unfold putK
  by_cases a : (kvs.any fun kv => decide (kv.1 = k)) = true
  · rw [if_pos a, valV_map]
    rw [valV_any] at a
    by_cases e : j = k
    · obtain ⟨x, hx⟩ := Option.isSome_iff_exists.mp a
      rw [if_pos e, e, hx, Option.map_some, if_pos rfl]
    · rw [if_neg e]
      cases valV kvs j with
      | none => rfl
      | some x => rw [Option.map_some, if_neg e]
  · rw [if_neg a]
    refine valV_snoc k j y kvs ?_
    rw [valV_any] at a
    cases q : valV kvs k with
    | none => rfl
    | some x => rw [q] at a; exact (a rfl).elim
theorem length_putK (kvs : List (κ × V)) (k : κ) (v : V) : (putK kvs k v).length ≤ kvs.length + 1 := by
  unfold putK
  split
  · rw [List.length_map]; omega
  · rw [List.length_append, List.length_cons, List.length_nil]; omega
theorem putK_new {kvs : List (κ × V)} {k : κ} (v : V) (h : valV kvs k = none) : putK kvs k v = kvs ++ [(k, v)] := by
  unfold putK
  rw [valV_any, h]
  exact if_neg (by decide)

theorem RelO.isSome_eq {o : Option V} {u : Option Value} (r : RelO o u) : o.isSome = u.isSome := by
  cases o with
  | none => cases u with
    | none => rfl
    | some _ => exact (show False from r).elim
  | some _ => cases u with
    | none => exact (show False from r).elim
    | some _ => rfl
theorem RelO.getD {o : Option V} {u : Option Value} {d : V} {d' : Value} (r : RelO o u) (rd : RelV d d') : RelV (o.getD d) (u.getD d') := by
  cases o with
  | none => cases u with
    | none => exact rd
    | some _ => exact (show False from r).elim
  | some _ => cases u with
    | none => exact (show False from r).elim
    | some _ => exact r

/-- raw tables of the same keys -/
theorem KV.val {kvs : List (κ × V)} {vs : List (κ × Value)} (r : KV kvs vs) (k : κ) : RelO (valV kvs k) (valueAt vs k) := by
  unfold KV at r
  induction r with
  | nil => exact True.intro
  | @cons p q ps qs h t ih =>
    obtain ⟨h1, h2⟩ := h
    by_cases e : p.1 = k
    · have e' : q.1 = k := h1.symm.trans e
      have b : valueAt (q :: qs) k = some q.2 := by simp [valueAt, List.find?_cons, e']
      rw [valV_pos e, b]; exact h2
    · have e' : ¬ q.1 = k := fun z => e (h1.trans z)
      have b : valueAt (q :: qs) k = valueAt qs k := by simp [valueAt, List.find?_cons, e']
      rw [valV_neg e, b]; exact ih
theorem KV.any {kvs : List (κ × V)} {vs : List (κ × Value)} (r : KV kvs vs) (k : κ) : (kvs.any fun kv => decide (kv.1 = k)) = vs.any fun kv => decide (kv.1 = k) := by
  unfold KV at r
  induction r with
  | nil => rfl
  | cons h t ih => rw [List.any_cons, List.any_cons, ih, h.1]
theorem KV.repl {kvs : List (κ × V)} {vs : List (κ × Value)} (r : KV kvs vs) (k : κ) {y : V} {u : Value} (ry : RelV y u) :
    KV (kvs.map fun kv => if kv.1 = k then (kv.1, y) else kv) (vs.map fun kv => if kv.1 = k then (kv.1, u) else kv) := by
  unfold KV at r ⊢
  induction r with
  | nil => exact .nil
  | @cons p q ps qs h t ih =>
    rw [List.map_cons, List.map_cons]
    refine .cons ?_ ih
    obtain ⟨h1, h2⟩ := h
    by_cases e : p.1 = k
    · rw [if_pos e, if_pos (h1.symm.trans e)]; exact ⟨h1, ry⟩
    · rw [if_neg e, if_neg (fun z => e (h1.trans z))]; exact ⟨h1, h2⟩
theorem KV.put {kvs : List (κ × V)} {vs : List (κ × Value)} (r : KV kvs vs) (k : κ) {y : V} {u : Value} (ry : RelV y u) : KV (putK kvs k y) (stored vs k u) := by
  unfold putK stored
  rw [r.any k]
  by_cases e : (vs.any fun kv => decide (kv.1 = k)) = true
  · rw [if_pos e, if_pos e]; exact r.repl k ry
  · rw [if_neg e, if_neg e]; exact Paired.snoc r ⟨rfl, ry⟩
theorem KV.drop {kvs : List (κ × V)} {vs : List (κ × Value)} (r : KV kvs vs) (k : κ) : KV (dropK kvs k) (without vs k) := by
  unfold KV at r ⊢
  unfold dropK without
  induction r with
  | nil => exact .nil
  | @cons p q ps qs h t ih =>
    obtain ⟨h1, h2⟩ := h
    rw [List.filter_cons, List.filter_cons]
    by_cases e : p.1 = k
    · have a : ¬ decide (p.1 ≠ k) = true := by simp [e]
      have b : ¬ decide (q.1 ≠ k) = true := by simp [h1.symm.trans e]
      rw [if_neg a, if_neg b]; exact ih
    · have e' : ¬ q.1 = k := fun z => e (h1.trans z)
      have a : decide (p.1 ≠ k) = true := by simp [e]
      have b : decide (q.1 ≠ k) = true := by simp [e']
      rw [if_pos a, if_pos b]; exact .cons ⟨h1, h2⟩ ih
theorem KV.keys {kvs : List (κ × V)} {vs : List (κ × Value)} (r : KV kvs vs) : kvs.map (·.1) = vs.map (·.1) := by
  unfold KV at r
  induction r with
  | nil => rfl
  | cons h t ih => rw [List.map_cons, List.map_cons, ih, h.1]
theorem KV.length {kvs : List (κ × V)} {vs : List (κ × Value)} (r : KV kvs vs) : kvs.length = vs.length := Paired.length r
end


/-! ### a tracked dict, its keys ints and texts or tuples of these -/
theorem kV_is {P : Program} {w : World} {k : Key} {u : Value} (r : RelV (kV k) u) : (mixKind P w).is k u = true := by
  cases k with
  | inl i => obtain ⟨t, e⟩ := (show ∃ t, u = Value.int i t from r); subst e; exact mixKind_int P w i t
  | inr x => obtain ⟨t, e⟩ := (show ∃ t, u = Value.str x t from r); subst e; exact mixKind_str P w x t
theorem items_are {P : Program} {w : World} : ∀ {ks : List Key} {us : List Value}, Vals (ks.map kV) us → ItemsAre (mixKind P w) ks us
  | [], _, r => by rw [List.map_nil] at r; cases r; exact .nil
  | k :: ks, _, r => by
    rw [List.map_cons] at r
    cases r with
    | cons h t => exact .cons (kV_is h) (items_are t)

/-- raw entries of a dict with tuple keys -/
abbrev KT (H : Hp) : List (List Key × V) → List (List Key × Addr × Value) → Prop := Paired fun p q => p.1 = q.1 ∧ H q.2.1 = some (.tup (p.1.map kV)) ∧ RelV p.2 q.2.2
theorem KT.val {H : Hp} {kvs : List (List Key × V)} {xs : List (List Key × Addr × Value)} (r : KT H kvs xs) (k : List Key) : RelO (valV kvs k) ((atKey xs k).map (·.2)) := by
  induction r with
  | nil => exact True.intro
  | @cons p q ps qs h t ih =>
    obtain ⟨h1, _, h2⟩ := h
    by_cases e : p.1 = k
    · have e' : q.1 = k := h1.symm.trans e
      have b : atKey (q :: qs) k = some q.2 := by simp [atKey, List.find?_cons, e']
      rw [valV_pos e, b]; exact h2
    · have e' : ¬ q.1 = k := fun z => e (h1.trans z)
      have b : atKey (q :: qs) k = atKey qs k := by simp [atKey, List.find?_cons, e']
      rw [valV_neg e, b]; exact ih
theorem KT.repl {H : Hp} {kvs : List (List Key × V)} {xs : List (List Key × Addr × Value)} (r : KT H kvs xs) (k : List Key) {y : V} {u : Value} (ry : RelV y u) :
    KT H (kvs.map fun kv => if kv.1 = k then (kv.1, y) else kv) (xs.map (putAt k u)) := by
  induction r with
  | nil => exact .nil
  | @cons p q ps qs h t ih =>
    rw [List.map_cons, List.map_cons]
    refine .cons ?_ ih
    obtain ⟨h1, h2, h3⟩ := h
    unfold putAt
    by_cases e : p.1 = k
    · rw [if_pos e, if_pos (h1.symm.trans e)]; exact ⟨h1, h2, ry⟩
    · rw [if_neg e, if_neg (fun z => e (h1.trans z))]; exact ⟨h1, h2, h3⟩
theorem KT.put {H : Hp} {kvs : List (List Key × V)} {xs : List (List Key × Addr × Value)} (r : KT H kvs xs) (k : List Key) {b : Addr} {y : V} {u : Value} (hb : H b = some (.tup (k.map kV))) (ry : RelV y u) :
    KT H (putK kvs k y) (storedH xs k b u) := by
  have e : (kvs.any fun kv => decide (kv.1 = k)) = (atKey xs k).isSome := by
    rw [valV_any, (r.val k).isSome_eq, Option.isSome_map]
  unfold putK storedH
  rw [e]
  by_cases q : (atKey xs k).isSome = true
  · rw [if_pos q, if_pos q]; exact r.repl k ry
  · rw [if_neg q, if_neg q]; exact Paired.snoc r ⟨rfl, hb, ry⟩
theorem KT.keeps {H H' : Hp} {kvs : List (List Key × V)} {xs : List (List Key × Addr × Value)} (r : KT H kvs xs) (ht : ∀ b ys, H b = some (.tup ys) → H' b = some (.tup ys)) : KT H' kvs xs :=
  Paired.mapP r fun _ _ z => ⟨z.1, ht _ _ z.2.1, z.2.2⟩

section
variable {P : Program} {w : World} {H : Hp} {h : Heap} {a : Addr}
theorem rd_of {u : HO} (ok : HOk P w H h) (e : Rd H a u) : ObjOk P w H h a u := e.ok ok
theorem dk_rd {kvs : List (Key × V)} (ok : HOk P w H h) (e : Rd H a (.dK kvs)) : kvs.length ≤ sizeLine ∧ (a == sysModules) = false ∧ ∃ vs, KV kvs vs ∧ h.DictOf (mixKind P w) a vs :=
  show ObjOk P w H h a (.dK kvs) from rd_of ok e
theorem dk_of {kvs : List (Key × V)} (ok : HOk P w H h) (e : H a = some (.dK kvs)) : kvs.length ≤ sizeLine ∧ (a == sysModules) = false ∧ ∃ vs, KV kvs vs ∧ h.DictOf (mixKind P w) a vs := dk_rd ok (.inl e)
/-- a tracked tuple of ints and texts is a key -/
theorem key_of {ks : List Key} (ok : HOk P w H h) (e : H a = some (.tup (ks.map kV))) : (tupleKind (mixKind P w)).is h ks a := by
  obtain ⟨_, its, r, o, h1, h2, n, h3⟩ := (show ObjOk P w H h a (.tup (ks.map kV)) from ok a _ e)
  exact ⟨o, its.toArray, n, h1, h2, h3, by simpa using items_are r⟩
theorem dt_rd {kvs : List (List Key × V)} (ok : HOk P w H h) (e : Rd H a (.dT kvs)) : kvs.length ≤ sizeLine ∧ (a == sysModules) = false ∧
    ∃ xs, KT H kvs xs ∧ h.DictOfH (tupleKind (mixKind P w)) a xs := by
  obtain ⟨z, y, xs, r, o, es, ep, h1, h2, h3, h4, h5⟩ := (show ObjOk P w H h a (.dT kvs) from rd_of ok e)
  refine ⟨z, y, xs, r, o, es, ep, h1, h2, h3, h4, fun x hx => ?_, h5⟩
  have all : ∀ {l : List (List Key × V)} {m : List (List Key × Addr × Value)}, KT H l m → ∀ x ∈ m, (tupleKind (mixKind P w)).is h x.1 x.2.1 := by
    intro l m q
    induction q with
    | nil => intro x hx; exact nomatch hx
    | @cons p q ps qs hq t ih =>
      intro x hx
      rcases List.mem_cons.mp hx with e | hx
      · subst e
        exact key_of ok (by rw [← hq.1]; exact hq.2.1)
      · exact ih x hx
  exact all r x hx
theorem dt_of {kvs : List (List Key × V)} (ok : HOk P w H h) (e : H a = some (.dT kvs)) : kvs.length ≤ sizeLine ∧ (a == sysModules) = false ∧
    ∃ xs, KT H kvs xs ∧ h.DictOfH (tupleKind (mixKind P w)) a xs := dt_rd ok (.inl e)
end

/-- what the dict at a holds at the key y -/
def DGet (H : Hp) (a : Addr) (y : V) (r : Option V) : Prop :=
  (∃ kvs k, Rd H a (.dK kvs) ∧ y = kV k ∧ r = valV kvs k) ∨ ∃ kvs k b, Rd H a (.dT kvs) ∧ y = .ref b ∧ H b = some (.tup (k.map kV)) ∧ r = valV kvs k
/-- the heap behind a[y] = v -/
def DPut (H : Hp) (a : Addr) (y v : V) (H' : Hp) : Prop :=
  (∃ kvs k, H a = some (.dK kvs) ∧ y = kV k ∧ kvs.length < sizeLine ∧ H' = upd H a (.dK (putK kvs k v))) ∨
  ∃ kvs k b, H a = some (.dT kvs) ∧ y = .ref b ∧ H b = some (.tup (k.map kV)) ∧ kvs.length < sizeLine ∧ H' = upd H a (.dT (putK kvs k v))
theorem DGet.k {H : Hp} {a : Addr} {kvs : List (Key × V)} {k : Key} (e : H a = some (.dK kvs)) : DGet H a (kV k) (valV kvs k) := .inl ⟨kvs, k, .inl e, rfl, rfl⟩
theorem DGet.t {H : Hp} {a b : Addr} {kvs : List (List Key × V)} {k : List Key} (e : H a = some (.dT kvs)) (eb : H b = some (.tup (k.map kV))) : DGet H a (.ref b) (valV kvs k) := .inr ⟨kvs, k, b, .inl e, rfl, eb, rfl⟩
theorem DPut.k {H : Hp} {a : Addr} {kvs : List (Key × V)} {k : Key} {v : V} (e : H a = some (.dK kvs)) (hl : kvs.length < sizeLine) : DPut H a (kV k) v (upd H a (.dK (putK kvs k v))) := .inl ⟨kvs, k, e, rfl, hl, rfl⟩
theorem DPut.t {H : Hp} {a b : Addr} {kvs : List (List Key × V)} {k : List Key} {v : V} (e : H a = some (.dT kvs)) (eb : H b = some (.tup (k.map kV))) (hl : kvs.length < sizeLine) :
    DPut H a (.ref b) v (upd H a (.dT (putK kvs k v))) := .inr ⟨kvs, k, b, e, rfl, eb, hl, rfl⟩


section
variable {X : Cx} {pins : List (Addr × Obj)} {σ : St} {H : Hp} {s : Shared} {a : Addr} {y v : V} {u r : Value} {o : Option V} {A : Around} {E : Value → Shared → Prop}

theorem Inv.big (I : Inv X pins σ H s) : sysModules < s.heap.objs.size := by
  have h : mainGlobals < s.heap.objs.size := (I.mod.glob.keeps I.bk).lt
  exact Nat.lt_trans (by decide) h

/-- d[y], there -/
theorem d_getItem {Q : Value → Shared → Prop} (hu : A.units + 1 < cLine) (I : Inv X pins σ H s) (g : DGet H a y (some v)) (ry : RelV y u) (h : ∀ w' s', Inv X pins σ H s' → RelV v w' → Q w' s') :
    wpAny (model X.prog X.w) A (getItem (.ref a) u) Q E s := by
  rcases g with ⟨kvs, k, e, ey, l⟩ | ⟨kvs, k, b, e, ey, eb, l⟩
  · subst ey
    obtain ⟨z, hd, vs, rel, dd⟩ := dk_rd I.hok e
    obtain ⟨w', hw, rw'⟩ := RelO.some_of (v := v) (o := valueAt vs k) (by rw [l]; exact rel.val k)
    exact wpAny_getItem_of (kV_is ry) dd.mapOf hw (h w' _ (I.tok _) rw')
  · subst ey
    cases (show u = Value.ref b from ry)
    obtain ⟨z, hd, xs, rel, dd⟩ := dt_rd I.hok e
    obtain ⟨w', hw, rw'⟩ := RelO.some_of (v := v) (o := (atKey xs k).map (·.2)) (by rw [l]; exact rel.val k)
    obtain ⟨p, hp, hp2⟩ := Option.map_eq_some_iff.mp hw
    refine wpAny_getItem_heap (tupleKind_room_in1 hu) (key_of I.hok eb) dd hp ?_
    rw [hp2]
    exact h w' _ (I.tok _) rw'
theorem d_notIn {Q : Value → Shared → Prop} (hu : A.units + 1 < cLine) (I : Inv X pins σ H s) (g : DGet H a y o) (ry : RelV y u) (h : ∀ s', Inv X pins σ H s' → Q (.bool (!o.isSome)) s') :
    wpAny (model X.prog X.w) A (compareOp .NotIn u (.ref a)) Q E s := by
  rcases g with ⟨kvs, k, e, ey, l⟩ | ⟨kvs, k, b, e, ey, eb, l⟩
  · subst ey
    obtain ⟨z, hd, vs, rel, dd⟩ := dk_rd I.hok e
    refine wpAny_notIn_of (kV_is ry) hd dd.mapOf ?_
    rw [← (rel.val k).isSome_eq, ← l]
    exact h _ (I.tok _)
  · subst ey
    cases (show u = Value.ref b from ry)
    obtain ⟨z, hd, xs, rel, dd⟩ := dt_rd I.hok e
    refine wpAny_notIn_heap (tupleKind_room_in1 hu) (key_of I.hok eb) hd dd ?_
    have q := (rel.val k).isSome_eq
    rw [Option.isSome_map] at q
    rw [← q, ← l]
    exact h _ (I.tok _)
/-- a dict's object is replaced -/
theorem d_write {h' : Heap} {t' : Nat} {ob : HO} (I : Inv X pins σ H s) (mu : Mut (H a)) (hs : Heap.SameBut a s.heap h') (he : ∃ q, h'.get? a = some q) (new : ObjOk X.prog X.w (upd H a ob) h' a ob) :
    Inv X pins σ (upd H a ob) { s with heap := h', toks := t' } :=
  I.write (x := a) (e := a) mu (.inl rfl) (fun b q hb z => (hs.2 b hb).trans z) he new
theorem dk_new {P : Program} {w : World} {H' : Hp} {h' : Heap} {kvs : List (Key × V)} {vs : List (Key × Value)} (z : kvs.length ≤ sizeLine) (hd : (a == sysModules) = false) (rel : KV kvs vs) (dd : h'.DictOf (mixKind P w) a vs) :
    ObjOk P w H' h' a (.dK kvs) := ⟨z, hd, vs, rel, dd⟩
/-- d[y] = v -/
theorem d_setItem {H' : Hp} {Q : Unit → Shared → Prop} (hu : A.units + 1 < cLine) (I : Inv X pins σ H s) (g : DPut H a y v H') (ry : RelV y u) (rv : RelV v r) (h : ∀ s', Inv X pins σ H' s' → Q () s') :
    wpAny (model X.prog X.w) A (setItem (.ref a) u r) Q E s := by
  rcases g with ⟨kvs, k, e, ey, l, eH⟩ | ⟨kvs, k, b, e, ey, eb, l, eH⟩
  · subst ey eH
    obtain ⟨z, hd, vs, rel, dd⟩ := dk_of I.hok e
    have hz : vs.length ≤ sizeLine := by rw [← rel.length]; exact z
    have hl : (putK kvs k v).length ≤ sizeLine := by have := length_putK kvs k v; omega
    refine wpAny_setItem_pairs (hsz := hz) (kV_is ry) dd fun h' dd' hs => h _ ?_
    have he : ∃ q, h'.get? a = some q := let ⟨q, _, _, hq, _⟩ := dd'; ⟨q, hq⟩
    exact d_write I (by rw [e]; exact True.intro) hs he (dk_new hl hd (rel.put k rv) dd')
  · subst ey eH
    cases (show u = Value.ref b from ry)
    obtain ⟨z, hd, xs, rel, dd⟩ := dt_of I.hok e
    have hz : xs.length ≤ sizeLine := by rw [← Paired.length rel]; exact z
    have hl : (putK kvs k v).length ≤ sizeLine := by have := length_putK kvs k v; omega
    refine wpAny_setItem_heap (hsz := hz) (tupleKind_room_in1 hu) (key_of I.hok eb) dd fun h' dd' hs => h _ ?_
    obtain ⟨q, es, ep, hq, h2, h3, h4, _, h5⟩ := dd'
    refine d_write I (by rw [e]; exact True.intro) hs ⟨q, hq⟩ ⟨hl, hd, _, (rel.put k eb rv).keeps fun c ys ec => ?_, q, es, ep, hq, h2, h3, h4, h5⟩
    rw [upd_ne (ne_of ec e (fun z => nomatch z))]
    exact ec
end

section
variable {X : Cx} {pins : List (Addr × Obj)} {σ : St} {H : Hp} {s : Shared} {a : Addr} {kvs : List (Key × V)} {k : Key} {u : Value} {A : Around} {E : Value → Shared → Prop}
/-- len(d) -/
theorem d_len {Q : Value → Shared → Prop} (I : Inv X pins σ H s) (e : Rd H a (.dK kvs)) (h : ∀ t s', Inv X pins σ H s' → Q (.int kvs.length t) s') : wpAny (model X.prog X.w) A (call (.builtin "len") [.ref a]) Q E s := by
  obtain ⟨z, hd, vs, rel, dd⟩ := dk_rd I.hok e
  refine call_len_dict hd dd (by rw [← rel.length]; rw [sizeLine_eq] at z; omega) ?_
  rw [← rel.length]
  exact h _ _ (I.tok _)
end


/-! ### readings and rules -/
/-- the element of a subscription, not a slice -/
def NoSl (i : Expr) : Prop := ∀ ov iv, subscripted i false ov iv = operate [ov, iv] (getItem ov iv)
theorem subD_of {prog : Program} {w : World} {A : Around} {E : Value → Shared → Prop} {s : Shared} {env : Env} {value slice : Expr} {pos : Pos} {T id : String} {Q : Value → Shared → Prop}
    (hl : typeLookup (.type T) "__getitem__" = pure (some (.builtin id))) (hs : NoSl slice)
    (h : wpAny (model prog w) A (eval value env) (fun o s₁ => wpAny (model prog w) A (eval slice env) (fun i s₂ => s₂.TypeIs o T ∧ wpAny (model prog w) A (getItem o i) Q E s₂) E s₁) E s) :
    wpAny (model prog w) A (eval (.Subscript value slice pos) env) Q E s := by
  refine Subscript_ (wpAny_mono h (fun o s₁ h₁ => wpAny_mono h₁ (fun i s₂ h₂ => ?_) fun _ _ x => x) fun _ _ x => x)
  obtain ⟨hT, h₂⟩ := h₂
  unfold subscriptTail
  refine wpAny_bind ?_
  rw [getitemInPython_of_ne hT.not_modules]
  refine wpAny_bind (wpAny_specialOf hT hl ?_)
  have fin : wpAny (model prog w) A (subscripted slice false o i) (fun r s₃ => wpAny (model prog w) A (letTemporaryGo value o r >>= fun _ => pure r) Q E s₃) E s₂ := by
    rw [hs o i]
    exact wpAny_operating (wpAny_mono h₂ (fun r s₃ h₃ => wpAny_bind (wpAny_letTemporaryGo (wpAny_pure h₃))) fun _ _ x => x)
  first
    | exact wpAny_pure (wpAny_bind fin)
    | exact wpAny_bind (wpAny_pure (wpAny_bind fin))
    | exact wpAny_bind fin

theorem dict_typeIs {X : Cx} {pins : List (Addr × Obj)} {σ : St} {H : Hp} {s : Shared} {a : Addr} {y : V} {o : Option V} (I : Inv X pins σ H s) (g : DGet H a y o) : s.TypeIs (.ref a) "dict" := by
  rcases g with ⟨kvs, k, e, _, _⟩ | ⟨kvs, k, b, e, _, _, _⟩
  · obtain ⟨_, _, vs, _, dd⟩ := dk_rd I.hok e
    exact dd.typeIs
  · obtain ⟨_, _, xs, _, dd⟩ := dt_rd I.hok e
    exact dd.typeIs
/-- d[y] -/
def tDGet (td ty : TE) : TE := fun σ H Q => td σ H fun x H1 => ty σ H1 fun y H2 => ∃ a v, x = .ref a ∧ DGet H2 a y (some v) ∧ Q v H2
/-- y in d, y not in d -/
def tDIn (ty td : TE) : TE := fun σ H Q => ty σ H fun y H1 => td σ H1 fun x H2 => ∃ a o, x = .ref a ∧ DGet H2 a y o ∧ Q (.bl o.isSome) H2
def tDNotIn (ty td : TE) : TE := fun σ H Q => ty σ H fun y H1 => td σ H1 fun x H2 => ∃ a o, x = .ref a ∧ DGet H2 a y o ∧ Q (.bl (!o.isSome)) H2
/-- d[y] = v -/
def sDPut (td ty tv : TE) : TS := fun D σ H => tv σ H fun v H1 => td σ H1 fun x H2 => ty σ H2 fun y H3 => ∃ a H4, x = .ref a ∧ DPut H3 a y v H4 ∧ D.nx σ H4
/-- d[y] op= v -/
def sDAug (td ty tv : TE) (rd : V → V → Hp → VK → Prop) : TS := fun D σ H => td σ H fun x H1 => ty σ H1 fun y H2 => ∃ a v, x = .ref a ∧ DGet H2 a y (some v) ∧
  tv σ H2 fun y2 H3 => rd v y2 H3 fun z H4 => ∃ H5, DPut H4 a y z H5 ∧ D.nx σ H5
/-- del d[y] -/
def sDDel (td ty : TE) : TS := fun D σ H => td σ H fun x H1 => ty σ H1 fun y H2 => ∃ a kvs k, x = .ref a ∧ H2 a = some (.dK kvs) ∧ y = kV k ∧ (valV kvs k).isSome = true ∧ D.nx σ (upd H2 a (.dK (dropK kvs k)))

section
variable {X : Cx} {o i e value : Expr} {pos pos' tpos : Pos} {td ty tv : TE}
theorem pe_dget (hu : X.A.units + 1 < cLine) (ho : PE X o td) (hi : PE X i ty) (hs : NoSl i) : PE X (.Subscript o i pos) (tDGet td ty) := by
  intro pins s σ H Q I h
  refine subD_of PySem.F.slot_dict_getitem.lookup hs (thn (ho pins s σ H _ I h) fun u s1 ⟨x, H1, I1, rx, q1⟩ => thn (hi pins s1 σ H1 _ I1 q1) fun iv s2 ⟨y, H2, I2, ry, a, v, ex, g, q2⟩ => ?_)
  subst ex
  obtain rfl : u = Value.ref a := rx
  exact ⟨dict_typeIs I2 g, d_getItem hu I2 g ry fun w' s3 I3 rw' => ⟨v, H2, I3, rw', q2⟩⟩
theorem pc_dnotin (hu : X.A.units + 1 < cLine) (hi : PE X i ty) (ho : PE X o td) : PC X .NotIn i o (tDNotIn ty td) := by
  intro pins s σ H Q I h
  refine thn (hi pins s σ H _ I h) fun iv s1 ⟨y, H1, I1, ry, q1⟩ => thn (ho pins s1 σ H1 _ I1 q1) fun u s2 ⟨x, H2, I2, rx, a, ov, ex, g, q2⟩ => ?_
  subst ex
  obtain rfl : u = Value.ref a := rx
  exact d_notIn hu I2 g ry fun s3 I3 => ⟨.bl (!ov.isSome), H2, I3, rfl, q2⟩
theorem ps_dput (hu : X.A.units + 1 < cLine) (ho : PE X o td) (hi : PE X i ty) (hv : PE X value tv) (hs : swapsWith value (some (.Subscript o i pos')) pos.line X.env = pure false) :
    PS X (.Assign [.Subscript o i pos'] value pos) (sDPut td ty tv) := by
  intro pins s σ H D I h
  refine wpAny_Assign_Subscript (thn (hv pins s σ H _ I h) fun r s1 ⟨v, H1, I1, rv, q1⟩ => thn (ho pins s1 σ H1 _ I1 q1) fun u s2 ⟨x, H2, I2, rx, q2⟩ => thn (hi pins s2 σ H2 _ I2 q2) fun iv s3 ⟨y, H3, I3, ry, a, H4, ex, g, q3⟩ => ?_) hs
  subst ex
  obtain rfl : u = Value.ref a := rx
  exact d_setItem hu I3 g ry rv fun s4 I4 => ⟨σ, H4, I4, q3⟩
end


/-! ### displays -/
theorem dk_empty {P : Program} {w : World} {H : Hp} (h : Heap) (hb : sysModules < h.objs.size) : ObjOk P w H (h.push { cls := .type "dict", data := .dict #[] }) h.objs.size (.dK []) :=
  ⟨Nat.zero_le _, beq_eq_false_iff_ne.mpr (Ne.symm (Nat.ne_of_lt hb)), [], .nil, Heap.DictOf.new h⟩
/-- {}, to be a dict of the kind that is wanted -/
def tDNewK : TE := fun _ H Q => ∀ p, H p = none → Q (.ref p) (upd H p (.dK []))
def tDNewT : TE := fun _ H Q => ∀ p, H p = none → Q (.ref p) (upd H p (.dT []))
section
variable {X : Cx} {pos : Pos}
theorem pe_dnewK : PE X (.Dict [] [] pos) tDNewK := fun pins s σ H Q I h =>
  wpAny_Dict_empty ⟨.ref s.heap.objs.size, _, I.laid (a := s.heap.objs.size) (o := .dK []) (t' := s.toks) (fun _ _ q => Heap.get?_push_of_some _ q) (Nat.le_refl _) (dk_empty s.heap I.big), rfl, h _ (I.hok.fresh (Nat.le_refl _))⟩
end

/-- the pairs of a display, from the left -/
def tPairs : List (TE × TE) → St → Hp → (List (V × V) → Hp → Prop) → Prop
  | [], _, H, Q => Q [] H
  | (tk, tv) :: r, σ, H, Q => tk σ H fun x H1 => tv σ H1 fun y H2 => tPairs r σ H2 fun ps H3 => Q ((x, y) :: ps) H3
abbrev VV : List (V × V) → List (Value × Value) → Prop := Paired fun p q => RelV p.1 q.1 ∧ RelV p.2 q.2
def PPs (X : Cx) (pos : Pos) (keys : List (Option Expr)) (values : List Expr) (trs : List (TE × TE)) : Prop :=
  ∀ (pins : List (Addr × Obj)) (s : Shared) (σ : St) (H : Hp) (Q : List (V × V) → Hp → Prop), Inv X pins σ H s → tPairs trs σ H Q →
    wpAny (model X.prog X.w) X.A (evalPairs (pairTrees keys values X.env pos)) (fun vs s' => ∃ ps H', Inv X pins σ H' s' ∧ VV ps vs ∧ Q ps H') X.xe s
theorem pps_nil {X : Cx} {pos : Pos} : PPs X pos [] [] [] := fun pins s σ H Q I h => pairTrees_nil_walk ⟨[], H, I, .nil, h⟩
theorem pps_cons {X : Cx} {pos : Pos} {k v : Expr} {ks : List (Option Expr)} {vs : List Expr} {tk tv : TE} {trs : List (TE × TE)} (hk : PE X k tk) (hv : PE X v tv) (hr : PPs X pos ks vs trs) :
    PPs X pos (some k :: ks) (v :: vs) ((tk, tv) :: trs) := fun pins s σ H Q I h =>
  pairTrees_cons_walk (thn (hk pins s σ H _ I h) fun u s1 ⟨x, H1, I1, rx, q1⟩ => thn (hv pins s1 σ H1 _ I1 q1) fun w2 s2 ⟨y, H2, I2, ry, q2⟩ =>
    thn (hr pins s2 σ H2 _ I2 q2) fun ws s3 ⟨ps, H3, I3, rel, q3⟩ => ⟨(x, y) :: ps, H3, I3, .cons ⟨rx, ry⟩ rel, q3⟩)

def mergeK (kvs more : List (Key × V)) : List (Key × V) := more.foldl (fun acc kv => putK acc kv.1 kv.2) kvs
theorem KV.merge : ∀ {more : List (Key × V)} {rs : List (Key × Value)} {kvs : List (Key × V)} {vs : List (Key × Value)}, KV more rs → KV kvs vs → KV (mergeK kvs more) (merged vs rs) := by
  intro more rs kvs vs r
  unfold KV at r
  induction r generalizing kvs vs with
  | nil => intro q; exact q
  | @cons p q ps qs h t ih =>
    intro r0
    have e : KV (putK kvs p.1 p.2) (stored vs q.1 q.2) := by
      have := r0.put p.1 h.2
      rw [← h.1]; exact this
    exact ih e
theorem length_mergeK : ∀ (more kvs : List (Key × V)), (mergeK kvs more).length ≤ kvs.length + more.length
  | [], kvs => by show kvs.length ≤ kvs.length + 0; omega
  | p :: r, kvs => by
    have h1 := length_mergeK r (putK kvs p.1 p.2)
    have h2 := length_putK kvs p.1 p.2
    show (mergeK (putK kvs p.1 p.2) r).length ≤ _
    rw [List.length_cons]; omega
theorem carries_of {P : Program} {w : World} : ∀ {kvs : List (Key × V)} {ws : List (Value × Value)}, VV (kvs.map fun kv => (kV kv.1, kv.2)) ws → ∃ rs, Carries (mixKind P w) ws rs ∧ KV kvs rs
  | [], _, r => by rw [List.map_nil] at r; cases r; exact ⟨[], True.intro, .nil⟩
  | p :: kvs, _, r => by
    rw [List.map_cons] at r
    cases r with
    | @cons a b as bs h t =>
      obtain ⟨rs, c, q⟩ := carries_of (P := P) (w := w) t
      obtain ⟨b1, b2⟩ := b
      exact ⟨(p.1, b2) :: rs, ⟨kV_is h.1, rfl, c⟩, .cons ⟨rfl, h.2⟩ q⟩
/-- {k: v, ..} with keys ints and texts; the new dict stands empty while the pairs are made -/
def tDisp (trs : List (TE × TE)) : TE := fun σ H Q => ∀ p, H p = none → tPairs trs σ (upd H p (.dK [])) fun ps H2 => H2 p = some (.dK []) ∧ ∃ kvs : List (Key × V), ps = kvs.map (fun kv => (kV kv.1, kv.2)) ∧ kvs.length ≤ 15 ∧ Q (.ref p) (upd H2 p (.dK (mergeK [] kvs)))
theorem pe_disp {X : Cx} {pos : Pos} {keys : List (Option Expr)} {values : List Expr} {trs : List (TE × TE)} (h : PPs X pos keys values trs) (hall : keys.all (·.isSome) = true) (hl : keys.length = values.length) (h0 : keys ≠ [])
    (h15 : keys.length ≤ 15) : PE X (.Dict keys values pos) (tDisp trs) := by
  intro pins s σ H Q I q
  have hn := I.hok.fresh (Nat.le_refl s.heap.objs.size)
  have I1 := I.laid (a := s.heap.objs.size) (o := .dK []) (h' := s.heap.push { cls := .type "dict", data := .dict #[] }) (t' := s.toks) (fun _ _ q => Heap.get?_push_of_some _ q) (Nat.le_refl _) (dk_empty s.heap I.big)
  refine wpAny_Dict_walk (knd := mixKind X.prog X.w) hall hl h0 h15 (thn (h pins _ σ _ _ I1 (q _ hn)) fun ws s2 ⟨ps, H2, I2, rel, e, kvs, ep, lk, q2⟩ => ?_)
  subst ep
  obtain ⟨rs, c, rk⟩ := carries_of (P := X.prog) (w := X.w) rel
  obtain ⟨z, hd, vs0, r0, dd⟩ := dk_of I2.hok e
  cases r0
  refine ⟨rs, c, dd, fun h' dd' hs => ⟨.ref s.heap.objs.size, _, ?_, rfl, q2⟩⟩
  have hz : (mergeK [] kvs).length ≤ sizeLine := by
    have h1 := length_mergeK kvs []
    rw [List.length_nil] at h1
    rw [sizeLine_eq]; omega
  have he : ∃ q, h'.get? s.heap.objs.size = some q := let ⟨q, _, _, hq, _⟩ := dd'; ⟨q, hq⟩
  exact d_write I2 (by rw [e]; exact True.intro) hs he (dk_new hz hd (rk.merge .nil) dd')


/-! ### methods -/
/-- a method call o.m(e) of a built-in, with one argument: what must be seen of the text -/
structure M1 (X : Cx) (o : Expr) (m : Str) (apos : Pos) (e : Expr) (cpos : Pos) : Prop where
  base : attributeBase o m X.env (eval o X.env) = eval o X.env
  few : ((backTo cpos (starEach [e] X.env)).all (fun x => !x.1) && (backToKw cpos (keywordEach [] X.env)).all (fun x => x.1.isSome)
    && decide (([e] : List Expr).length + ([] : List Keyword).length + (if ([] : List Keyword).isEmpty then 0 else 1) < 30)) = true
  line : (apos.endLine == cpos.line) = true
  trees : backTo cpos (starEach [e] X.env) = [(false, eval e X.env)]
structure M2 (X : Cx) (o : Expr) (m : Str) (apos : Pos) (e f : Expr) (cpos : Pos) : Prop where
  base : attributeBase o m X.env (eval o X.env) = eval o X.env
  few : ((backTo cpos (starEach [e, f] X.env)).all (fun x => !x.1) && (backToKw cpos (keywordEach [] X.env)).all (fun x => x.1.isSome)
    && decide (([e, f] : List Expr).length + ([] : List Keyword).length + (if ([] : List Keyword).isEmpty then 0 else 1) < 30)) = true
  line : (apos.endLine == cpos.line) = true
  trees : backTo cpos (starEach [e, f] X.env) = [(false, eval e X.env), (false, eval f X.env)]

/-- a is a dict, whatever its keys -/
def IsD (H : Hp) (a : Addr) : Prop := (∃ kvs, Rd H a (.dK kvs)) ∨ ∃ kvs, Rd H a (.dT kvs)
section
variable {X : Cx} {pins : List (Addr × Obj)} {σ : St} {H : Hp} {s : Shared} {a : Addr} {y d : V} {u r : Value} {o : Option V} {A : Around} {E : Value → Shared → Prop}
end

def tDGet1 (td ty : TE) : TE := fun σ H Q => td σ H fun x H1 => ∃ a, x = .ref a ∧ IsD H1 a ∧ ty σ H1 fun y H2 => ∃ o, DGet H2 a y o ∧ Q (o.getD .non) H2
def tDGet2 (td ty tx : TE) : TE := fun σ H Q => td σ H fun x H1 => ∃ a, x = .ref a ∧ IsD H1 a ∧ ty σ H1 fun y H2 => tx σ H2 fun z H3 => ∃ o, DGet H3 a y o ∧ Q (o.getD z) H3
/-- d.pop(k): there; d.pop(k, x): there or not -/
def tDPop1 (td ty : TE) : TE := fun σ H Q => td σ H fun x H1 => ∃ a, x = .ref a ∧ IsD H1 a ∧ ty σ H1 fun y H2 => ∃ kvs k v, H2 a = some (.dK kvs) ∧ y = kV k ∧ valV kvs k = some v ∧ Q v (upd H2 a (.dK (dropK kvs k)))
def tDPop2 (td ty tx : TE) : TE := fun σ H Q => td σ H fun x H1 => ∃ a, x = .ref a ∧ IsD H1 a ∧ ty σ H1 fun y H2 => tx σ H2 fun z H3 => ∃ kvs k, H3 a = some (.dK kvs) ∧ y = kV k ∧
  (∀ v, valV kvs k = some v → Q v (upd H3 a (.dK (dropK kvs k)))) ∧ (valV kvs k = none → Q z H3)
section
variable {X : Cx} {o e f : Expr} {apos cpos : Pos} {td ty tx : TE}
end

/-! ### dict(d): a copy -/
section
variable {X : Cx} {pins : List (Addr × Obj)} {σ : St} {H : Hp} {s : Shared} {a : Addr} {kvs : List (Key × V)} {A : Around} {E : Value → Shared → Prop}
end


section
variable {X : Cx} {pins : List (Addr × Obj)} {σ : St} {H : Hp} {s : Shared} {a : Addr} {y : V} {u : Value} {A : Around} {E : Value → Shared → Prop}
end
end L2
namespace L2
open PySem PySem.Spec PyProof.Rows
section
variable {X : Cx}
/-- len of a dict -/
theorem call_lenD : CallR X (.builtin "len") (fun xs H Q => ∃ a kvs, xs = [V.ref a] ∧ H a = some (.dK kvs) ∧ Q (.int kvs.length) H) := by
  intro pins s σ H xs us Q I r h
  obtain ⟨a, kvs, rfl, ha, q⟩ := h
  obtain ⟨u, rfl, ru⟩ := vals1 r
  cases ru
  exact d_len I (.inl ha) fun t s' I' => ⟨.int kvs.length, H, I', ⟨t, rfl⟩, q⟩
end
/-! ### a dict's pairs: keys that differ -/
section
variable {κ : Type} [DecidableEq κ]
end
end L2


namespace Ink

/-! ### rows of ends, as plain data -/
abbrev Rs := List (List Int)

def acr (e : Int) : Int := e + 1 - 2 * (e % 2)
theorem acr_acr (e : Int) : acr (acr e) = e := by unfold acr; omega
theorem acr_lt {e : Int} {n : Nat} (hn : n % 2 = 0) (h0 : 0 ≤ e) (h1 : e < n) : 0 ≤ acr e ∧ acr e < n := by unfold acr; omega

/-- the end behind e in its row -/
def behind (r : List Int) (e : Int) : Int := r.getD ((r.idxOf e + 1) % r.length) e
def nextIn : Rs → Int → Int
  | [], e => e
  | r :: rs, e => if e ∈ r then behind r e else nextIn rs e

theorem behind_mem {r : List Int} {e : Int} (h : e ∈ r) : behind r e ∈ r := by
  have hl : 0 < r.length := List.length_pos_of_mem h
  have hk : (r.idxOf e + 1) % r.length < r.length := Nat.mod_lt _ hl
  unfold behind
  rw [List.getD_eq_getElem?_getD, List.getElem?_eq_getElem hk]
  exact List.getElem_mem hk

theorem behind_inj {r : List Int} {a b : Int} (nd : r.Nodup) (ha : a ∈ r) (hb : b ∈ r) (h : behind r a = behind r b) : a = b := by
  have hl : 0 < r.length := List.length_pos_of_mem ha
  have ka : (r.idxOf a + 1) % r.length < r.length := Nat.mod_lt _ hl
  have kb : (r.idxOf b + 1) % r.length < r.length := Nat.mod_lt _ hl
  unfold behind at h
  rw [List.getD_eq_getElem?_getD, List.getElem?_eq_getElem ka, List.getD_eq_getElem?_getD, List.getElem?_eq_getElem kb] at h
  have e : (r.idxOf a + 1) % r.length = (r.idxOf b + 1) % r.length := (List.getElem_inj nd).mp h
  have la : r.idxOf a < r.length := List.idxOf_lt_length_iff.mpr ha
  have lb : r.idxOf b < r.length := List.idxOf_lt_length_iff.mpr hb
  have key : ∀ x y n : Nat, x < n → y < n → (x + 1) % n = (y + 1) % n → x = y := by
    intro x y n hx hy he
    by_cases h1 : x + 1 = n
    · by_cases h2 : y + 1 = n
      · omega
      · rw [h1, Nat.mod_self, Nat.mod_eq_of_lt (by omega)] at he; omega
    · by_cases h2 : y + 1 = n
      · rw [h2, Nat.mod_self, Nat.mod_eq_of_lt (by omega)] at he; omega
      · rw [Nat.mod_eq_of_lt (by omega), Nat.mod_eq_of_lt (by omega)] at he; omega
  have i : r.idxOf a = r.idxOf b := key _ _ _ la lb e
  have ga := List.getElem_idxOf la
  have gb := List.getElem_idxOf lb
  rw [← ga, ← gb]
  exact getElem_congr rfl i _

theorem nextIn_mem : ∀ {rs : Rs} {e : Int}, e ∈ rs.flatten → nextIn rs e ∈ rs.flatten
  | [], _, h => by simp at h
  | r :: rs, e, h => by
    unfold nextIn
    rw [List.flatten_cons]
    by_cases he : e ∈ r
    · rw [if_pos he]; exact List.mem_append_left _ (behind_mem he)
    · rw [if_neg he]
      refine List.mem_append_right _ (nextIn_mem ?_)
      rw [List.flatten_cons] at h
      exact (List.mem_append.mp h).resolve_left he
theorem nextIn_inj : ∀ {rs : Rs} {a b : Int}, rs.flatten.Nodup → a ∈ rs.flatten → b ∈ rs.flatten → nextIn rs a = nextIn rs b → a = b
  | [], _, _, _, h, _, _ => by simp at h
  | r :: rs, a, b, nd, ha, hb, h => by
    rw [List.flatten_cons] at nd ha hb
    obtain ⟨n1, n2, n3⟩ := List.nodup_append.mp nd
    unfold nextIn at h
    by_cases h1 : a ∈ r
    · by_cases h2 : b ∈ r
      · rw [if_pos h1, if_pos h2] at h
        exact behind_inj n1 h1 h2 h
      · rw [if_pos h1, if_neg h2] at h
        have q := nextIn_mem ((List.mem_append.mp hb).resolve_left h2)
        exact absurd h (n3 _ (behind_mem h1) _ q)
    · by_cases h2 : b ∈ r
      · rw [if_neg h1, if_pos h2] at h
        have q := nextIn_mem ((List.mem_append.mp ha).resolve_left h1)
        exact absurd h.symm (n3 _ (behind_mem h2) _ q)
      · rw [if_neg h1, if_neg h2] at h
        exact nextIn_inj n2 ((List.mem_append.mp ha).resolve_left h1) ((List.mem_append.mp hb).resolve_left h2) h

/-! ### a drawing: each of 0 .. n - 1 once -/
structure Dr (rs : Rs) (n : Nat) : Prop where
  nd : rs.flatten.Nodup
  mem : ∀ z : Int, z ∈ rs.flatten ↔ 0 ≤ z ∧ z < n
  len : rs.flatten.length = n
  even : n % 2 = 0

/-- one step of a face -/
def stp (rs : Rs) (e : Int) : Int := nextIn rs (acr e)
theorem Dr.stp_mem {rs : Rs} {n : Nat} (d : Dr rs n) {e : Int} (h0 : 0 ≤ e) (h1 : e < n) : 0 ≤ stp rs e ∧ stp rs e < n :=
  let ⟨a, b⟩ := acr_lt d.even h0 h1
  (d.mem _).mp (nextIn_mem ((d.mem _).mpr ⟨a, b⟩))
theorem Dr.stp_inj {rs : Rs} {n : Nat} (d : Dr rs n) {a b : Int} (ha : 0 ≤ a ∧ a < n) (hb : 0 ≤ b ∧ b < n) (h : stp rs a = stp rs b) : a = b := by
  have e := nextIn_inj d.nd ((d.mem _).mpr (acr_lt d.even ha.1 ha.2)) ((d.mem _).mpr (acr_lt d.even hb.1 hb.2)) h
  rw [← acr_acr a, ← acr_acr b, e]

/-! ### a map of finitely many into themselves that takes no two to one goes round -/
def itr (f : Int → Int) : Nat → Int → Int
  | 0, x => x
  | k + 1, x => f (itr f k x)
theorem itr_add (f : Int → Int) (a b : Nat) (x : Int) : itr f (a + b) x = itr f a (itr f b x) := by
  induction a with
  | zero => rw [Nat.zero_add]; rfl
  | succ a ih => rw [Nat.succ_add]; show f (itr f (a + b) x) = f (itr f a (itr f b x)); rw [ih]
theorem itr_in {f : Int → Int} {n : Nat} (hm : ∀ x : Int, 0 ≤ x ∧ x < n → 0 ≤ f x ∧ f x < n) {x : Int} (hx : 0 ≤ x ∧ x < (n : Int)) : ∀ k, 0 ≤ itr f k x ∧ itr f k x < n
  | 0 => hx
  | k + 1 => hm _ (itr_in hm hx k)
theorem itr_back {f : Int → Int} {n : Nat} (hm : ∀ x : Int, 0 ≤ x ∧ x < n → 0 ≤ f x ∧ f x < n) (hi : ∀ x y : Int, 0 ≤ x ∧ x < n → 0 ≤ y ∧ y < n → f x = f y → x = y) {x : Int} (hx : 0 ≤ x ∧ x < (n : Int)) :
    ∀ i d, itr f (i + d) x = itr f i x → itr f d x = x
  | 0, d, h => by rw [Nat.zero_add] at h; exact h
  | i + 1, d, h => by
    rw [Nat.succ_add] at h
    exact itr_back hm hi hx i d (hi _ _ (itr_in hm hx _) (itr_in hm hx _) h)

/-- pigeonhole: a list of numbers below n without repeats has at most n -/
theorem nodup_le : ∀ (n : Nat) (l : List Int), l.Nodup → (∀ z ∈ l, 0 ≤ z ∧ z < n) → l.length ≤ n
  | 0, l, _, h => by
    cases l with
    | nil => simp
    | cons a r => have := h a (by simp); omega
  | n + 1, l, nd, h => by
    have e : (l.erase (n : Int)).length ≤ n := nodup_le n _ (nd.erase _) fun z hz => by
      have h1 := h z (List.mem_of_mem_erase hz)
      have h2 : z ≠ n := by
        intro q
        subst q
        exact (List.Nodup.not_mem_erase nd) hz
      omega
    have := List.length_erase (a := (n : Int)) (l := l)
    split at this <;> omega
theorem go_round {f : Int → Int} {n : Nat} (hm : ∀ x : Int, 0 ≤ x ∧ x < n → 0 ≤ f x ∧ f x < n) (hi : ∀ x y : Int, 0 ≤ x ∧ x < n → 0 ≤ y ∧ y < n → f x = f y → x = y) {x : Int} (hx : 0 ≤ x ∧ x < (n : Int)) :
    ∃ k, 0 < k ∧ k ≤ n ∧ itr f k x = x := by
  by_cases h : ∃ k, 0 < k ∧ k ≤ n ∧ itr f k x = x
  · exact h
  · exfalso
    have nd : ((List.range (n + 1)).map fun k => itr f k x).Nodup := by
      rw [List.nodup_iff_pairwise_ne, List.pairwise_map]
      refine List.Pairwise.imp_of_mem ?_ List.pairwise_lt_range
      intro a b ha hb hab q
      have hb' := List.mem_range.mp hb
      refine h ⟨b - a, by omega, by omega, itr_back hm hi hx a (b - a) ?_⟩
      rw [show a + (b - a) = b by omega]
      exact q.symm
    have l := nodup_le n _ nd fun z hz => by
      obtain ⟨k, _, rfl⟩ := List.mem_map.mp hz
      exact itr_in hm hx k
    rw [List.length_map, List.length_range] at l
    omega
end Ink

namespace Ink

/-! ### an end put behind another -/
def insAt (r : List Int) (b e : Int) : List Int := r.take (r.idxOf b + 1) ++ e :: r.drop (r.idxOf b + 1)
def putRow (b e : Int) (r : List Int) : List Int := if b ∈ r then insAt r b e else r
def putIn (rs : Rs) (b e : Int) : Rs := rs.map (putRow b e)
theorem insAt_perm (r : List Int) (b e : Int) : (insAt r b e).Perm (e :: r) := by
  unfold insAt
  refine List.perm_middle.trans ?_
  rw [List.take_append_drop]
theorem putRow_no {b e : Int} {r : List Int} (h : b ∉ r) : putRow b e r = r := by unfold putRow; rw [if_neg h]
theorem putIn_no {b e : Int} : ∀ {rs : Rs}, b ∉ rs.flatten → putIn rs b e = rs
  | [], _ => rfl
  | r :: rs, h => by
    rw [List.flatten_cons] at h
    show putRow b e r :: putIn rs b e = r :: rs
    rw [putRow_no fun q => h (List.mem_append_left _ q), putIn_no fun q => h (List.mem_append_right _ q)]
theorem putIn_perm {b e : Int} : ∀ {rs : Rs}, rs.flatten.Nodup → b ∈ rs.flatten → (putIn rs b e).flatten.Perm (e :: rs.flatten)
  | [], _, h => by simp at h
  | r :: rs, nd, h => by
    rw [List.flatten_cons] at nd h
    obtain ⟨n1, n2, n3⟩ := List.nodup_append.mp nd
    show (putRow b e r :: putIn rs b e).flatten.Perm _
    rw [List.flatten_cons, List.flatten_cons]
    by_cases hb : b ∈ r
    · have no : b ∉ rs.flatten := fun q => n3 b hb b q rfl
      rw [putIn_no no]
      unfold putRow
      rw [if_pos hb]
      exact (insAt_perm r b e).append_right _
    · rw [putRow_no hb]
      exact ((putIn_perm n2 ((List.mem_append.mp h).resolve_left hb)).append_left r).trans List.perm_middle
theorem putIn_length (rs : Rs) (b e : Int) : (putIn rs b e).length = rs.length := List.length_map _

theorem Dr.of_perm {rs rs' : Rs} {n : Nat} (d : Dr rs n) {l : List Int} (hl : l = [(n : Int), n + 1] ∨ l = [(n : Int) + 1, n]) (h : rs'.flatten.Perm (l ++ rs.flatten)) : Dr rs' (n + 2) := by
  have hmem : ∀ z, z ∈ l ↔ z = n ∨ z = (n : Int) + 1 := by
    intro z
    rcases hl with rfl | rfl <;> simp [or_comm]
  have hlen : l.length = 2 := by rcases hl with rfl | rfl <;> rfl
  have hnd : l.Nodup := by
    rcases hl with rfl | rfl <;> simp [List.nodup_cons] <;> omega
  refine ⟨(h.nodup_iff).mpr (List.nodup_append.mpr ⟨hnd, d.nd, fun a ha b hb q => ?_⟩), fun z => ?_, ?_, by have := d.even; omega⟩
  · subst q
    have h1 := (hmem a).mp ha
    have h2 := (d.mem a).mp hb
    omega
  · rw [h.mem_iff, List.mem_append, hmem, d.mem]
    omega
  · rw [h.length_eq, List.length_append, hlen, d.len]
    omega
theorem Dr.two : Dr [[0], [1]] 2 := ⟨by decide, fun z => by simp; omega, rfl, rfl⟩
theorem Dr.one : Dr [[0, 1]] 2 := ⟨by decide, fun z => by simp; omega, rfl, rfl⟩
theorem Dr.alone {rs : Rs} {n : Nat} (d : Dr rs n) : Dr (rs ++ [[]]) n := by
  have e : (rs ++ [[]]).flatten = rs.flatten := by simp
  exact ⟨by rw [e]; exact d.nd, fun z => by rw [e]; exact d.mem z, by rw [e]; exact d.len, d.even⟩
theorem Dr.apart {rs : Rs} {n : Nat} (d : Dr rs n) : Dr (rs ++ [[(n : Int)], [(n : Int) + 1]]) (n + 2) := by
  refine d.of_perm (.inl rfl) ?_
  have e : (rs ++ [[(n : Int)], [(n : Int) + 1]]).flatten = rs.flatten ++ [(n : Int), (n : Int) + 1] := by simp
  rw [e]
  exact List.perm_append_comm
theorem Dr.leaf {rs : Rs} {n : Nat} {h : Int} (d : Dr rs n) (h0 : 0 ≤ h ∧ h < n) : Dr (putIn rs h n ++ [[(n : Int) + 1]]) (n + 2) := by
  refine d.of_perm (l := [(n : Int) + 1, n]) (.inr rfl) ?_
  have e : (putIn rs h n ++ [[(n : Int) + 1]]).flatten = (putIn rs h n).flatten ++ [(n : Int) + 1] := by simp
  rw [e]
  exact (((putIn_perm d.nd ((d.mem _).mpr h0)).append_right _).trans List.perm_append_comm).trans (by simp)
theorem Dr.tie {rs : Rs} {n : Nat} {h t : Int} (d : Dr rs n) (h0 : 0 ≤ h ∧ h < n) (t0 : 0 ≤ t ∧ t < n) : Dr (putIn (putIn rs h n) t ((n : Int) + 1)) (n + 2) := by
  refine d.of_perm (l := [(n : Int) + 1, n]) (.inr rfl) ?_
  have p := putIn_perm (e := (n : Int)) d.nd ((d.mem _).mpr h0)
  have nd : (putIn rs h n).flatten.Nodup := p.nodup_iff.mpr (List.nodup_cons.mpr ⟨fun q => by have := (d.mem _).mp q; omega, d.nd⟩)
  have mt : t ∈ (putIn rs h n).flatten := p.mem_iff.mpr (List.mem_cons_of_mem _ ((d.mem _).mpr t0))
  exact (putIn_perm nd mt).trans (p.cons _)

/-! ### the walk round a face -/
def orb (f : Int → Int) (x : Int) (j : Nat) : List Int := (List.range (j + 1)).map fun i => itr f i x
theorem orb_succ (f : Int → Int) (x : Int) (j : Nat) : orb f x (j + 1) = orb f x j ++ [itr f (j + 1) x] := by
  unfold orb
  rw [List.range_succ, List.map_append]
  rfl
theorem orb_length (f : Int → Int) (x : Int) (j : Nat) : (orb f x j).length = j + 1 := by unfold orb; rw [List.length_map, List.length_range]
structure IsFace (f : Int → Int) (x : Int) (row : List Int) : Prop where
  ex : ∃ j, row = orb f x j ∧ itr f (j + 1) x = x ∧ ∀ i, 0 < i → i ≤ j → itr f i x ≠ x
theorem IsFace.pos {f : Int → Int} {x : Int} {row : List Int} (h : IsFace f x row) : 0 < row.length := by
  obtain ⟨j, rfl, _⟩ := h.ex
  rw [orb_length]; omega
theorem IsFace.mem {f : Int → Int} {n : Nat} (hm : ∀ x : Int, 0 ≤ x ∧ x < n → 0 ≤ f x ∧ f x < n) {x : Int} (hx : 0 ≤ x ∧ x < (n : Int)) {row : List Int} (h : IsFace f x row) : ∀ z ∈ row, 0 ≤ z ∧ z < n := by
  obtain ⟨j, rfl, _⟩ := h.ex
  intro z hz
  obtain ⟨i, _, rfl⟩ := List.mem_map.mp hz
  exact itr_in hm hx i
theorem IsFace.uniq {f : Int → Int} {x : Int} {row row' : List Int} (h : IsFace f x row) (h' : IsFace f x row') : row = row' := by
  obtain ⟨j, rfl, e, l⟩ := h.ex
  obtain ⟨j', rfl, e', l'⟩ := h'.ex
  have : j = j' := by
    by_cases q : j < j'
    · exact absurd e (l' (j + 1) (by omega) (by omega))
    · by_cases q' : j' < j
      · exact absurd e' (l (j' + 1) (by omega) (by omega))
      · omega
  rw [this]

/-! ### how the law's drawings are made -/
inductive Made (any : Prop) : Rs → Nat → Prop
  | two : Made any [[0], [1]] 2
  | one : Made any [[0, 1]] 2
  | apart {rs : Rs} {n : Nat} : Made any rs n → Made any (rs ++ [[(n : Int)], [(n : Int) + 1]]) (n + 2)
  | alone {rs : Rs} {n : Nat} : Made any rs n → Made any (rs ++ [[]]) n
  | leaf {rs : Rs} {n : Nat} {h : Int} : Made any rs n → 0 ≤ h ∧ h < (n : Int) → Made any (putIn rs h n ++ [[(n : Int) + 1]]) (n + 2)
  | tie {rs : Rs} {n : Nat} {h t : Int} : Made any rs n → 0 ≤ h ∧ h < (n : Int) → 0 ≤ t ∧ t < (n : Int) →
      (any ∨ ∃ row z, IsFace (stp rs) (nextIn rs h) row ∧ z ∈ row ∧ t = acr z) → Made any (putIn (putIn rs h n) t ((n : Int) + 1)) (n + 2)
theorem Made.dr {any : Prop} {rs : Rs} {n : Nat} (m : Made any rs n) : Dr rs n := by
  induction m with
  | two => exact .two
  | one => exact .one
  | apart _ ih => exact ih.apart
  | alone _ ih => exact ih.alone
  | leaf _ h ih => exact ih.leaf h
  | tie _ h t _ ih => exact ih.tie h t
theorem Made.le2 {any : Prop} {rs : Rs} {n : Nat} (m : Made any rs n) : 2 ≤ n := by
  induction m <;> omega
theorem putRow_ne {b e : Int} {r : List Int} (h : r ≠ []) : putRow b e r ≠ [] := by
  unfold putRow
  split
  · unfold insAt; simp
  · exact h
/-- the first row has ends -/
theorem Made.first {any : Prop} {rs : Rs} {n : Nat} (m : Made any rs n) : ∃ r rest, rs = r :: rest ∧ r ≠ [] := by
  induction m with
  | two => exact ⟨_, _, rfl, by simp⟩
  | one => exact ⟨_, _, rfl, by simp⟩
  | apart _ ih => obtain ⟨r, t, rfl, h⟩ := ih; exact ⟨r, _, rfl, h⟩
  | alone _ ih => obtain ⟨r, t, rfl, h⟩ := ih; exact ⟨r, _, rfl, h⟩
  | leaf _ _ ih => obtain ⟨r, t, rfl, h⟩ := ih; exact ⟨_, _, rfl, putRow_ne h⟩
  | tie _ _ _ _ ih => obtain ⟨r, t, rfl, h⟩ := ih; exact ⟨_, _, rfl, putRow_ne (putRow_ne h)⟩
end Ink

namespace Ink
/-! ### all faces, from the least end on -/
inductive Fcs (f : Int → Int) : Nat → Rs → Prop
  | zero : Fcs f 0 []
  | skip {i : Nat} {fs : Rs} : Fcs f i fs → (i : Int) ∈ fs.flatten → Fcs f (i + 1) fs
  | add {i : Nat} {fs : Rs} {row : List Int} : Fcs f i fs → (i : Int) ∉ fs.flatten → IsFace f i row → Fcs f (i + 1) (fs ++ [row])
theorem Fcs.uniq {f : Int → Int} : ∀ {i : Nat} {fs fs' : Rs}, Fcs f i fs → Fcs f i fs' → fs = fs' := by
  intro i fs fs' h
  induction h generalizing fs' with
  | zero => intro h'; cases h'; rfl
  | skip _ hm ih =>
    intro h'
    cases h' with
    | skip h2 _ => exact ih h2
    | add h2 hn _ => exact absurd (ih h2 ▸ hm) hn
  | add _ hn hf ih =>
    intro h'
    cases h' with
    | skip h2 hm => exact absurd (ih h2 ▸ hm) hn
    | add h2 _ hf2 => rw [ih h2, hf.uniq hf2]
theorem IsFace.len {f : Int → Int} {n : Nat} (hm : ∀ x : Int, 0 ≤ x ∧ x < n → 0 ≤ f x ∧ f x < n) (hi : ∀ x y : Int, 0 ≤ x ∧ x < n → 0 ≤ y ∧ y < n → f x = f y → x = y) {x : Int} (hx : 0 ≤ x ∧ x < (n : Int)) {row : List Int} (h : IsFace f x row) : row.length ≤ n := by
  obtain ⟨j, rfl, _, l⟩ := h.ex
  obtain ⟨k, k0, k1, k2⟩ := go_round hm hi hx
  rw [orb_length]
  rcases Nat.lt_or_ge j k with z | z
  · omega
  · exact absurd k2 (l k k0 z)
theorem IsFace.congr {f g : Int → Int} {n : Nat} (hm : ∀ x : Int, 0 ≤ x ∧ x < n → 0 ≤ f x ∧ f x < n) (e : ∀ x : Int, 0 ≤ x ∧ x < n → f x = g x) {x : Int} (hx : 0 ≤ x ∧ x < (n : Int)) {row : List Int} (h : IsFace g x row) : IsFace f x row := by
  have it : ∀ k, itr g k x = itr f k x := by
    intro k
    induction k with
    | zero => rfl
    | succ k ih => show g (itr g k x) = f (itr f k x); rw [ih, e _ (itr_in hm hx k)]
  obtain ⟨j, rfl, e1, l⟩ := h.ex
  refine ⟨j, ?_, by rw [← it]; exact e1, fun i h1 h2 => by rw [← it]; exact l i h1 h2⟩
  unfold orb
  exact List.map_congr_left fun k _ => it k
theorem Fcs.bound {f : Int → Int} {n : Nat} (hm : ∀ x : Int, 0 ≤ x ∧ x < n → 0 ≤ f x ∧ f x < n) (hi : ∀ x y : Int, 0 ≤ x ∧ x < n → 0 ≤ y ∧ y < n → f x = f y → x = y) {i : Nat} {fs : Rs} (h : Fcs f i fs) (hin : i ≤ n) : fs.length ≤ i ∧ fs.flatten.length ≤ i * n := by
  induction h with
  | zero => exact ⟨Nat.le_refl _, Nat.zero_le _⟩
  | skip _ _ ih =>
    have := ih (by omega)
    refine ⟨by omega, ?_⟩
    rw [Nat.succ_mul]; omega
  | add _ _ hf ih =>
    have := ih (by omega)
    have hl := hf.len hm hi (by omega)
    rename_i row _ _
    have e1 : ([row] : Rs).flatten.length = row.length := by simp
    rw [List.length_append, List.flatten_append, List.length_append, Nat.succ_mul, e1]
    refine ⟨?_, by omega⟩
    show _ + 1 ≤ _
    omega
/-! ### the end behind an end, by its place -/
theorem nextIn_at : ∀ {rs : Rs} {i j : Nat} {r : List Int} {e : Int}, rs.flatten.Nodup → rs[i]? = some r → r[j]? = some e → nextIn rs e = r.getD ((j + 1) % r.length) e
  | [], _, _, _, _, _, h, _ => by simp at h
  | r0 :: rs, 0, j, r, e, nd, h, hj => by
    have : r0 = r := by simpa using h
    subst this
    obtain ⟨hl, he⟩ := List.getElem?_eq_some_iff.mp hj
    have hm : e ∈ r0 := he ▸ List.getElem_mem hl
    have nd0 : r0.Nodup := by rw [List.flatten_cons] at nd; exact (List.nodup_append.mp nd).1
    have hx : r0.idxOf e = j := by
      have h1 : r0.idxOf e < r0.length := List.idxOf_lt_length_iff.mpr hm
      exact (List.getElem_inj nd0 (h₀ := h1) (h₁ := hl)).mp ((List.getElem_idxOf h1).trans he.symm)
    show (if e ∈ r0 then behind r0 e else nextIn rs e) = _
    rw [if_pos hm]
    unfold behind
    rw [hx]
  | r0 :: rs, i + 1, j, r, e, nd, h, hj => by
    have h' : rs[i]? = some r := by simpa using h
    rw [List.flatten_cons] at nd
    obtain ⟨_, nd2, dj⟩ := List.nodup_append.mp nd
    have hm : e ∈ rs.flatten := List.mem_flatten.mpr ⟨r, List.mem_of_getElem? h', List.mem_of_getElem? hj⟩
    have hn : e ∉ r0 := fun z => dj e z e hm rfl
    show (if e ∈ r0 then behind r0 e else nextIn rs e) = _
    rw [if_neg hn]
    exact nextIn_at nd2 h' hj
/-- the place ahead of k, round -/
def pre (n k : Nat) : Nat := (k + n - 1) % n
theorem pre_lt {n k : Nat} (h : 0 < n) : pre n k < n := Nat.mod_lt _ h
theorem pre_zero {n : Nat} (h : 0 < n) : pre n 0 = n - 1 := by unfold pre; rw [Nat.zero_add]; exact Nat.mod_eq_of_lt (by omega)
theorem pre_succ {n k : Nat} (h : k + 1 < n) : pre n (k + 1) = k := by
  unfold pre
  rw [show k + 1 + n - 1 = k + n by omega, Nat.add_mod_right, Nat.mod_eq_of_lt (by omega)]
theorem pre_next {n k : Nat} (h : k < n) : (pre n k + 1) % n = k := by
  cases k with
  | zero => rw [pre_zero h, show n - 1 + 1 = n by omega, Nat.mod_self]
  | succ k => rw [pre_succ h, Nat.mod_eq_of_lt h]
theorem pre_inj {n a b : Nat} (ha : a < n) (hb : b < n) (h : pre n a = pre n b) : a = b := by
  rw [← pre_next ha, ← pre_next hb, h]
/-- a row's ends from the last one on -/
def rot (r : List Int) (k : Nat) : List Int := (List.range k).map fun i => r.getD (pre r.length i) 0
theorem rot_succ (r : List Int) (k : Nat) : rot r (k + 1) = rot r k ++ [r.getD (pre r.length k) 0] := by
  unfold rot
  rw [List.range_succ, List.map_append]
  rfl
theorem rot_length (r : List Int) (k : Nat) : (rot r k).length = k := by unfold rot; rw [List.length_map, List.length_range]
theorem getD_pre {r : List Int} {k : Nat} (h : k < r.length) : r[pre r.length k]? = some (r.getD (pre r.length k) 0) := by
  have hl := pre_lt (k := k) (n := r.length) (by omega)
  rw [List.getD_eq_getElem?_getD, List.getElem?_eq_getElem hl]
  rfl
theorem rot_mem {r : List Int} {k : Nat} (hk : k ≤ r.length) : ∀ z ∈ rot r k, z ∈ r := by
  intro z hz
  obtain ⟨i, hi, rfl⟩ := List.mem_map.mp hz
  have := List.mem_range.mp hi
  exact List.mem_of_getElem? (getD_pre (by omega))
theorem rot_all {r : List Int} : ∀ z ∈ r, z ∈ rot r r.length := by
  intro z hz
  obtain ⟨j, hj⟩ := List.mem_iff_getElem?.mp hz
  obtain ⟨hl, e⟩ := List.getElem?_eq_some_iff.mp hj
  refine List.mem_map.mpr ⟨(j + 1) % r.length, List.mem_range.mpr (Nat.mod_lt _ (by omega)), ?_⟩
  have hp : pre r.length ((j + 1) % r.length) = j := by
    by_cases h : j + 1 = r.length
    · rw [h, Nat.mod_self, pre_zero (by omega)]; omega
    · rw [Nat.mod_eq_of_lt (by omega), pre_succ (by omega)]
  rw [hp, List.getD_eq_getElem?_getD, hj]
  rfl
theorem rot_new {r : List Int} {k : Nat} (nd : r.Nodup) (hk : k < r.length) : r.getD (pre r.length k) 0 ∉ rot r k := by
  intro z
  obtain ⟨i, hi, e⟩ := List.mem_map.mp z
  have hi' := List.mem_range.mp hi
  obtain ⟨l1, e1⟩ := List.getElem?_eq_some_iff.mp (getD_pre hk)
  obtain ⟨l2, e2⟩ := List.getElem?_eq_some_iff.mp (getD_pre (r := r) (k := i) (by omega))
  have := (List.getElem_inj nd (h₀ := l2) (h₁ := l1)).mp (e2.trans (e.trans e1.symm))
  have := pre_inj (by omega) hk this
  omega
def rots (rs : Rs) (i : Nat) : List Int := ((rs.take i).map fun r => rot r r.length).flatten
theorem rots_succ {rs : Rs} {i : Nat} {r : List Int} (h : rs[i]? = some r) : rots rs (i + 1) = rots rs i ++ rot r r.length := by
  unfold rots
  rw [List.take_add_one, h, List.map_append, List.flatten_append]
  simp
theorem rots_mem {rs : Rs} {i : Nat} : ∀ z ∈ rots rs i, z ∈ (rs.take i).flatten := by
  intro z hz
  obtain ⟨l, hl, hz⟩ := List.mem_flatten.mp hz
  obtain ⟨r, hr, rfl⟩ := List.mem_map.mp hl
  exact List.mem_flatten.mpr ⟨r, hr, rot_mem (Nat.le_refl _) z hz⟩
theorem rots_all {rs : Rs} : ∀ z ∈ rs.flatten, z ∈ rots rs rs.length := by
  intro z hz
  obtain ⟨r, hr, hz⟩ := List.mem_flatten.mp hz
  unfold rots
  rw [List.take_length]
  exact List.mem_flatten.mpr ⟨_, List.mem_map.mpr ⟨r, hr, rfl⟩, rot_all z hz⟩
theorem rots_length (rs : Rs) : (rots rs rs.length).length = rs.flatten.length := by
  unfold rots
  rw [List.take_length]
  induction rs with
  | nil => rfl
  | cons r rs ih =>
    rw [List.map_cons, List.flatten_cons, List.flatten_cons, List.length_append, List.length_append, rot_length, ih]
/-- an end of a later row is not among the ends of the rows before it -/
theorem later_new {rs : Rs} {i j : Nat} {r : List Int} {e : Int} (nd : rs.flatten.Nodup) (h : rs[i]? = some r) (hj : r[j]? = some e) : e ∉ (rs.take i).flatten := by
  intro z
  obtain ⟨hi, hr⟩ := List.getElem?_eq_some_iff.mp h
  have e1 : rs.flatten = (rs.take i).flatten ++ (rs.drop i).flatten := by rw [← List.flatten_append, List.take_append_drop]
  rw [e1] at nd
  have hd : e ∈ (rs.drop i).flatten := by
    rw [List.drop_eq_getElem_cons hi, hr, List.flatten_cons]
    exact List.mem_append_left _ (List.mem_of_getElem? hj)
  exact (List.nodup_append.mp nd).2.2 e z e hd rfl
end Ink

namespace Ink
/-! ### cycles as lists -/
/-- r goes round by f -/
structure Cyc (f : Int → Int) (r : List Int) : Prop where
  ne : r ≠ []
  nd : r.Nodup
  go : ∀ (i : Nat) (x : Int), r[i]? = some x → r[(i + 1) % r.length]? = some (f x)
theorem Cyc.pos {f : Int → Int} {r : List Int} (c : Cyc f r) : 0 < r.length := List.length_pos_iff.mpr c.ne
theorem Cyc.itr {f : Int → Int} {r : List Int} (c : Cyc f r) {x : Int} {i : Nat} (h : r[i]? = some x) : ∀ k, r[(i + k) % r.length]? = some (itr f k x)
  | 0 => by
    have := (List.getElem?_eq_some_iff.mp h).1
    rw [Nat.add_zero, Nat.mod_eq_of_lt this]; exact h
  | k + 1 => by
    have ih := c.go _ _ (Cyc.itr c h k)
    rw [Nat.mod_add_mod] at ih
    exact ih
/-- a cycle is the face of its first -/
theorem Cyc.face {f : Int → Int} {x : Int} {t : List Int} (c : Cyc f (x :: t)) : IsFace f x (x :: t) := by
  have h0 : (x :: t)[0]? = some x := rfl
  have hk := c.itr h0
  refine ⟨t.length, ?_, ?_, fun i h1 h2 e => ?_⟩
  · refine List.ext_getElem? fun i => ?_
    unfold orb
    by_cases hi : i < t.length + 1
    · have := hk i
      rw [Nat.zero_add, Nat.mod_eq_of_lt (by rw [List.length_cons]; exact hi)] at this
      rw [this, List.getElem?_map, List.getElem?_range hi]
      rfl
    · rw [List.getElem?_eq_none (by rw [List.length_cons]; omega), List.getElem?_eq_none (by rw [List.length_map, List.length_range]; omega)]
  · have := hk (t.length + 1)
    rw [Nat.zero_add, List.length_cons, Nat.mod_self] at this
    exact (Option.some.inj this).symm
  · have := hk i
    rw [Nat.zero_add, Nat.mod_eq_of_lt (by rw [List.length_cons]; omega), e] at this
    obtain ⟨l1, e1⟩ := List.getElem?_eq_some_iff.mp this
    have := (List.getElem_inj c.nd (h₀ := l1) (h₁ := by simp)).mp (e1.trans (show x = (x :: t)[0] from rfl))
    omega
theorem IsFace.cyc {f : Int → Int} {n : Nat} (hm : ∀ x : Int, 0 ≤ x ∧ x < n → 0 ≤ f x ∧ f x < n) (hi : ∀ x y : Int, 0 ≤ x ∧ x < n → 0 ≤ y ∧ y < n → f x = f y → x = y) {x : Int} (hx : 0 ≤ x ∧ x < (n : Int)) {row : List Int} (h : IsFace f x row) : Cyc f row := by
  obtain ⟨j, rfl, e, l⟩ := h.ex
  refine ⟨?_, ?_, ?_⟩
  · intro z
    have := congrArg List.length z
    rw [orb_length] at this
    cases this
  · unfold orb
    rw [List.nodup_iff_pairwise_ne, List.pairwise_map]
    refine List.Pairwise.imp_of_mem ?_ List.pairwise_lt_range
    intro a b ha hb hab q
    have hb' := List.mem_range.mp hb
    refine l (b - a) (by omega) (by omega) (itr_back hm hi hx a (b - a) ?_)
    rw [show a + (b - a) = b by omega]
    exact q.symm
  · intro i y hy
    have hil : i < j + 1 := by
      have := (List.getElem?_eq_some_iff.mp hy).1
      rw [orb_length] at this
      exact this
    have hy' : y = itr f i x := by
      unfold orb at hy
      rw [List.getElem?_map, List.getElem?_range hil] at hy
      exact (Option.some.inj hy).symm
    rw [orb_length]
    unfold orb
    rw [List.getElem?_map]
    by_cases h1 : i = j
    · rw [h1, Nat.mod_self, List.getElem?_range (by omega)]
      show some x = some (f y)
      rw [hy', h1]
      exact congrArg some e.symm
    · rw [Nat.mod_eq_of_lt (by omega), List.getElem?_range (by omega), hy']
      rfl
theorem orb_first (f : Int → Int) (x : Int) (j : Nat) : (orb f x j)[0]? = some x := by
  unfold orb
  rw [List.getElem?_map, List.getElem?_range (by omega)]
  rfl
theorem getElem?_rot (a b : List Int) (i : Nat) (h : i < (a ++ b).length) : (b ++ a)[i]? = (a ++ b)[(i + a.length) % (a ++ b).length]? := by
  rw [List.length_append] at h ⊢
  by_cases hi : i < b.length
  · rw [List.getElem?_append_left hi, Nat.mod_eq_of_lt (by omega), List.getElem?_append_right (by omega), show i + a.length - a.length = i by omega]
  · rw [List.getElem?_append_right (by omega), show i + a.length = (i - b.length) + (a.length + b.length) by omega, Nat.add_mod_right, Nat.mod_eq_of_lt (by omega), List.getElem?_append_left (by omega)]
/-- a cycle from elsewhere on -/
theorem Cyc.rot {f : Int → Int} {a b : List Int} (c : Cyc f (a ++ b)) : Cyc f (b ++ a) := by
  have hp := c.pos
  have hl : (b ++ a).length = (a ++ b).length := by rw [List.length_append, List.length_append]; omega
  refine ⟨fun z => ?_, (List.perm_append_comm.nodup_iff).mp c.nd, fun i x hx => ?_⟩
  · rw [z] at hl
    rw [← hl] at hp
    exact absurd hp (by simp)
  · have hi : i < (a ++ b).length := by rw [← hl]; exact (List.getElem?_eq_some_iff.mp hx).1
    rw [getElem?_rot a b i hi] at hx
    have h2 := c.go _ _ hx
    rw [hl, getElem?_rot a b _ (Nat.mod_lt _ hp), Nat.mod_add_mod, ← h2, Nat.mod_add_mod]
    congr 2
    omega
/-! ### all cycles -/
structure Cycs (f : Int → Int) (n : Nat) (L : Rs) : Prop where
  cyc : ∀ r ∈ L, Cyc f r
  nd : L.flatten.Nodup
  mem : ∀ z : Int, z ∈ L.flatten ↔ 0 ≤ z ∧ z < n
/-- the least of a row, and the row from it on -/
def least : List Int → Int
  | [] => 0
  | [x] => x
  | x :: y :: t => min x (least (y :: t))
theorem least_le : ∀ {r : List Int} {z : Int}, z ∈ r → least r ≤ z
  | [x], z, h => by simp at h; subst h; exact Int.le_refl _
  | x :: y :: t, z, h => by
    have e : least (x :: y :: t) = min x (least (y :: t)) := rfl
    rw [e]
    rcases List.mem_cons.mp h with rfl | h
    · omega
    · have := least_le h
      omega
theorem least_mem : ∀ {r : List Int}, r ≠ [] → least r ∈ r
  | [], h => absurd rfl h
  | [x], _ => by simp [least]
  | x :: y :: t, _ => by
    have e : least (x :: y :: t) = min x (least (y :: t)) := rfl
    have ih := least_mem (r := y :: t) (by simp)
    rw [e]
    by_cases h : x ≤ least (y :: t)
    · rw [Int.min_eq_left h]; exact List.mem_cons_self
    · rw [Int.min_eq_right (by omega)]; exact List.mem_cons_of_mem _ ih
def fromLeast (r : List Int) : List Int := r.drop (r.idxOf (least r)) ++ r.take (r.idxOf (least r))
theorem fromLeast_cons {r : List Int} (h : r ≠ []) : ∃ t, fromLeast r = least r :: t := by
  have hm := least_mem h
  have hl : r.idxOf (least r) < r.length := List.idxOf_lt_length_iff.mpr hm
  unfold fromLeast
  rw [List.drop_eq_getElem_cons hl, List.getElem_idxOf hl]
  exact ⟨_, rfl⟩
theorem fromLeast_perm (r : List Int) : (fromLeast r).Perm r := by
  unfold fromLeast
  refine List.perm_append_comm.trans ?_
  rw [List.take_append_drop]
theorem Cyc.fromLeast {f : Int → Int} {r : List Int} (c : Cyc f r) : Cyc f (fromLeast r) := by
  refine Cyc.rot ?_
  rw [List.take_append_drop]
  exact c
def hd (r : List Int) : Int := r.headD 0
theorem perm_flatten_map {g : List Int → List Int} (hg : ∀ r, (g r).Perm r) : ∀ L : Rs, (L.map g).flatten.Perm L.flatten
  | [] => .nil
  | r :: L => by
    rw [List.map_cons, List.flatten_cons, List.flatten_cons]
    exact (hg r).append (perm_flatten_map hg L)
theorem perm_flatten {L L' : Rs} (h : L.Perm L') : L.flatten.Perm L'.flatten := by
  induction h with
  | nil => exact .nil
  | cons x _ ih => rw [List.flatten_cons, List.flatten_cons]; exact ih.append_left _
  | swap x y l =>
    rw [List.flatten_cons, List.flatten_cons, List.flatten_cons, List.flatten_cons, ← List.append_assoc, ← List.append_assoc]
    exact List.perm_append_comm.append_right _
  | trans _ _ i1 i2 => exact i1.trans i2
theorem Cycs.perm {f : Int → Int} {n : Nat} {L L' : Rs} (c : Cycs f n L) (h : L.Perm L') : Cycs f n L' :=
  ⟨fun r hr => c.cyc r (h.mem_iff.mpr hr), (perm_flatten h).nodup_iff.mp c.nd, fun z => by rw [← (perm_flatten h).mem_iff]; exact c.mem z⟩
theorem Cycs.least {f : Int → Int} {n : Nat} {L : Rs} (c : Cycs f n L) : Cycs f n (L.map Ink.fromLeast) := by
  have p := perm_flatten_map (g := Ink.fromLeast) fromLeast_perm L
  refine ⟨fun r hr => ?_, p.nodup_iff.mpr c.nd, fun z => by rw [p.mem_iff]; exact c.mem z⟩
  obtain ⟨t, ht, rfl⟩ := List.mem_map.mp hr
  exact (c.cyc t ht).fromLeast
/-- rows by their heads: rising -/
structure Rising (f : Int → Int) (n : Nat) (L : Rs) : Prop where
  cs : Cycs f n L
  hds : L.Pairwise fun a b => hd a < hd b
  lst : ∀ r ∈ L, ∀ z ∈ r, hd r ≤ z
theorem hd_mem {r : List Int} (h : r ≠ []) : hd r ∈ r := by
  cases r with
  | nil => exact absurd rfl h
  | cons x t => exact List.mem_cons_self
theorem row_inj {L : Rs} (nd : L.flatten.Nodup) {a b : List Int} (ha : a ∈ L) (hb : b ∈ L) {z : Int} (h1 : z ∈ a) (h2 : z ∈ b) : a = b := by
  induction L with
  | nil => cases ha
  | cons r L ih =>
    rw [List.flatten_cons] at nd
    obtain ⟨n1, n2, n3⟩ := List.nodup_append.mp nd
    rcases List.mem_cons.mp ha with ea | ha'
    · rcases List.mem_cons.mp hb with eb | hb'
      · rw [ea, eb]
      · rw [ea] at h1
        exact absurd rfl (n3 z h1 z (List.mem_flatten.mpr ⟨b, hb', h2⟩))
    · rcases List.mem_cons.mp hb with eb | hb'
      · rw [eb] at h2
        exact absurd rfl (n3 z h2 z (List.mem_flatten.mpr ⟨a, ha', h1⟩))
      · exact ih n2 ha' hb'
/-- rising rows are the faces as they are found -/
theorem Rising.fcs {f : Int → Int} {n : Nat} {L : Rs} (c : Rising f n L) : ∀ i, i ≤ n → Fcs f i (L.filter fun r => decide (hd r < i))
  | 0, _ => by
    have e : (L.filter fun r => decide (hd r < (0 : Nat))) = [] := by
      rw [List.filter_eq_nil_iff]
      intro r hr z
      have h1 := of_decide_eq_true z
      have h2 := (c.cs.mem (hd r)).mp (List.mem_flatten.mpr ⟨r, hr, hd_mem (c.cs.cyc r hr).ne⟩)
      omega
    rw [e]
    exact .zero
  | i + 1, hi => by
    have ih := Rising.fcs c i (by omega)
    obtain ⟨r, hr, hir⟩ := List.mem_flatten.mp ((c.cs.mem (i : Int)).mpr ⟨by omega, by omega⟩)
    by_cases hh : hd r = i
    · -- a new face
      obtain ⟨A, B, rfl⟩ := List.append_of_mem hr
      obtain ⟨p1, p2, p3⟩ := List.pairwise_append.mp c.hds
      obtain ⟨p4, p5⟩ := List.pairwise_cons.mp p2
      have fA : ∀ k : Nat, i ≤ k → (A.filter fun r => decide (hd r < (k : Int))) = A := fun k hk => List.filter_eq_self.mpr fun a ha => decide_eq_true (by have := p3 a ha r List.mem_cons_self; omega)
      have fB : ∀ k : Nat, k ≤ i + 1 → (B.filter fun r => decide (hd r < (k : Int))) = [] := fun k hk => by
        rw [List.filter_eq_nil_iff]
        intro b hb z
        have h1 := of_decide_eq_true z
        have h2 := p4 b hb
        omega
      have e1 : ((A ++ r :: B).filter fun r => decide (hd r < ((i : Nat) : Int))) = A := by
        rw [List.filter_append, List.filter_cons, fA i (Nat.le_refl _), fB i (by omega), if_neg (by simp [hh]), List.append_nil]
      have e2 : ((A ++ r :: B).filter fun r => decide (hd r < ((i + 1 : Nat) : Int))) = A ++ [r] := by
        rw [List.filter_append, List.filter_cons, fA (i + 1) (by omega), fB (i + 1) (Nat.le_refl _), if_pos (by rw [hh]; exact decide_eq_true (by omega))]
      rw [e1] at ih
      rw [e2]
      have cr := c.cs.cyc r hr
      refine .add ih (fun z => ?_) ?_
      · obtain ⟨a, ha, hz⟩ := List.mem_flatten.mp z
        have := row_inj c.cs.nd (List.mem_append_left _ ha) hr hz hir
        have h3 := p3 a ha r List.mem_cons_self
        rw [this] at h3
        omega
      · cases r with
        | nil => exact absurd rfl cr.ne
        | cons x t =>
          have : x = (i : Int) := hh
          subst this
          exact cr.face
    · have hlt : hd r < i := by
        have := c.lst r hr _ hir
        omega
      have e : (L.filter fun r => decide (hd r < ((i + 1 : Nat) : Int))) = L.filter fun r => decide (hd r < ((i : Nat) : Int)) := by
        refine List.filter_congr fun a ha => ?_
        have hne : hd a ≠ i := fun z => by
          have ha' := hd_mem (c.cs.cyc a ha).ne
          rw [z] at ha'
          have := row_inj c.cs.nd ha hr ha' hir
          rw [this] at z
          exact hh z
        rw [Bool.eq_iff_iff, decide_eq_true_iff, decide_eq_true_iff]
        omega
      rw [e]
      exact .skip ih (List.mem_flatten.mpr ⟨r, List.mem_filter.mpr ⟨hr, decide_eq_true hlt⟩, hir⟩)
theorem Rising.all {f : Int → Int} {n : Nat} {L : Rs} (c : Rising f n L) : Fcs f n L := by
  have h := c.fcs n (Nat.le_refl _)
  have e : (L.filter fun r => decide (hd r < (n : Int))) = L := List.filter_eq_self.mpr fun a ha => decide_eq_true ((c.cs.mem _).mp (List.mem_flatten.mpr ⟨a, ha, hd_mem (c.cs.cyc a ha).ne⟩)).2
  rw [e] at h
  exact h
/-- rows by their heads, in any order: sorted they rise -/
theorem Cycs.sorted {f : Int → Int} {n : Nat} {L M : Rs} (c : Cycs f n L) (h : M.Perm (L.map Ink.fromLeast)) (hs : M.Pairwise fun a b => hd a ≤ hd b) : Rising f n M := by
  have cM : Cycs f n M := c.least.perm h.symm
  have hl : ∀ r ∈ M, ∀ z ∈ r, hd r ≤ z := by
    intro r hr z hz
    obtain ⟨t, ht, rfl⟩ := List.mem_map.mp (h.mem_iff.mp hr)
    obtain ⟨u, hu⟩ := fromLeast_cons (c.cyc t ht).ne
    have : hd (Ink.fromLeast t) = Ink.least t := by rw [hu]; rfl
    rw [this]
    exact least_le ((fromLeast_perm t).mem_iff.mp hz)
  refine ⟨cM, ?_, hl⟩
  have nd := cM.nd
  have hne := fun r hr => (cM.cyc r hr).ne
  clear hl h cM
  induction M with
  | nil => exact .nil
  | cons r M ih =>
    obtain ⟨h1, h2⟩ := List.pairwise_cons.mp hs
    rw [List.flatten_cons] at nd
    obtain ⟨n1, n2, n3⟩ := List.nodup_append.mp nd
    refine List.pairwise_cons.mpr ⟨fun b hb => ?_, ih h2 n2 fun r hr => hne r (List.mem_cons_of_mem _ hr)⟩
    have h3 := h1 b hb
    have h4 := n3 _ (hd_mem (hne r List.mem_cons_self)) _ (List.mem_flatten.mpr ⟨b, hb, hd_mem (hne b (List.mem_cons_of_mem _ hb))⟩)
    omega
theorem Cycs.fcs {f : Int → Int} {n : Nat} {L : Rs} (c : Cycs f n L) : ∃ fs, Fcs f n fs ∧ fs.length = L.length := by
  refine ⟨(L.map Ink.fromLeast).mergeSort (fun a b => decide (hd a ≤ hd b)), (c.sorted (List.mergeSort_perm _ _) ?_).all, by rw [(List.mergeSort_perm _ _).length_eq, List.length_map]⟩
  have := List.pairwise_mergeSort (le := fun (a b : List Int) => decide (hd a ≤ hd b)) (fun a b c h1 h2 => by simp at h1 h2 ⊢; omega) (fun a b => by simp; omega) (L.map Ink.fromLeast)
  exact this.imp fun h => of_decide_eq_true h
/-- the faces are all cycles -/
theorem Fcs.cycs {f : Int → Int} {n : Nat} (hm : ∀ x : Int, 0 ≤ x ∧ x < n → 0 ≤ f x ∧ f x < n) (hi : ∀ x y : Int, 0 ≤ x ∧ x < n → 0 ≤ y ∧ y < n → f x = f y → x = y) {i : Nat} {fs : Rs} (h : Fcs f i fs) (hin : i ≤ n) :
    (∀ r ∈ fs, Cyc f r) ∧ fs.flatten.Nodup ∧ (∀ z ∈ fs.flatten, 0 ≤ z ∧ z < (n : Int)) ∧ ∀ k : Nat, k < i → (k : Int) ∈ fs.flatten := by
  induction h with
  | zero => exact ⟨(fun r hr => by cases hr), List.nodup_nil, (fun z hz => by cases hz), fun k hk => absurd hk (by omega)⟩
  | skip _ hmem ih =>
    rename_i i0 fs0 _
    obtain ⟨a, b, c, d⟩ := ih (by omega)
    refine ⟨a, b, c, fun k hk => ?_⟩
    rcases Nat.lt_or_ge k i0 with z | z
    · exact d k z
    · rw [show k = i0 by omega]; exact hmem
  | add _ hn hf ih =>
    rename_i i0 fs0 row _
    obtain ⟨a, b, c, d⟩ := ih (by omega)
    have hx : 0 ≤ (i0 : Int) ∧ (i0 : Int) < n := by omega
    have cr := hf.cyc hm hi hx
    have e1 : ([row] : Rs).flatten = row := by simp
    refine ⟨fun r hr => ?_, ?_, fun z hz => ?_, fun k hk => ?_⟩
    · rcases List.mem_append.mp hr with z | z
      · exact a r z
      · have : r = row := by simpa using z
        subst this; exact cr
    · rw [List.flatten_append, e1]
      refine List.nodup_append.mpr ⟨b, cr.nd, fun y hy z hz q => ?_⟩
      subst q
      -- y in an earlier cycle and in this one: then its first is in the earlier one
      obtain ⟨r, hr, hyr⟩ := List.mem_flatten.mp hy
      obtain ⟨p, hp⟩ := List.mem_iff_getElem?.mp hz
      obtain ⟨q, hq⟩ := List.mem_iff_getElem?.mp hyr
      have hpl : p < row.length := (List.getElem?_eq_some_iff.mp hp).1
      have h1 := cr.itr hp (row.length - p)
      rw [show p + (row.length - p) = row.length by omega, Nat.mod_self] at h1
      have h2 := (a r hr).itr hq (row.length - p)
      obtain ⟨j, hj, _⟩ := hf.ex
      have h3 : row[0]? = some (i0 : Int) := by rw [hj]; exact orb_first _ _ _
      rw [h3] at h1
      rw [← h1] at h2
      exact hn (List.mem_flatten.mpr ⟨r, hr, List.mem_of_getElem? h2⟩)
    · rw [List.flatten_append, e1] at hz
      rcases List.mem_append.mp hz with z' | z'
      · exact c z z'
      · exact hf.mem hm hx z z'
    · rw [List.flatten_append, e1]
      rcases Nat.lt_or_ge k i0 with z | z
      · exact List.mem_append_left _ (d k z)
      · rw [show k = i0 by omega]
        refine List.mem_append_right _ ?_
        obtain ⟨j, hj, _⟩ := hf.ex
        rw [hj]
        exact List.mem_of_getElem? (i := 0) (orb_first _ _ _)
theorem Fcs.all {f : Int → Int} {n : Nat} (hm : ∀ x : Int, 0 ≤ x ∧ x < n → 0 ≤ f x ∧ f x < n) (hi : ∀ x y : Int, 0 ≤ x ∧ x < n → 0 ≤ y ∧ y < n → f x = f y → x = y) {fs : Rs} (h : Fcs f n fs) : Cycs f n fs := by
  obtain ⟨a, b, c, d⟩ := h.cycs hm hi (Nat.le_refl _)
  refine ⟨a, b, fun z => ⟨c z, fun hz => ?_⟩⟩
  have := d z.toNat (by omega)
  rw [show ((z.toNat : Nat) : Int) = z by omega] at this
  exact this
/-- how many cycles there are does not lean on how they are told -/
theorem Cycs.count {f : Int → Int} {n : Nat} {L M : Rs} (c : Cycs f n L) (d : Cycs f n M) : L.length = M.length := by
  obtain ⟨fs, h1, h2⟩ := c.fcs
  obtain ⟨gs, h3, h4⟩ := d.fcs
  rw [← h2, ← h4, h1.uniq h3]
end Ink

namespace Ink
/-! ### the rounds as cycles; inside out; mirrored -/
theorem Cyc.congr {f g : Int → Int} {r : List Int} (c : Cyc f r) (h : ∀ x ∈ r, f x = g x) : Cyc g r :=
  ⟨c.ne, c.nd, fun i x hx => by rw [← h x (List.mem_of_getElem? hx)]; exact c.go i x hx⟩
theorem Cycs.congr {f g : Int → Int} {n : Nat} {L : Rs} (c : Cycs f n L) (h : ∀ x : Int, 0 ≤ x ∧ x < n → f x = g x) : Cycs g n L :=
  ⟨fun r hr => (c.cyc r hr).congr fun x hx => h x ((c.mem x).mp (List.mem_flatten.mpr ⟨r, hr, hx⟩)), c.nd, c.mem⟩
theorem flat_noempty : ∀ rs : Rs, (rs.filter fun r => decide (r ≠ [])).flatten = rs.flatten
  | [] => rfl
  | r :: rs => by
    rw [List.filter_cons]
    split
    · rw [List.flatten_cons, List.flatten_cons, flat_noempty rs]
    · rename_i h
      have : r = [] := by
        cases r with
        | nil => rfl
        | cons x t => exact absurd (decide_eq_true (by simp)) h
      subst this
      rw [List.flatten_cons, flat_noempty rs]
      rfl
theorem getElem?_getD {r : List Int} {k : Nat} {d : Int} (h : k < r.length) : r[k]? = some (r.getD k d) := by
  rw [List.getD_eq_getElem?_getD, List.getElem?_eq_getElem h]
  rfl
/-- the rounds with ends are the cycles of the next end -/
theorem Dr.cycs {rs : Rs} {n : Nat} (d : Dr rs n) : Cycs (nextIn rs) n (rs.filter fun r => decide (r ≠ [])) := by
  refine ⟨fun r hr => ?_, by rw [flat_noempty]; exact d.nd, fun z => by rw [flat_noempty]; exact d.mem z⟩
  obtain ⟨hm, hne⟩ := List.mem_filter.mp hr
  have hne' := of_decide_eq_true hne
  obtain ⟨k, hk⟩ := List.mem_iff_getElem?.mp hm
  have ndr : r.Nodup := by
    obtain ⟨a, b, e⟩ := List.append_of_mem hm
    have nd := d.nd
    rw [e, List.flatten_append, List.flatten_cons] at nd
    exact (List.nodup_append.mp (List.nodup_append.mp nd).2.1).1
  refine ⟨hne', ndr, fun i x hx => ?_⟩
  have hl : 0 < r.length := List.length_pos_iff.mpr hne'
  rw [nextIn_at d.nd hk hx]
  exact getElem?_getD (Nat.mod_lt _ hl)
theorem sub_len : ∀ {a b : List Int}, a.Nodup → a ⊆ b → a.length ≤ b.length
  | [], _, _, _ => Nat.zero_le _
  | x :: a, b, nd, h => by
    obtain ⟨n1, n2⟩ := List.nodup_cons.mp nd
    have hx : x ∈ b := h List.mem_cons_self
    have := sub_len (a := a) (b := b.erase x) n2 fun z hz => (List.mem_erase_of_ne (by rintro rfl; exact n1 hz)).mpr (h (List.mem_cons_of_mem _ hz))
    rw [List.length_erase_of_mem hx] at this
    have := List.length_pos_of_mem hx
    rw [List.length_cons]
    omega
theorem Cycs.len {f : Int → Int} {n : Nat} {L : Rs} (c : Cycs f n L) : L.flatten.length = n := by
  have h1 := nodup_le n _ c.nd fun z hz => (c.mem z).mp hz
  have h2 : n ≤ L.flatten.length := by
    have nd : ((List.range n).map fun (k : Nat) => (k : Int)).Nodup := by
      rw [List.nodup_iff_pairwise_ne, List.pairwise_map]
      exact List.Pairwise.imp (fun h => by omega) (List.pairwise_lt_range (n := n))
    have hs : ((List.range n).map fun (k : Nat) => (k : Int)) ⊆ L.flatten := fun z hz => by
      obtain ⟨k, hk, rfl⟩ := List.mem_map.mp hz
      have := List.mem_range.mp hk
      exact (c.mem _).mpr ⟨by omega, by omega⟩
    have := sub_len nd hs
    rw [List.length_map, List.length_range] at this
    exact this
  omega
theorem Cycs.next {f : Int → Int} {n : Nat} {L : Rs} (c : Cycs f n L) {e : Int} (he : 0 ≤ e ∧ e < (n : Int)) : nextIn L e = f e := by
  obtain ⟨r, hr, hz⟩ := List.mem_flatten.mp ((c.mem e).mpr he)
  obtain ⟨i, hi⟩ := List.mem_iff_getElem?.mp hr
  obtain ⟨j, hj⟩ := List.mem_iff_getElem?.mp hz
  rw [nextIn_at c.nd hi hj]
  have := (c.cyc r hr).go j e hj
  rw [List.getD_eq_getElem?_getD, this]
  rfl
theorem Cycs.dr {f : Int → Int} {n : Nat} {L : Rs} (c : Cycs f n L) (h : n % 2 = 0) : Dr L n := ⟨c.nd, c.mem, c.len, h⟩
theorem Dr.faces {rs fs : Rs} {n : Nat} (d : Dr rs n) (h : Fcs (stp rs) n fs) : Cycs (stp rs) n fs := h.all (fun x h => d.stp_mem h.1 h.2) (fun x y hx hy h => d.stp_inj hx hy h)
theorem Dr.inside {rs fs : Rs} {n : Nat} (d : Dr rs n) (h : Fcs (stp rs) n fs) : Dr fs n ∧ ∀ e : Int, 0 ≤ e ∧ e < n → stp fs e = nextIn rs e := by
  have c := d.faces h
  refine ⟨c.dr d.even, fun e he => ?_⟩
  show nextIn fs (acr e) = nextIn rs e
  rw [c.next (acr_lt d.even he.1 he.2)]
  show nextIn rs (acr (acr e)) = nextIn rs e
  rw [acr_acr]
/-- turned inside out twice -/
theorem Dr.back {rs fs bs M : Rs} {n : Nat} (d : Dr rs n) (h : Fcs (stp rs) n fs) (hb : Fcs (stp fs) n bs) (hp : M.Perm ((rs.filter fun r => decide (r ≠ [])).map Ink.fromLeast)) (hs : M.Pairwise fun a b => hd a ≤ hd b) : bs = M := by
  obtain ⟨d2, e⟩ := d.inside h
  have c : Cycs (stp fs) n (rs.filter fun r => decide (r ≠ [])) := d.cycs.congr fun x hx => (e x hx).symm
  exact hb.uniq (c.sorted hp hs).all
/-! mirrored -/
theorem Cyc.map {f g s : Int → Int} {r : List Int} (c : Cyc f r) (hs : ∀ x y, s x = s y → x = y) (h : ∀ x ∈ r, g (s x) = s (f x)) : Cyc g (r.map s) := by
  refine ⟨fun z => c.ne (List.map_eq_nil_iff.mp z), ?_, fun i y hy => ?_⟩
  · rw [List.nodup_iff_pairwise_ne, List.pairwise_map]
    exact (List.nodup_iff_pairwise_ne.mp c.nd).imp fun hne q => hne (hs _ _ q)
  · rw [List.getElem?_map] at hy
    cases q : r[i]? with
    | none => rw [q] at hy; cases hy
    | some x =>
      rw [q] at hy
      have e : s x = y := Option.some.inj hy
      rw [List.length_map, List.getElem?_map, c.go i x q, ← e, h x (List.mem_of_getElem? q)]
      rfl
theorem acr_inj (x y : Int) (h : acr x = acr y) : x = y := by rw [← acr_acr x, ← acr_acr y, h]
end Ink

namespace Ink
/-! ### a walk told as a list: each end leads to the one behind it, the last to y -/
def Pth (f : Int → Int) : List Int → Int → Prop
  | [], _ => True
  | x :: t, y => f x = t.headD y ∧ Pth f t y
theorem Pth.append {f : Int → Int} {v : List Int} {y : Int} : ∀ {u : List Int}, Pth f (u ++ v) y ↔ Pth f u (v.headD y) ∧ Pth f v y
  | [] => by simp [Pth]
  | [x] => by
    show (f x = v.headD y ∧ Pth f v y) ↔ (f x = v.headD y ∧ True) ∧ Pth f v y
    simp
  | x :: z :: t => by
    have ih := Pth.append (f := f) (v := v) (y := y) (u := z :: t)
    show (f x = z ∧ Pth f (z :: t ++ v) y) ↔ (f x = z ∧ Pth f (z :: t) (v.headD y)) ∧ Pth f v y
    rw [ih, and_assoc]
theorem Pth.congr {f g : Int → Int} : ∀ {r : List Int} {y : Int}, Pth f r y → (∀ x ∈ r, f x = g x) → Pth g r y
  | [], _, _, _ => trivial
  | x :: t, y, h, e => ⟨(e x List.mem_cons_self).symm.trans h.1, Pth.congr h.2 fun z hz => e z (List.mem_cons_of_mem _ hz)⟩
theorem headD_eq : ∀ (t : List Int) (y : Int), t.headD y = (t[0]?).getD y
  | [], _ => rfl
  | _ :: _, _ => rfl
theorem Pth.ix {f : Int → Int} : ∀ {r : List Int} {y : Int}, Pth f r y ↔ ∀ (i : Nat) (x : Int), r[i]? = some x → f x = (r[i + 1]?).getD y
  | [], y => by simp [Pth]
  | a :: t, y => by
    have ih := Pth.ix (f := f) (r := t) (y := y)
    constructor
    · rintro ⟨h1, h2⟩ i x hx
      cases i with
      | zero =>
        have : a = x := by simpa using hx
        subst this
        rw [h1, headD_eq]
        simp
      | succ i => simpa using ih.mp h2 i x (by simpa using hx)
    · intro h
      refine ⟨?_, ih.mpr fun i x hx => by simpa using h (i + 1) x (by simpa using hx)⟩
      have := h 0 a rfl
      rw [this, headD_eq]
      simp
theorem Cyc.pth {f : Int → Int} {r : List Int} (c : Cyc f r) : Pth f r (hd r) := by
  refine Pth.ix.mpr fun i x hx => ?_
  have hi := (List.getElem?_eq_some_iff.mp hx).1
  have hg := c.go i x hx
  by_cases q : i + 1 = r.length
  · rw [q, Nat.mod_self] at hg
    rw [q, List.getElem?_eq_none (Nat.le_refl _)]
    show f x = hd r
    cases r with
    | nil => simp at hi
    | cons a t => exact (Option.some.inj hg).symm
  · rw [Nat.mod_eq_of_lt (by omega)] at hg
    rw [hg]
    rfl
theorem Cyc.of {f : Int → Int} {r : List Int} (hne : r ≠ []) (nd : r.Nodup) (p : Pth f r (hd r)) : Cyc f r := by
  refine ⟨hne, nd, fun i x hx => ?_⟩
  have hi := (List.getElem?_eq_some_iff.mp hx).1
  have hp := Pth.ix.mp p i x hx
  by_cases q : i + 1 = r.length
  · rw [q, Nat.mod_self]
    rw [q, List.getElem?_eq_none (Nat.le_refl _)] at hp
    cases r with
    | nil => simp at hi
    | cons a t => exact congrArg some hp.symm
  · rw [Nat.mod_eq_of_lt (by omega)]
    have hl : i + 1 < r.length := by omega
    rw [List.getElem?_eq_getElem hl] at hp ⊢
    exact congrArg some hp.symm
/-! ### an end put behind another: the next ends -/
def swap1 (g : Int → Int) (h e : Int) (x : Int) : Int := if x = h then e else if x = e then g h else g x
theorem swap1_h (g : Int → Int) (h e : Int) : swap1 g h e h = e := if_pos rfl
theorem swap1_e {g : Int → Int} {h e : Int} (hne : e ≠ h) : swap1 g h e e = g h := by unfold swap1; rw [if_neg hne, if_pos rfl]
theorem swap1_no {g : Int → Int} {h e x : Int} (h1 : x ≠ h) (h2 : x ≠ e) : swap1 g h e x = g x := by unfold swap1; rw [if_neg h1, if_neg h2]
theorem swap1_out {g : Int → Int} {h e x : Int} {u : List Int} (h1 : h ∉ u) (h2 : e ∉ u) (hx : x ∈ u) : g x = swap1 g h e x := (swap1_no (g := g) (x := x) (h := h) (e := e) (fun z => h1 (z ▸ hx)) (fun z => h2 (z ▸ hx))).symm
abbrev ne (rs : Rs) : Rs := rs.filter fun r => decide (r ≠ [])
theorem split_at {r : List Int} {h : Int} (hm : h ∈ r) : ∃ u v, r = u ++ h :: v ∧ insAt r h = fun e => u ++ h :: e :: v := by
  have hl : r.idxOf h < r.length := List.idxOf_lt_length_iff.mpr hm
  refine ⟨r.take (r.idxOf h), r.drop (r.idxOf h + 1), ?_, ?_⟩
  · have := List.drop_eq_getElem_cons hl
    rw [List.getElem_idxOf hl] at this
    rw [← this, List.take_append_drop]
  · funext e
    unfold insAt
    have : r.take (r.idxOf h + 1) = r.take (r.idxOf h) ++ [h] := by rw [List.take_add_one, List.getElem?_eq_getElem hl, List.getElem_idxOf hl]; rfl
    rw [this, List.append_assoc]
    rfl
theorem Cyc.ins {g : Int → Int} {r : List Int} {h e : Int} (c : Cyc g r) (hm : h ∈ r) (he : e ∉ r) : Cyc (swap1 g h e) (insAt r h e) := by
  obtain ⟨u, v, er, ei⟩ := split_at hm
  have p := c.pth
  have nd := c.nd
  rw [ei]
  show Cyc _ (u ++ h :: e :: v)
  rw [er] at p nd he
  have hhd : hd (u ++ h :: e :: v) = hd (u ++ h :: v) := by cases u <;> rfl
  obtain ⟨n1, n2, n3⟩ := List.nodup_append.mp nd
  obtain ⟨n4, n5⟩ := List.nodup_cons.mp n2
  have heu : e ∉ u := fun z => he (List.mem_append_left _ z)
  have heh : e ≠ h := fun z => he (z ▸ List.mem_append_right _ List.mem_cons_self)
  have hev : e ∉ v := fun z => he (List.mem_append_right _ (List.mem_cons_of_mem _ z))
  have hhu : h ∉ u := fun z => n3 h z h List.mem_cons_self rfl
  refine Cyc.of (by simp) ?_ ?_
  · refine List.nodup_append.mpr ⟨n1, List.nodup_cons.mpr ⟨?_, List.nodup_cons.mpr ⟨hev, n5⟩⟩, fun a ha b hb z => ?_⟩
    · intro z
      rcases List.mem_cons.mp z with z | z
      · exact heh z.symm
      · exact n4 z
    · subst z
      rcases List.mem_cons.mp hb with z | z
      · exact n3 a ha h List.mem_cons_self z
      · rcases List.mem_cons.mp z with z | z
        · exact heu (z ▸ ha)
        · exact n3 a ha a (List.mem_cons_of_mem _ z) rfl
  · rw [hhd]
    obtain ⟨p1, p2⟩ := Pth.append.mp p
    obtain ⟨p3, p4⟩ := p2
    refine Pth.append.mpr ⟨p1.congr fun x hx => swap1_out hhu heu hx, swap1_h g h e, ?_, p4.congr fun x hx => swap1_out n4 hev hx⟩
    rw [swap1_e heh]
    exact p3
theorem ne_put (rs : Rs) (h e : Int) : ne (putIn rs h e) = (ne rs).map (putRow h e) := by
  unfold putIn ne
  rw [List.filter_map]
  congr 1
  refine List.filter_congr fun r hr => ?_
  cases r with
  | nil => rfl
  | cons x t =>
    have : putRow h e (x :: t) ≠ [] := putRow_ne (by simp)
    simp [this]
theorem Cycs.put {g : Int → Int} {rs : Rs} {n : Nat} {h : Int} (c : Cycs g n (ne rs)) (hh : 0 ≤ h ∧ h < (n : Int)) : Cycs (swap1 g h n) (n + 1) (ne (putIn rs h n)) := by
  have hm : h ∈ rs.flatten := by rw [← flat_noempty]; exact (c.mem h).mpr hh
  have nd : rs.flatten.Nodup := by rw [← flat_noempty]; exact c.nd
  have p := putIn_perm (e := (n : Int)) nd hm
  have mm : ∀ z : Int, z ∈ rs.flatten ↔ 0 ≤ z ∧ z < n := fun z => by rw [← flat_noempty]; exact c.mem z
  have hnn : (n : Int) ∉ rs.flatten := fun z => by have := (mm _).mp z; omega
  refine ⟨fun r hr => ?_, ?_, fun z => ?_⟩
  · rw [ne_put] at hr
    obtain ⟨q, hq, rfl⟩ := List.mem_map.mp hr
    have hqf : ∀ x ∈ q, x ∈ rs.flatten := fun x hx => List.mem_flatten.mpr ⟨q, (List.mem_filter.mp hq).1, hx⟩
    have hq' : (n : Int) ∉ q := fun z => hnn (hqf _ z)
    by_cases hmq : h ∈ q
    · unfold putRow
      rw [if_pos hmq]
      exact (c.cyc q hq).ins hmq hq'
    · rw [putRow_no hmq]
      exact (c.cyc q hq).congr fun x hx => swap1_out hmq hq' hx
  · rw [flat_noempty, p.nodup_iff]
    exact List.nodup_cons.mpr ⟨hnn, nd⟩
  · rw [flat_noempty, p.mem_iff, List.mem_cons, mm]
    omega
theorem nextIn_ne : ∀ (rs : Rs) (e : Int), nextIn (ne rs) e = nextIn rs e
  | [], _ => rfl
  | r :: rs, e => by
    unfold ne
    rw [List.filter_cons]
    have ih := nextIn_ne rs e
    cases r with
    | nil =>
      rw [if_neg (by simp)]
      show nextIn (ne rs) e = if e ∈ [] then behind [] e else nextIn rs e
      rw [if_neg (by simp)]
      exact ih
    | cons x t =>
      rw [if_pos (by simp)]
      show (if e ∈ x :: t then behind (x :: t) e else nextIn (ne rs) e) = if e ∈ x :: t then behind (x :: t) e else nextIn rs e
      rw [ih]
theorem Cycs.nextNe {f : Int → Int} {n : Nat} {rs : Rs} (c : Cycs f n (ne rs)) {e : Int} (he : 0 ≤ e ∧ e < (n : Int)) : nextIn rs e = f e := by rw [← nextIn_ne]; exact c.next he
/-- after a tie -/
theorem Dr.tie_next {rs : Rs} {n : Nat} {h t : Int} (d : Dr rs n) (h0 : 0 ≤ h ∧ h < n) (t0 : 0 ≤ t ∧ t < n) {e : Int} (he : 0 ≤ e ∧ e < (n : Int) + 2) :
    nextIn (putIn (putIn rs h n) t ((n : Int) + 1)) e = swap1 (swap1 (nextIn rs) h n) t ((n : Int) + 1) e := by
  have c1 := d.cycs.put h0
  have c2 := c1.put (h := t) (by omega)
  have := c2.nextNe (e := e) (by omega)
  have e1 : ((n + 1 : Nat) : Int) = (n : Int) + 1 := by omega
  rw [e1] at this
  exact this
end Ink

namespace Ink
/-! ### how the faces change by a rope more -/
theorem Cyc.upto {f : Int → Int} {r : List Int} {z : Int} (c : Cyc f r) (hz : z ∈ r) : ∃ u, Cyc f (u ++ [z]) ∧ (u ++ [z]).Perm r := by
  obtain ⟨a, b, rfl⟩ := List.append_of_mem hz
  have e : a ++ z :: b = (a ++ [z]) ++ b := by simp
  rw [e] at c ⊢
  refine ⟨b ++ a, ?_, ?_⟩
  · rw [List.append_assoc]
    exact c.rot
  · rw [List.append_assoc]
    exact List.perm_append_comm
theorem Cycs.front {f : Int → Int} {n : Nat} {L : Rs} {z : Int} (c : Cycs f n L) (hz : 0 ≤ z ∧ z < (n : Int)) : ∃ u rest, Cycs f n ((u ++ [z]) :: rest) ∧ L.length = rest.length + 1 := by
  obtain ⟨r, hr, hzr⟩ := List.mem_flatten.mp ((c.mem z).mpr hz)
  obtain ⟨A, B, rfl⟩ := List.append_of_mem hr
  obtain ⟨u, cu, pu⟩ := (c.cyc r hr).upto hzr
  have p1 : (A ++ r :: B).Perm (r :: (A ++ B)) := List.perm_middle
  have c1 := c.perm p1
  refine ⟨u, A ++ B, ⟨fun q hq => ?_, ?_, fun y => ?_⟩, by simp; omega⟩
  · rcases List.mem_cons.mp hq with e | e
    · rw [e]; exact cu
    · exact c1.cyc q (List.mem_cons_of_mem _ e)
  · have := c1.nd
    rw [List.flatten_cons] at this ⊢
    exact (pu.append_right _).nodup_iff.mpr this
  · rw [← c1.mem y, List.flatten_cons, List.flatten_cons]
    exact (pu.append_right _).mem_iff
theorem Cycs.two {f g : Int → Int} {n : Nat} {L M : Rs} (c : Cycs f n L) (h : ∀ r ∈ M, Cyc g r) (p : M.flatten.Perm ((n : Int) :: ((n : Int) + 1) :: L.flatten)) : Cycs g (n + 2) M := by
  refine ⟨h, p.nodup_iff.mpr (List.nodup_cons.mpr ⟨?_, List.nodup_cons.mpr ⟨?_, c.nd⟩⟩), fun z => ?_⟩
  · intro z
    rcases List.mem_cons.mp z with z | z
    · omega
    · have := (c.mem _).mp z; omega
  · intro z
    have := (c.mem _).mp z; omega
  · rw [p.mem_iff, List.mem_cons, List.mem_cons, c.mem]
    omega
/-- new steps: n and n + 1 between -/
structure Tied (f f' : Int → Int) (n : Nat) (x y : Int) : Prop where
  fx : f' x = n
  fy : f' y = (n : Int) + 1
  fn : f' n = f y
  fm : f' ((n : Int) + 1) = f x
  no : ∀ z : Int, 0 ≤ z ∧ z < n → z ≠ x → z ≠ y → f' z = f z
theorem hd_snoc (u : List Int) (x : Int) (y : Int) : hd (u ++ [x]) = u.headD x := by cases u <;> rfl
theorem headD_snoc (u : List Int) (x y : Int) : (u ++ [x]).headD y = u.headD x := by cases u <;> rfl
theorem Tied.count {f f' : Int → Int} {n : Nat} {x y : Int} {u : List Int} {rest : Rs} (T : Tied f f' n x y) (hxy : x ≠ y) (hx : 0 ≤ x ∧ x < (n : Int)) (hy : 0 ≤ y ∧ y < (n : Int)) (c : Cycs f n ((u ++ [x]) :: rest)) :
    ∃ M, Cycs f' (n + 2) M ∧ ((y ∈ u ∧ M.length = rest.length + 2) ∨ (y ∉ u ∧ M.length = rest.length)) := by
  have nd := c.nd
  rw [List.flatten_cons] at nd
  obtain ⟨nd1, nd2, nd3⟩ := List.nodup_append.mp nd
  obtain ⟨ndu, _, ndx⟩ := List.nodup_append.mp nd1
  have hxu : x ∉ u := fun z => ndx x z x (by simp) rfl
  have hxr : x ∉ rest.flatten := fun z => nd3 x (by simp) x z rfl
  have c0 := c.cyc _ List.mem_cons_self
  have p0 := c0.pth
  rw [hd_snoc u x 0] at p0
  obtain ⟨pu, pf, _⟩ := Pth.append.mp p0
  have pf' : f x = u.headD x := pf
  have pu' : Pth f u x := pu
  have hin : ∀ z ∈ u ++ [x], 0 ≤ z ∧ z < (n : Int) := fun z hz => (c.mem z).mp (by rw [List.flatten_cons]; exact List.mem_append_left _ hz)
  have hinr : ∀ z ∈ rest.flatten, 0 ≤ z ∧ z < (n : Int) := fun z hz => (c.mem z).mp (by rw [List.flatten_cons]; exact List.mem_append_right _ hz)
  have nn : ∀ {z : Int}, 0 ≤ z ∧ z < (n : Int) → z ≠ (n : Int) ∧ z ≠ (n : Int) + 1 := fun h => by omega
  have other : ∀ {r : List Int}, r ∈ rest → y ∉ r → Cyc f' r := fun {r} hr hyr => (c.cyc r (List.mem_cons_of_mem _ hr)).congr fun z hz => by
    have hz' := List.mem_flatten.mpr ⟨r, hr, hz⟩
    exact (T.no z (hinr z hz') (fun e => hxr (e ▸ hz')) (fun e => hyr (e ▸ hz))).symm
  by_cases hyu : y ∈ u
  · obtain ⟨u1, u2, rfl⟩ := List.append_of_mem hyu
    have hyr : y ∉ rest.flatten := fun z => nd3 y (by simp) y z rfl
    obtain ⟨n1, n2, n3⟩ := List.nodup_append.mp ndu
    obtain ⟨n4, n5⟩ := List.nodup_cons.mp n2
    have hy1 : y ∉ u1 := fun z => n3 y z y List.mem_cons_self rfl
    obtain ⟨q1, q2, q3⟩ := Pth.append.mp pu'
    have q1' : Pth f u1 y := q1
    have eq1 : ∀ z ∈ u1, f z = f' z := fun z hz => (T.no z (hin z (by simp [hz])) (fun e => hxu (e ▸ by simp [hz])) (fun e => hy1 (e ▸ hz))).symm
    have eq2 : ∀ z ∈ u2, f z = f' z := fun z hz => (T.no z (hin z (by simp [hz])) (fun e => hxu (e ▸ by simp [hz])) (fun e => n4 (e ▸ hz))).symm
    refine ⟨(((n : Int) + 1) :: (u1 ++ [y])) :: ((n : Int) :: (u2 ++ [x])) :: rest, c.two (fun r hr => ?_) ?_, .inl ⟨hyu, rfl⟩⟩
    · rcases List.mem_cons.mp hr with rfl | hr
      · refine Cyc.of (by simp) (List.nodup_cons.mpr ⟨fun z => ?_, List.nodup_append.mpr ⟨n1, by simp, fun a ha b hb e => ?_⟩⟩) ⟨?_, Pth.append.mpr ⟨q1'.congr eq1, T.fy, trivial⟩⟩
        · have := hin _ (show (n : Int) + 1 ∈ (u1 ++ y :: u2) ++ [x] by
            rcases List.mem_append.mp z with z | z
            · simp [z]
            · have : (n : Int) + 1 = y := by simpa using z
              simp [this])
          omega
        · have : b = y := by simpa using hb
          exact hy1 (by rw [← this, ← e]; exact ha)
        · rw [T.fm, pf', headD_snoc]
          cases u1 <;> rfl
      · rcases List.mem_cons.mp hr with rfl | hr
        · refine Cyc.of (by simp) (List.nodup_cons.mpr ⟨fun z => ?_, List.nodup_append.mpr ⟨n5, by simp, fun a ha b hb e => ?_⟩⟩) ⟨?_, Pth.append.mpr ⟨q3.congr eq2, T.fx, trivial⟩⟩
          · have := hin _ (show (n : Int) ∈ (u1 ++ y :: u2) ++ [x] by
              rcases List.mem_append.mp z with z | z
              · simp [z]
              · have : (n : Int) = x := by simpa using z
                simp [this])
            omega
          · have : b = x := by simpa using hb
            exact hxu (by rw [← this, ← e]; simp [ha])
          · rw [T.fn, q2, headD_snoc]
        · exact other hr fun z => hyr (List.mem_flatten.mpr ⟨r, hr, z⟩)
    · rw [List.flatten_cons, List.flatten_cons, List.flatten_cons]
      refine List.perm_iff_count.mpr fun a => ?_
      simp only [List.count_append, List.count_cons, List.count_nil]
      omega
  · have hyx : y ∉ u ++ [x] := fun z => by
      rcases List.mem_append.mp z with z | z
      · exact hyu z
      · exact hxy (by simpa using z : y = x).symm
    have hyr : y ∈ rest.flatten := by
      have := (c.mem y).mpr hy
      rw [List.flatten_cons] at this
      exact (List.mem_append.mp this).resolve_left hyx
    obtain ⟨r2, hr2, hyr2⟩ := List.mem_flatten.mp hyr
    obtain ⟨A, B, eAB⟩ := List.append_of_mem hr2
    obtain ⟨v, cv, pv⟩ := (c.cyc r2 (List.mem_cons_of_mem _ hr2)).upto hyr2
    have pr : rest.Perm (r2 :: (A ++ B)) := by rw [eAB]; exact List.perm_middle
    have ndr : (r2 :: (A ++ B)).flatten.Nodup := (perm_flatten pr).nodup_iff.mp nd2
    rw [List.flatten_cons] at ndr
    obtain ⟨m1, m2, m3⟩ := List.nodup_append.mp ndr
    have ndv : (v ++ [y]).Nodup := pv.nodup_iff.mpr m1
    obtain ⟨nv1, _, nv3⟩ := List.nodup_append.mp ndv
    have hyv : y ∉ v := fun z => nv3 y z y (by simp) rfl
    have p1 := cv.pth
    rw [hd_snoc v y 0] at p1
    obtain ⟨qv, qf, _⟩ := Pth.append.mp p1
    have qv' : Pth f v y := qv
    have qf' : f y = v.headD y := qf
    have hvin : ∀ z ∈ v ++ [y], z ∈ rest.flatten := fun z hz => List.mem_flatten.mpr ⟨r2, hr2, pv.mem_iff.mp hz⟩
    have eqv : ∀ z ∈ v, f z = f' z := fun z hz => (T.no z (hinr z (hvin z (by simp [hz]))) (fun e => hxr (e ▸ hvin z (by simp [hz]))) (fun e => hyv (e ▸ hz))).symm
    have equ : ∀ z ∈ u, f z = f' z := fun z hz => (T.no z (hin z (by simp [hz])) (fun e => hxu (e ▸ hz)) (fun e => hyu (e ▸ hz))).symm
    have hP : (((n : Int) :: (v ++ [y]) ++ ((n : Int) + 1) :: (u ++ [x])) :: (A ++ B)).flatten.Perm ((n : Int) :: ((n : Int) + 1) :: ((u ++ [x]) :: rest).flatten) := by
      have e1 : rest.flatten.Perm ((v ++ [y]) ++ (A ++ B).flatten) := by
        have := perm_flatten pr
        rw [List.flatten_cons] at this
        exact this.trans (pv.symm.append_right _)
      rw [List.flatten_cons, List.flatten_cons]
      refine List.Perm.trans ?_ ((((e1.append_left (u ++ [x])).cons _).cons _).symm)
      refine List.perm_iff_count.mpr fun a => ?_
      simp only [List.count_append, List.count_cons, List.count_nil]
      omega
    have c2 : ∀ r ∈ (((n : Int) :: (v ++ [y]) ++ ((n : Int) + 1) :: (u ++ [x])) :: (A ++ B)), Cyc f' r := fun r hr => by
      rcases List.mem_cons.mp hr with rfl | hr
      · refine Cyc.of (by simp) ?_ ?_
        · have ndl : ((n : Int) :: ((n : Int) + 1) :: ((u ++ [x]) :: rest).flatten).Nodup := by
            refine List.nodup_cons.mpr ⟨?_, List.nodup_cons.mpr ⟨?_, c.nd⟩⟩
            · intro z
              rcases List.mem_cons.mp z with z | z
              · omega
              · have := (c.mem _).mp z; omega
            · intro z
              have := (c.mem _).mp z; omega
          have := hP.nodup_iff.mpr ndl
          rw [List.flatten_cons] at this
          exact (List.nodup_append.mp this).1
        · show Pth f' (((n : Int) :: (v ++ [y])) ++ (((n : Int) + 1) :: (u ++ [x]))) n
          refine Pth.append.mpr ⟨⟨?_, Pth.append.mpr ⟨qv'.congr eqv, T.fy, trivial⟩⟩, ?_, Pth.append.mpr ⟨pu'.congr equ, T.fx, trivial⟩⟩
          · rw [T.fn, qf', headD_snoc]
          · rw [T.fm, pf', headD_snoc]
      · have hr' : r ∈ rest := pr.mem_iff.mpr (List.mem_cons_of_mem _ hr)
        exact other hr' fun z => m3 y hyr2 y (List.mem_flatten.mpr ⟨r, hr, z⟩) rfl
    refine ⟨_, c.two c2 hP, .inr ⟨hyu, ?_⟩⟩
    rw [eAB]
    simp
    omega
end Ink

namespace Ink
/-! ### the faces of a drawing with a rope more -/
def SameFace (rs : Rs) (h t : Int) : Prop := ∃ row, IsFace (stp rs) (nextIn rs h) row ∧ acr t ∈ row
theorem acr_n {n : Nat} (h : n % 2 = 0) : acr (n : Int) = (n : Int) + 1 ∧ acr ((n : Int) + 1) = n := by unfold acr; omega
theorem acr_ne {x y : Int} (h : x ≠ y) : acr x ≠ acr y := fun e => h (acr_inj _ _ e)
theorem Dr.same_iff {rs : Rs} {n : Nat} {h t : Int} {u : List Int} {rest : Rs} (d : Dr rs n) (h0 : 0 ≤ h ∧ h < n) (c : Cycs (stp rs) n ((u ++ [acr h]) :: rest)) : SameFace rs h t ↔ acr t ∈ u ++ [acr h] := by
  have c0 := c.cyc _ List.mem_cons_self
  have p := Pth.append.mp c0.pth
  have e : stp rs (acr h) = hd (u ++ [acr h]) := p.2.1
  have e2 : stp rs (acr h) = nextIn rs h := by show nextIn rs (acr (acr h)) = _; rw [acr_acr]
  have hf : IsFace (stp rs) (nextIn rs h) (u ++ [acr h]) := by
    rw [← e2, e]
    cases u with
    | nil => exact Cyc.face c0
    | cons a u => exact Cyc.face c0
  constructor
  · rintro ⟨row, h1, h2⟩
    rw [h1.uniq hf] at h2
    exact h2
  · intro h1
    exact ⟨_, hf, h1⟩
theorem Dr.tie_faces {rs L : Rs} {n : Nat} {h t : Int} (d : Dr rs n) (h0 : 0 ≤ h ∧ h < n) (t0 : 0 ≤ t ∧ t < n) (c : Cycs (stp rs) n L) :
    ∃ M, Cycs (stp (putIn (putIn rs h n) t ((n : Int) + 1))) (n + 2) M ∧ ((SameFace rs h t ∧ M.length = L.length + 1) ∨ (¬ SameFace rs h t ∧ M.length + 1 = L.length)) := by
  have ha := acr_lt d.even h0.1 h0.2
  have ta := acr_lt d.even t0.1 t0.2
  obtain ⟨an1, an2⟩ := acr_n d.even
  obtain ⟨u, rest, c1, hl⟩ := c.front ha
  have val : ∀ {z : Int}, 0 ≤ z ∧ z < (n : Int) + 2 → stp (putIn (putIn rs h n) t ((n : Int) + 1)) z = swap1 (swap1 (nextIn rs) h n) t ((n : Int) + 1) (acr z) := fun {z} hz => d.tie_next h0 t0 (by
    have := acr_lt (n := n + 2) (by have := d.even; omega) hz.1 (by omega)
    omega)
  have fx : stp rs (acr h) = nextIn rs h := by show nextIn rs (acr (acr h)) = _; rw [acr_acr]
  have fy : stp rs (acr t) = nextIn rs t := by show nextIn rs (acr (acr t)) = _; rw [acr_acr]
  have hno : ∀ z : Int, 0 ≤ z ∧ z < n → z ≠ acr h → z ≠ acr t → stp (putIn (putIn rs h n) t ((n : Int) + 1)) z = stp rs z := fun z hz h1 h2 => by
    have hb := acr_lt d.even hz.1 hz.2
    rw [val (by omega), swap1_no (fun e => h2 (by rw [← e, acr_acr])) (by omega), swap1_no (fun e => h1 (by rw [← e, acr_acr])) (by omega)]
    rfl
  have hsame := d.same_iff (t := t) h0 c1
  by_cases hth : t = h
  · subst hth
    have nd := c1.nd
    rw [List.flatten_cons] at nd
    obtain ⟨nd1, nd2, nd3⟩ := List.nodup_append.mp nd
    obtain ⟨ndu, _, ndx⟩ := List.nodup_append.mp nd1
    have hxu : acr t ∉ u := fun z => ndx _ z _ (by simp) rfl
    have hxr : acr t ∉ rest.flatten := fun z => nd3 _ (by simp) _ z rfl
    have f1 : stp (putIn (putIn rs t n) t ((n : Int) + 1)) (acr t) = (n : Int) + 1 := by rw [val (by omega), acr_acr, swap1_h]
    have f2 : stp (putIn (putIn rs t n) t ((n : Int) + 1)) n = n := by rw [val (by omega), an1, swap1_e (by omega), swap1_h]
    have f3 : stp (putIn (putIn rs t n) t ((n : Int) + 1)) ((n : Int) + 1) = nextIn rs t := by rw [val (by omega), an2, swap1_no (by omega) (by omega), swap1_e (by omega)]
    have c0 := c1.cyc _ List.mem_cons_self
    obtain ⟨p1, p2, _⟩ := Pth.append.mp c0.pth
    have hin : ∀ z ∈ u ++ [acr t], 0 ≤ z ∧ z < (n : Int) := fun z hz => (c1.mem z).mp (by rw [List.flatten_cons]; exact List.mem_append_left _ hz)
    refine ⟨[(n : Int)] :: (((n : Int) + 1) :: (u ++ [acr t])) :: rest, c1.two (fun r hr => ?_) ?_, .inl ⟨hsame.mpr (by simp), by simp; omega⟩⟩
    · rcases List.mem_cons.mp hr with rfl | hr
      · exact Cyc.of (by simp) (by simp) ⟨f2, trivial⟩
      · rcases List.mem_cons.mp hr with rfl | hr
        · refine Cyc.of (by simp) (List.nodup_cons.mpr ⟨fun z => ?_, nd1⟩) ⟨?_, Pth.append.mpr ⟨?_, f1, trivial⟩⟩
          · have := hin _ z; omega
          · rw [f3, ← fx]
            have : stp rs (acr t) = hd (u ++ [acr t]) := p2
            rw [this, hd_snoc u _ 0, headD_snoc]
          · have p1' : Pth (stp rs) u (acr t) := p1
            exact p1'.congr fun z hz => (hno z (hin z (by simp [hz])) (fun e => hxu (e ▸ hz)) (fun e => hxu (e ▸ hz))).symm
        · refine (c1.cyc r (List.mem_cons_of_mem _ hr)).congr fun z hz => ?_
          have hz' : z ∈ rest.flatten := List.mem_flatten.mpr ⟨r, hr, hz⟩
          exact (hno z ((c1.mem z).mp (by rw [List.flatten_cons]; exact List.mem_append_right _ hz')) (fun e => hxr (e ▸ hz')) (fun e => hxr (e ▸ hz'))).symm
    · rw [List.flatten_cons, List.flatten_cons, List.flatten_cons]
      exact .refl _
  · have T : Tied (stp rs) (stp (putIn (putIn rs h n) t ((n : Int) + 1))) n (acr h) (acr t) := by
      refine ⟨?_, ?_, ?_, ?_, hno⟩
      · rw [val (by omega), acr_acr, swap1_no (Ne.symm hth) (by omega), swap1_h]
      · rw [val (by omega), acr_acr, swap1_h]
      · rw [val (by omega), an1, swap1_e (by omega), swap1_no hth (by omega), fy]
      · rw [val (by omega), an2, swap1_no (by omega) (by omega), swap1_e (by omega), fx]
    obtain ⟨M, cM, hM⟩ := T.count (acr_ne (Ne.symm hth)) ha ta c1
    refine ⟨M, cM, ?_⟩
    rcases hM with ⟨hy, hm⟩ | ⟨hy, hm⟩
    · exact .inl ⟨hsame.mpr (by simp [hy]), by omega⟩
    · refine .inr ⟨fun z => ?_, by omega⟩
      rcases List.mem_append.mp (hsame.mp z) with z | z
      · exact hy z
      · exact hth (acr_inj _ _ (by simpa using z))
/-! a leaf, a rope apart, a point alone -/
theorem nextIn_append {rs ts : Rs} {e : Int} (h : e ∈ rs.flatten) : nextIn (rs ++ ts) e = nextIn rs e := by
  induction rs with
  | nil => cases h
  | cons r rs ih =>
    show (if e ∈ r then behind r e else nextIn (rs ++ ts) e) = if e ∈ r then behind r e else nextIn rs e
    by_cases hr : e ∈ r
    · rw [if_pos hr, if_pos hr]
    · rw [if_neg hr, if_neg hr]
      rw [List.flatten_cons] at h
      exact ih ((List.mem_append.mp h).resolve_left hr)
theorem nextIn_behind {rs ts : Rs} {e : Int} (h : e ∉ rs.flatten) : nextIn (rs ++ ts) e = nextIn ts e := by
  induction rs with
  | nil => rfl
  | cons r rs ih =>
    rw [List.flatten_cons] at h
    show (if e ∈ r then behind r e else nextIn (rs ++ ts) e) = _
    rw [if_neg fun z => h (List.mem_append_left _ z)]
    exact ih fun z => h (List.mem_append_right _ z)
theorem nextIn_one (e : Int) : nextIn [[e]] e = e := by
  show (if e ∈ [e] then behind [e] e else _) = e
  rw [if_pos (by simp)]
  unfold behind
  simp
theorem Dr.alone_faces {rs L : Rs} {n : Nat} (d : Dr rs n) (c : Cycs (stp rs) n L) : Cycs (stp (rs ++ [[]])) n L := c.congr fun x hx => (nextIn_append ((d.mem _).mpr (acr_lt d.even hx.1 hx.2))).symm
theorem Dr.apart_faces {rs L : Rs} {n : Nat} (d : Dr rs n) (c : Cycs (stp rs) n L) : Cycs (stp (rs ++ [[(n : Int)], [(n : Int) + 1]])) (n + 2) ([(n : Int), (n : Int) + 1] :: L) := by
  obtain ⟨an1, an2⟩ := acr_n d.even
  have h1 : (n : Int) ∉ rs.flatten := fun z => by have := (d.mem _).mp z; omega
  have h2 : (n : Int) + 1 ∉ rs.flatten := fun z => by have := (d.mem _).mp z; omega
  have f1 : stp (rs ++ [[(n : Int)], [(n : Int) + 1]]) n = (n : Int) + 1 := by
    show nextIn _ (acr n) = _
    rw [an1, nextIn_behind h2]
    show (if (n : Int) + 1 ∈ [(n : Int)] then _ else nextIn [[(n : Int) + 1]] _) = _
    rw [if_neg (by simp; omega), nextIn_one]
  have f2 : stp (rs ++ [[(n : Int)], [(n : Int) + 1]]) ((n : Int) + 1) = n := by
    show nextIn _ (acr _) = _
    rw [an2, nextIn_behind h1]
    show (if (n : Int) ∈ [(n : Int)] then behind [(n : Int)] n else _) = _
    rw [if_pos (by simp)]
    unfold behind
    simp
  refine c.two (fun r hr => ?_) (by rw [List.flatten_cons]; exact .refl _)
  rcases List.mem_cons.mp hr with rfl | hr
  · exact Cyc.of (by simp) (by simp; omega) ⟨f1, f2, trivial⟩
  · refine (c.cyc r hr).congr fun z hz => ?_
    have hz' := (c.mem z).mp (List.mem_flatten.mpr ⟨r, hr, hz⟩)
    exact (nextIn_append ((d.mem _).mpr (acr_lt d.even hz'.1 hz'.2))).symm
theorem Dr.leaf_faces {rs L : Rs} {n : Nat} {h : Int} (d : Dr rs n) (h0 : 0 ≤ h ∧ h < n) (c : Cycs (stp rs) n L) : ∃ M, Cycs (stp (putIn rs h n ++ [[(n : Int) + 1]])) (n + 2) M ∧ M.length = L.length := by
  have ha := acr_lt d.even h0.1 h0.2
  obtain ⟨an1, an2⟩ := acr_n d.even
  obtain ⟨u, rest, c1, hl⟩ := c.front ha
  have cp := d.cycs.put h0
  have val : ∀ {z : Int}, 0 ≤ z ∧ z < (n : Int) + 1 → nextIn (putIn rs h n ++ [[(n : Int) + 1]]) z = swap1 (nextIn rs) h n z := fun {z} hz => by
    have hm : z ∈ (putIn rs h n).flatten := by rw [← flat_noempty]; exact (cp.mem z).mpr (by omega)
    rw [nextIn_append hm]
    exact cp.nextNe (by omega)
  have hlast : nextIn (putIn rs h n ++ [[(n : Int) + 1]]) ((n : Int) + 1) = (n : Int) + 1 := by
    rw [nextIn_behind (fun z => by rw [← flat_noempty] at z; have := (cp.mem _).mp z; omega), nextIn_one]
  have f1 : stp (putIn rs h n ++ [[(n : Int) + 1]]) (acr h) = n := by show nextIn _ (acr (acr h)) = _; rw [acr_acr, val (by omega), swap1_h]
  have f2 : stp (putIn rs h n ++ [[(n : Int) + 1]]) n = (n : Int) + 1 := by show nextIn _ (acr _) = _; rw [an1, hlast]
  have f3 : stp (putIn rs h n ++ [[(n : Int) + 1]]) ((n : Int) + 1) = nextIn rs h := by show nextIn _ (acr _) = _; rw [an2, val (by omega), swap1_e (by omega)]
  have hno : ∀ z : Int, 0 ≤ z ∧ z < n → z ≠ acr h → stp (putIn rs h n ++ [[(n : Int) + 1]]) z = stp rs z := fun z hz h1 => by
    have hb := acr_lt d.even hz.1 hz.2
    show nextIn _ (acr z) = _
    rw [val (by omega), swap1_no (fun e => h1 (by rw [← e, acr_acr])) (by omega)]
    rfl
  have fx : stp rs (acr h) = nextIn rs h := by show nextIn rs (acr (acr h)) = _; rw [acr_acr]
  have nd := c1.nd
  rw [List.flatten_cons] at nd
  obtain ⟨nd1, nd2, nd3⟩ := List.nodup_append.mp nd
  obtain ⟨ndu, _, ndx⟩ := List.nodup_append.mp nd1
  have hxu : acr h ∉ u := fun z => ndx _ z _ (by simp) rfl
  have hxr : acr h ∉ rest.flatten := fun z => nd3 _ (by simp) _ z rfl
  have c0 := c1.cyc _ List.mem_cons_self
  obtain ⟨p1, p2, _⟩ := Pth.append.mp c0.pth
  have hin : ∀ z ∈ u ++ [acr h], 0 ≤ z ∧ z < (n : Int) := fun z hz => (c1.mem z).mp (by rw [List.flatten_cons]; exact List.mem_append_left _ hz)
  refine ⟨((n : Int) :: ((n : Int) + 1) :: (u ++ [acr h])) :: rest, c1.two (fun r hr => ?_) (by rw [List.flatten_cons, List.flatten_cons]; exact .refl _), by simp; omega⟩
  rcases List.mem_cons.mp hr with rfl | hr
  · refine Cyc.of (by simp) (List.nodup_cons.mpr ⟨fun z => ?_, List.nodup_cons.mpr ⟨fun z => ?_, nd1⟩⟩) ⟨f2, ?_, Pth.append.mpr ⟨?_, f1, trivial⟩⟩
    · rcases List.mem_cons.mp z with z | z
      · omega
      · have := hin _ z; omega
    · have := hin _ z; omega
    · rw [f3, ← fx]
      have : stp rs (acr h) = hd (u ++ [acr h]) := p2
      rw [this, hd_snoc u _ 0, headD_snoc]
    · have p1' : Pth (stp rs) u (acr h) := p1
      exact p1'.congr fun z hz => (hno z (hin z (by simp [hz])) (fun e => hxu (e ▸ hz))).symm
  · refine (c1.cyc r (List.mem_cons_of_mem _ hr)).congr fun z hz => ?_
    have hz' : z ∈ rest.flatten := List.mem_flatten.mpr ⟨r, hr, hz⟩
    exact (hno z ((c1.mem z).mp (by rw [List.flatten_cons]; exact List.mem_append_right _ hz')) (fun e => hxr (e ▸ hz'))).symm
end Ink

namespace Ink
/-! ### points and pieces -/
/-- the point at which an end stands -/
def pt (rs : Rs) (e : Int) : Nat := rs.findIdx fun r => decide (e ∈ r)
theorem pt_uniq {rs : Rs} {i : Nat} {r : List Int} {e : Int} (nd : rs.flatten.Nodup) (hi : rs[i]? = some r) (he : e ∈ r) : pt rs e = i := by
  obtain ⟨hl, hr⟩ := List.getElem?_eq_some_iff.mp hi
  unfold pt
  rw [List.findIdx_eq hl]
  refine ⟨by rw [hr]; exact decide_eq_true he, fun j hj => ?_⟩
  refine decide_eq_false fun z => ?_
  obtain ⟨k, hk⟩ := List.mem_iff_getElem?.mp he
  refine later_new nd hi hk (List.mem_flatten.mpr ⟨rs[j], ?_, z⟩)
  exact List.mem_of_getElem? (i := j) (by rw [List.getElem?_take, if_pos hj]; exact List.getElem?_eq_getElem _)
theorem pt_spec {rs : Rs} {e : Int} (he : e ∈ rs.flatten) : ∃ r, rs[pt rs e]? = some r ∧ e ∈ r := by
  obtain ⟨r, hr, hz⟩ := List.mem_flatten.mp he
  have hl : pt rs e < rs.length := List.findIdx_lt_length_of_exists ⟨r, hr, decide_eq_true hz⟩
  refine ⟨rs[pt rs e], List.getElem?_eq_getElem hl, ?_⟩
  have := List.findIdx_getElem (xs := rs) (p := fun r => decide (e ∈ r)) (w := hl)
  exact of_decide_eq_true this
theorem pt_lt {rs : Rs} {e : Int} (he : e ∈ rs.flatten) : pt rs e < rs.length := by
  obtain ⟨r, h, _⟩ := pt_spec he
  exact (List.getElem?_eq_some_iff.mp h).1
theorem pt_next {rs : Rs} {e : Int} (nd : rs.flatten.Nodup) (he : e ∈ rs.flatten) : pt rs (nextIn rs e) = pt rs e := by
  obtain ⟨r, h, hz⟩ := pt_spec he
  refine pt_uniq nd h ?_
  obtain ⟨j, hj⟩ := List.mem_iff_getElem?.mp hz
  rw [nextIn_at nd h hj]
  have hjl := (List.getElem?_eq_some_iff.mp hj).1
  have := getElem?_getD (r := r) (k := (j + 1) % r.length) (d := e) (Nat.mod_lt _ (by omega))
  exact List.mem_of_getElem? this
theorem putRow_mem {b e z : Int} {r : List Int} : z ∈ putRow b e r ↔ z ∈ r ∨ (b ∈ r ∧ z = e) := by
  unfold putRow
  by_cases h : b ∈ r
  · rw [if_pos h, (insAt_perm r b e).mem_iff, List.mem_cons]
    constructor
    · rintro (h1 | h1)
      · exact .inr ⟨h, h1⟩
      · exact .inl h1
    · rintro (h1 | ⟨_, h1⟩)
      · exact .inr h1
      · exact .inl h1
  · rw [if_neg h]
    exact ⟨.inl, fun h1 => h1.elim id fun z => absurd z.1 h⟩
/-- the ropes as pairs of points -/
def prs (rs : Rs) (n : Nat) : List (Nat × Nat) := (List.range (n / 2)).map fun (k : Nat) => (pt rs (2 * (k : Int)), pt rs (2 * (k : Int) + 1))
def relab (hs : List Int) (p : Nat × Nat) : List Int := hs.map fun z => if z = hs.getD p.1 0 then hs.getD p.2 0 else z
def nums (m : Nat) : List Int := (List.range m).map fun (k : Nat) => (k : Int)
/-- groups joined -/
def heads (m : Nat) (ps : List (Nat × Nat)) : List Int := ps.foldl relab (nums m)
theorem heads_snoc (m : Nat) (ps : List (Nat × Nat)) (p : Nat × Nat) : heads m (ps ++ [p]) = relab (heads m ps) p := by unfold heads; rw [List.foldl_append]; rfl
theorem relab_length (hs : List Int) (p : Nat × Nat) : (relab hs p).length = hs.length := List.length_map _
theorem nums_length (m : Nat) : (nums m).length = m := by unfold nums; rw [List.length_map, List.length_range]
/-- what holds of the labels at each stage -/
theorem heads_ind {m : Nat} {P : List (Nat × Nat) → List Int → Prop} (ps : List (Nat × Nat)) (h0 : P [] (nums m)) (hs : ∀ qs p, (∃ rest, ps = qs ++ p :: rest) → P qs (heads m qs) → P (qs ++ [p]) (relab (heads m qs) p)) : P ps (heads m ps) := by
  have key : ∀ k, k ≤ ps.length → P (ps.take k) (heads m (ps.take k)) := by
    intro k
    induction k with
    | zero => intro _; exact h0
    | succ k ih =>
      intro hk
      have hk' : k < ps.length := hk
      have e : ps.take (k + 1) = ps.take k ++ [ps[k]] := by rw [List.take_add_one, List.getElem?_eq_getElem hk']; rfl
      rw [e, heads_snoc]
      refine hs _ _ ⟨ps.drop (k + 1), ?_⟩ (ih (by omega))
      rw [← List.drop_eq_getElem_cons hk', List.take_append_drop]
  have := key ps.length (Nat.le_refl _)
  rw [List.take_length] at this
  exact this
theorem heads_length (m : Nat) (ps : List (Nat × Nat)) : (heads m ps).length = m := heads_ind (P := fun _ hs => hs.length = m) ps (nums_length m) fun _ _ _ ih => by rw [relab_length]; exact ih
theorem getD_relab {hs : List Int} {p : Nat × Nat} {i : Nat} (h : i < hs.length) : (relab hs p).getD i 0 = if hs.getD i 0 = hs.getD p.1 0 then hs.getD p.2 0 else hs.getD i 0 := by
  unfold relab
  rw [List.getD_eq_getElem?_getD, List.getElem?_map, List.getElem?_eq_getElem h]
  show (if hs[i] = _ then _ else hs[i]) = _
  have : hs.getD i 0 = hs[i] := by rw [List.getD_eq_getElem?_getD, List.getElem?_eq_getElem h]; rfl
  rw [this]
theorem getD_nums {m i : Nat} (h : i < m) : (nums m).getD i 0 = i := by
  unfold nums
  rw [List.getD_eq_getElem?_getD, List.getElem?_map, List.getElem?_range h]
  rfl
/-- labels that are alike stay alike -/
theorem relab_eq {hs : List Int} {p : Nat × Nat} {i j : Nat} (hi : i < hs.length) (hj : j < hs.length) (h : hs.getD i 0 = hs.getD j 0) : (relab hs p).getD i 0 = (relab hs p).getD j 0 := by rw [getD_relab hi, getD_relab hj, h]
def Below (m : Nat) (ps : List (Nat × Nat)) : Prop := ∀ p ∈ ps, p.1 < m ∧ p.2 < m
/-- the two points of each rope have one label -/
theorem heads_pair {m : Nat} {ps : List (Nat × Nat)} (hb : Below m ps) : ∀ p ∈ ps, (heads m ps).getD p.1 0 = (heads m ps).getD p.2 0 := by
  refine heads_ind (P := fun qs hs => ∀ p ∈ qs, hs.getD p.1 0 = hs.getD p.2 0) ps (fun p hp => by cases hp) fun qs p ⟨rest, e⟩ ih q hq => ?_
  have hl := heads_length m qs
  have hp : p.1 < m ∧ p.2 < m := hb p (by rw [e]; simp)
  rcases List.mem_append.mp hq with z | z
  · have hq' := hb q (by rw [e]; simp [z])
    exact relab_eq (by omega) (by omega) (ih q z)
  · have : q = p := by simpa using z
    subst this
    rw [getD_relab (by omega), getD_relab (by omega), if_pos rfl]
    split
    · rfl
    · rfl
/-- a set of points that the ropes don't leave is made of whole groups -/
theorem heads_closed {m : Nat} {ps : List (Nat × Nat)} (hb : Below m ps) (S : Nat → Prop) (hS : ∀ p ∈ ps, S p.1 ↔ S p.2) : ∀ i j, i < m → j < m → (heads m ps).getD i 0 = (heads m ps).getD j 0 → (S i ↔ S j) := by
  refine heads_ind (P := fun qs hs => ∀ i j, i < m → j < m → hs.getD i 0 = hs.getD j 0 → (S i ↔ S j)) ps (fun i j hi hj h => ?_) fun qs p ⟨rest, e⟩ ih i j hi hj h => ?_
  · rw [getD_nums hi, getD_nums hj] at h
    have : i = j := by omega
    rw [this]
  · have hl := heads_length m qs
    have hmem : p ∈ ps := by rw [e]; simp
    have hp : p.1 < m ∧ p.2 < m := hb p hmem
    rw [getD_relab (by omega), getD_relab (by omega)] at h
    by_cases hia : (heads m qs).getD i 0 = (heads m qs).getD p.1 0
    · rw [if_pos hia] at h
      have h1 := ih i p.1 hi hp.1 hia
      by_cases hja : (heads m qs).getD j 0 = (heads m qs).getD p.1 0
      · exact h1.trans (ih j p.1 hj hp.1 hja).symm
      · rw [if_neg hja] at h
        exact h1.trans ((hS p hmem).trans (ih p.2 j hp.2 hj h))
    · rw [if_neg hia] at h
      by_cases hja : (heads m qs).getD j 0 = (heads m qs).getD p.1 0
      · rw [if_pos hja] at h
        exact (ih i p.2 hi hp.2 h).trans ((hS p hmem).symm.trans (ih j p.1 hj hp.1 hja).symm)
      · rw [if_neg hja] at h
        exact ih i j hi hj h
/-- more points -/
theorem relab_snoc {hs : List Int} {p : Nat × Nat} {x : Int} (h1 : p.1 < hs.length) (h2 : p.2 < hs.length) (hx : x ∉ hs) : relab (hs ++ [x]) p = relab hs p ++ [x] := by
  have g : ∀ i, i < hs.length → (hs ++ [x]).getD i 0 = hs.getD i 0 := fun i hi => by rw [List.getD_eq_getElem?_getD, List.getD_eq_getElem?_getD, List.getElem?_append_left hi]
  unfold relab
  rw [g _ h1, g _ h2, List.map_append]
  congr 1
  have : x ≠ hs.getD p.1 0 := fun z => hx (by rw [z, List.getD_eq_getElem?_getD, List.getElem?_eq_getElem h1]; exact List.getElem_mem h1)
  show [if x = hs.getD p.1 0 then hs.getD p.2 0 else x] = [x]
  rw [if_neg this]
theorem relab_mem {hs : List Int} {p : Nat × Nat} (h2 : p.2 < hs.length) {z : Int} (hz : z ∈ relab hs p) : z ∈ hs := by
  obtain ⟨y, hy, rfl⟩ := List.mem_map.mp hz
  split
  · rw [List.getD_eq_getElem?_getD, List.getElem?_eq_getElem h2]; exact List.getElem_mem h2
  · exact hy
theorem heads_mem {m : Nat} {ps : List (Nat × Nat)} (hb : Below m ps) : ∀ z ∈ heads m ps, 0 ≤ z ∧ z < (m : Int) := by
  refine heads_ind (P := fun qs hs => ∀ z ∈ hs, 0 ≤ z ∧ z < (m : Int)) ps (fun z hz => ?_) fun qs p ⟨rest, e⟩ ih z hz => ?_
  · obtain ⟨k, hk, rfl⟩ := List.mem_map.mp hz
    have := List.mem_range.mp hk
    omega
  · have hp : p.1 < m ∧ p.2 < m := hb p (by rw [e]; simp)
    exact ih z (relab_mem (by rw [heads_length]; exact hp.2) hz)
theorem nums_succ (m : Nat) : nums (m + 1) = nums m ++ [(m : Int)] := by unfold nums; rw [List.range_succ, List.map_append]; rfl
theorem heads_more {m : Nat} {ps : List (Nat × Nat)} (hb : Below m ps) : heads (m + 1) ps = heads m ps ++ [(m : Int)] := by
  refine heads_ind (m := m) (P := fun qs hs => heads (m + 1) qs = hs ++ [(m : Int)]) ps (nums_succ m) fun qs p ⟨rest, e⟩ ih => ?_
  have hp : p.1 < m ∧ p.2 < m := hb p (by rw [e]; simp)
  have hl := heads_length m qs
  have hb' : Below m qs := fun q hq => hb q (by rw [e]; simp [hq])
  rw [heads_snoc, ih]
  exact relab_snoc (by omega) (by omega) fun z => by have := heads_mem hb' _ z; omega
/-! how many labels -/
structure DC (hs : List Int) (k : Nat) : Prop where
  ex : ∃ D : List Int, D.Nodup ∧ (∀ z, z ∈ D ↔ z ∈ hs) ∧ D.length = k
theorem DC.uniq {hs : List Int} {k k' : Nat} (a : DC hs k) (b : DC hs k') : k = k' := by
  obtain ⟨D, d1, d2, d3⟩ := a.ex
  obtain ⟨E, e1, e2, e3⟩ := b.ex
  have h1 := sub_len d1 (b := E) fun z hz => (e2 z).mpr ((d2 z).mp hz)
  have h2 := sub_len e1 (b := D) fun z hz => (d2 z).mpr ((e2 z).mp hz)
  omega
theorem DC.snoc {hs : List Int} {k : Nat} {x : Int} (a : DC hs k) (hx : x ∉ hs) : DC (hs ++ [x]) (k + 1) := by
  obtain ⟨D, d1, d2, d3⟩ := a.ex
  refine ⟨x :: D, List.nodup_cons.mpr ⟨fun z => hx ((d2 x).mp z), d1⟩, fun z => ?_, by rw [List.length_cons, d3]⟩
  rw [List.mem_cons, d2, List.mem_append]
  simp [or_comm]
theorem relab_id {hs : List Int} {p : Nat × Nat} (h : hs.getD p.1 0 = hs.getD p.2 0) : relab hs p = hs := by
  unfold relab
  have : (fun z : Int => if z = hs.getD p.1 0 then hs.getD p.2 0 else z) = id := by
    funext z
    split
    · rename_i e; rw [e, h]; rfl
    · rfl
  rw [this, List.map_id]
theorem getD_mem' {hs : List Int} {i : Nat} (h : i < hs.length) : hs.getD i 0 ∈ hs := by rw [List.getD_eq_getElem?_getD, List.getElem?_eq_getElem h]; exact List.getElem_mem h
theorem DC.relab {hs : List Int} {k : Nat} {p : Nat × Nat} (a : DC hs k) (h1 : p.1 < hs.length) (h2 : p.2 < hs.length) (h : hs.getD p.1 0 ≠ hs.getD p.2 0) : ∃ j, k = j + 1 ∧ DC (relab hs p) j := by
  obtain ⟨D, d1, d2, d3⟩ := a.ex
  have hx : hs.getD p.1 0 ∈ D := (d2 _).mpr (getD_mem' h1)
  have hlen := List.length_erase_of_mem hx
  have hpos := List.length_pos_of_mem hx
  refine ⟨k - 1, by omega, D.erase (hs.getD p.1 0), d1.erase _, fun z => ?_, by omega⟩
  rw [d1.mem_erase_iff, d2]
  constructor
  · rintro ⟨hne, hz⟩
    exact List.mem_map.mpr ⟨z, hz, if_neg hne⟩
  · intro hz
    refine ⟨?_, relab_mem h2 hz⟩
    obtain ⟨y, hy, rfl⟩ := List.mem_map.mp hz
    split
    · exact Ne.symm h
    · assumption
end Ink

namespace Ink
/-! ### points, ropes, faces and pieces -/
theorem prs_below {rs : Rs} {n : Nat} (d : Dr rs n) : Below rs.length (prs rs n) := fun p hp => by
  obtain ⟨k, hk, rfl⟩ := List.mem_map.mp hp
  have := List.mem_range.mp hk
  exact ⟨pt_lt ((d.mem _).mpr (by omega)), pt_lt ((d.mem _).mpr (by omega))⟩
def lab (rs : Rs) (n : Nat) (i : Nat) : Int := (heads rs.length (prs rs n)).getD i 0
/-- the points of an end and of the one across have one label -/
theorem lab_acr {rs : Rs} {n : Nat} (d : Dr rs n) {e : Int} (he : 0 ≤ e ∧ e < (n : Int)) : lab rs n (pt rs (acr e)) = lab rs n (pt rs e) := by
  have hk : (e / 2).toNat < n / 2 := by have := d.even; omega
  have hm : (pt rs (2 * ((e / 2).toNat : Int)), pt rs (2 * ((e / 2).toNat : Int) + 1)) ∈ prs rs n := List.mem_map.mpr ⟨_, List.mem_range.mpr hk, rfl⟩
  have h := heads_pair (prs_below d) _ hm
  have h' : lab rs n (pt rs (2 * ((e / 2).toNat : Int))) = lab rs n (pt rs (2 * ((e / 2).toNat : Int) + 1)) := h
  by_cases h2 : e % 2 = 0
  · have e1 : 2 * ((e / 2).toNat : Int) = e := by omega
    have e2 : acr e = e + 1 := by unfold acr; omega
    rw [e1] at h'
    rw [e2, h']
  · have e1 : 2 * ((e / 2).toNat : Int) + 1 = e := by omega
    have e2 : acr e = 2 * ((e / 2).toNat : Int) := by unfold acr; omega
    rw [e1] at h'
    rw [e2, h']
theorem lab_stp {rs : Rs} {n : Nat} (d : Dr rs n) {e : Int} (he : 0 ≤ e ∧ e < (n : Int)) : lab rs n (pt rs (stp rs e)) = lab rs n (pt rs e) := by
  show lab rs n (pt rs (nextIn rs (acr e))) = _
  rw [pt_next d.nd ((d.mem _).mpr (acr_lt d.even he.1 he.2)), lab_acr d he]
/-- on one face: on one piece -/
theorem SameFace.lab {rs : Rs} {n : Nat} {h t : Int} (d : Dr rs n) (h0 : 0 ≤ h ∧ h < n) (t0 : 0 ≤ t ∧ t < n) (s : SameFace rs h t) : Ink.lab rs n (pt rs h) = Ink.lab rs n (pt rs t) := by
  obtain ⟨row, hf, hm⟩ := s
  have hb := (d.mem _).mp (nextIn_mem ((d.mem h).mpr h0))
  obtain ⟨j, rfl, _⟩ := hf.ex
  obtain ⟨k, _, hk⟩ := List.mem_map.mp hm
  have key : ∀ k, Ink.lab rs n (pt rs (itr (stp rs) k (nextIn rs h))) = Ink.lab rs n (pt rs h) := by
    intro k
    induction k with
    | zero => show Ink.lab rs n (pt rs (nextIn rs h)) = _; rw [pt_next d.nd ((d.mem h).mpr h0)]
    | succ k ih =>
      show Ink.lab rs n (pt rs (stp rs (itr (stp rs) k (nextIn rs h)))) = _
      rw [lab_stp d (itr_in (fun x h => d.stp_mem h.1 h.2) hb k), ih]
  have := key k
  have hk' : itr (stp rs) k (nextIn rs h) = acr t := hk
  rw [hk', lab_acr d t0] at this
  exact this.symm
theorem row_of {rs : Rs} {n : Nat} (d : Dr rs n) {e : Int} (he : 0 ≤ e ∧ e < (n : Int)) : ∃ r, rs[pt rs e]? = some r ∧ e ∈ r := pt_spec ((d.mem e).mpr he)
/-- rows that keep their ends keep the points -/
theorem prs_same {rs rs' : Rs} {n : Nat} (d : Dr rs n) (nd : rs'.flatten.Nodup) (h : ∀ (i : Nat) (r : List Int), rs[i]? = some r → ∃ r', rs'[i]? = some r' ∧ ∀ z ∈ r, z ∈ r') : ∀ e : Int, 0 ≤ e ∧ e < (n : Int) → pt rs' e = pt rs e := fun e he => by
  obtain ⟨r, hr, hz⟩ := row_of d he
  obtain ⟨r', hr', hs⟩ := h _ r hr
  exact pt_uniq nd hr' (hs e hz)
theorem prs_two {rs rs' : Rs} {n : Nat} (d : Dr rs n) (h : ∀ e : Int, 0 ≤ e ∧ e < (n : Int) → pt rs' e = pt rs e) : prs rs' (n + 2) = prs rs n ++ [(pt rs' n, pt rs' ((n : Int) + 1))] := by
  have hn := d.even
  unfold prs
  rw [show (n + 2) / 2 = n / 2 + 1 by omega, List.range_succ, List.map_append]
  congr 1
  · refine List.map_congr_left fun k hk => ?_
    have := List.mem_range.mp hk
    rw [h _ (by omega), h _ (by omega)]
  · have e : 2 * ((n / 2 : Nat) : Int) = n := by omega
    show [(pt rs' (2 * ((n / 2 : Nat) : Int)), pt rs' (2 * ((n / 2 : Nat) : Int) + 1))] = _
    rw [e]
def aln (rs : Rs) : Nat := (rs.filter fun r => decide (r = [])).length
theorem aln_append (a b : Rs) : aln (a ++ b) = aln a + aln b := by unfold aln; rw [List.filter_append, List.length_append]
theorem aln_put (b e : Int) : ∀ rs : Rs, aln (putIn rs b e) = aln rs
  | [] => rfl
  | r :: rs => by
    have ih := aln_put b e rs
    have e1 : putIn (r :: rs) b e = [putRow b e r] ++ putIn rs b e := rfl
    have e2 : r :: rs = [r] ++ rs := rfl
    rw [e1, e2, aln_append, aln_append, ih]
    congr 1
    cases r with
    | nil => rfl
    | cons x t =>
      have : putRow b e (x :: t) ≠ [] := putRow_ne (by simp)
      simp [aln, this]
/-- counts of a drawing: F faces, C pieces -/
structure Cts (rs : Rs) (n F C : Nat) : Prop where
  fcs : ∃ L, Cycs (stp rs) n L ∧ L.length = F
  pcs : DC (heads rs.length (prs rs n)) C
theorem Cts.uniq {rs : Rs} {n F C F' C' : Nat} (a : Cts rs n F C) (b : Cts rs n F' C') : F = F' ∧ C = C' := by
  obtain ⟨L, c, h⟩ := a.fcs
  obtain ⟨M, c', h'⟩ := b.fcs
  exact ⟨by rw [← h, ← h']; exact c.count c', a.pcs.uniq b.pcs⟩
theorem put_row {rs : Rs} {i : Nat} {r : List Int} {b e : Int} (h : rs[i]? = some r) : (putIn rs b e)[i]? = some (putRow b e r) := by unfold putIn; rw [List.getElem?_map, h]; rfl
/-- a tie's two points -/
theorem Dr.tie_pts {rs : Rs} {n : Nat} {h t : Int} (d : Dr rs n) (h0 : 0 ≤ h ∧ h < n) (t0 : 0 ≤ t ∧ t < n) :
    prs (putIn (putIn rs h n) t ((n : Int) + 1)) (n + 2) = prs rs n ++ [(pt rs h, pt rs t)] := by
  have d2 := d.tie h0 t0
  rw [prs_two (rs' := putIn (putIn rs h n) t ((n : Int) + 1)) d (prs_same d d2.nd fun i r hi => ⟨_, put_row (put_row hi), fun z hz => putRow_mem.mpr (.inl (putRow_mem.mpr (.inl hz)))⟩)]
  obtain ⟨r, hr, hz⟩ := row_of d h0
  obtain ⟨q, hq, hy⟩ := row_of d t0
  have e1 : pt (putIn (putIn rs h n) t ((n : Int) + 1)) n = pt rs h := pt_uniq d2.nd (put_row (put_row hr)) (putRow_mem.mpr (.inl (putRow_mem.mpr (.inr ⟨hz, rfl⟩))))
  have e2 : pt (putIn (putIn rs h n) t ((n : Int) + 1)) ((n : Int) + 1) = pt rs t := pt_uniq d2.nd (put_row (put_row hq)) (putRow_mem.mpr (.inr ⟨putRow_mem.mpr (.inl hy), rfl⟩))
  rw [e1, e2]
theorem putIn2_length (rs : Rs) (a b c e : Int) : (putIn (putIn rs a b) c e).length = rs.length := by rw [putIn_length, putIn_length]
/-- what a tie does -/
theorem Cts.tie {rs : Rs} {n F C : Nat} {h t : Int} (d : Dr rs n) (h0 : 0 ≤ h ∧ h < n) (t0 : 0 ≤ t ∧ t < n) (c : Cts rs n F C) :
    ∃ F' C', Cts (putIn (putIn rs h n) t ((n : Int) + 1)) (n + 2) F' C' ∧
      ((SameFace rs h t ∧ F' = F + 1 ∧ C' = C) ∨ (¬ SameFace rs h t ∧ lab rs n (pt rs h) = lab rs n (pt rs t) ∧ F' + 1 = F ∧ C' = C) ∨ (¬ SameFace rs h t ∧ lab rs n (pt rs h) ≠ lab rs n (pt rs t) ∧ F' + 1 = F ∧ C' + 1 = C)) := by
  obtain ⟨L, cL, hL⟩ := c.fcs
  obtain ⟨M, cM, hM⟩ := d.tie_faces h0 t0 cL
  have hp := d.tie_pts h0 t0
  have hl := putIn2_length rs h n t ((n : Int) + 1)
  have hh := heads_length rs.length (prs rs n)
  have b1 := pt_lt ((d.mem _).mpr h0)
  have b2 := pt_lt ((d.mem _).mpr t0)
  by_cases hs : lab rs n (pt rs h) = lab rs n (pt rs t)
  · have pc : DC (heads (putIn (putIn rs h n) t ((n : Int) + 1)).length (prs (putIn (putIn rs h n) t ((n : Int) + 1)) (n + 2))) C := by
      rw [hp, hl, heads_snoc, relab_id (p := (pt rs h, pt rs t)) (hs := heads rs.length (prs rs n)) hs]
      exact c.pcs
    rcases hM with ⟨s, hm⟩ | ⟨s, hm⟩
    · exact ⟨M.length, C, ⟨⟨M, cM, rfl⟩, pc⟩, .inl ⟨s, by omega, rfl⟩⟩
    · exact ⟨M.length, C, ⟨⟨M, cM, rfl⟩, pc⟩, .inr (.inl ⟨s, hs, by omega, rfl⟩)⟩
  · obtain ⟨j, ej, pj⟩ := c.pcs.relab (p := (pt rs h, pt rs t)) (by omega) (by omega) hs
    have pc : DC (heads (putIn (putIn rs h n) t ((n : Int) + 1)).length (prs (putIn (putIn rs h n) t ((n : Int) + 1)) (n + 2))) j := by
      rw [hp, hl, heads_snoc]
      exact pj
    rcases hM with ⟨s, hm⟩ | ⟨s, hm⟩
    · exact absurd (s.lab d h0 t0) hs
    · exact ⟨M.length, j, ⟨⟨M, cM, rfl⟩, pc⟩, .inr (.inr ⟨s, hs, by omega, by omega⟩)⟩
theorem prs_app {rs ts : Rs} {n : Nat} (d : Dr rs n) (nd : (rs ++ ts).flatten.Nodup) : ∀ e : Int, 0 ≤ e ∧ e < (n : Int) → pt (rs ++ ts) e = pt rs e :=
  prs_same d nd fun i r hi => ⟨r, by rw [List.getElem?_append_left (List.getElem?_eq_some_iff.mp hi).1]; exact hi, fun z hz => hz⟩
theorem Cts.alone {rs : Rs} {n F C : Nat} (d : Dr rs n) (c : Cts rs n F C) : Cts (rs ++ [[]]) n F (C + 1) := by
  obtain ⟨L, cL, hL⟩ := c.fcs
  refine ⟨⟨L, d.alone_faces cL, hL⟩, ?_⟩
  have e : prs (rs ++ [[]]) n = prs rs n := by
    unfold prs
    refine List.map_congr_left fun k hk => ?_
    have := List.mem_range.mp hk
    have hn := d.even
    rw [prs_app d d.alone.nd _ (by omega), prs_app d d.alone.nd _ (by omega)]
  rw [e, List.length_append, List.length_singleton, heads_more (prs_below d)]
  exact c.pcs.snoc fun z => by have := heads_mem (prs_below d) _ z; omega
theorem Below.mono {m m' : Nat} {ps : List (Nat × Nat)} (h : Below m ps) (hm : m ≤ m') : Below m' ps := fun p hp => by have := h p hp; omega
theorem Cts.leaf {rs : Rs} {n F C : Nat} {h : Int} (d : Dr rs n) (h0 : 0 ≤ h ∧ h < n) (c : Cts rs n F C) : Cts (putIn rs h n ++ [[(n : Int) + 1]]) (n + 2) F C := by
  obtain ⟨L, cL, hL⟩ := c.fcs
  obtain ⟨M, cM, hM⟩ := d.leaf_faces h0 cL
  have d2 := d.leaf h0
  have hl : (putIn rs h n).length = rs.length := putIn_length ..
  have hrow : ∀ (i : Nat) (r : List Int), rs[i]? = some r → (putIn rs h n ++ [[(n : Int) + 1]])[i]? = some (putRow h n r) := fun i r hi => by
    rw [List.getElem?_append_left (by rw [hl]; exact (List.getElem?_eq_some_iff.mp hi).1)]
    exact put_row hi
  obtain ⟨r, hr, hz⟩ := row_of d h0
  have e1 : pt (putIn rs h n ++ [[(n : Int) + 1]]) n = pt rs h := pt_uniq d2.nd (hrow _ _ hr) (putRow_mem.mpr (.inr ⟨hz, rfl⟩))
  have e2 : pt (putIn rs h n ++ [[(n : Int) + 1]]) ((n : Int) + 1) = rs.length := pt_uniq d2.nd (r := [(n : Int) + 1]) (by rw [← hl, List.getElem?_append_right (Nat.le_refl _), Nat.sub_self]; rfl) (by simp)
  have hp := prs_two (rs' := putIn rs h n ++ [[(n : Int) + 1]]) d (prs_same d d2.nd fun i r hi => ⟨_, hrow i r hi, fun z hz => putRow_mem.mpr (.inl hz)⟩)
  refine ⟨⟨M, cM, by omega⟩, ?_⟩
  have b1 := pt_lt ((d.mem _).mpr h0)
  have hh := heads_length rs.length (prs rs n)
  rw [hp, e1, e2, heads_snoc, List.length_append, List.length_singleton, hl, heads_more (prs_below d)]
  have nw : ((rs.length : Nat) : Int) ∉ heads rs.length (prs rs n) := fun z => by have := heads_mem (prs_below d) _ z; omega
  have g1 : (heads rs.length (prs rs n) ++ [((rs.length : Nat) : Int)]).getD (pt rs h) 0 = (heads rs.length (prs rs n)).getD (pt rs h) 0 := by
    rw [List.getD_eq_getElem?_getD, List.getD_eq_getElem?_getD, List.getElem?_append_left (by omega)]
  have g2 : (heads rs.length (prs rs n) ++ [((rs.length : Nat) : Int)]).getD rs.length 0 = ((rs.length : Nat) : Int) := by
    rw [List.getD_eq_getElem?_getD, List.getElem?_append_right (by omega), hh, Nat.sub_self]
    rfl
  obtain ⟨j, ej, pj⟩ := (c.pcs.snoc nw).relab (p := (pt rs h, rs.length)) (by rw [List.length_append]; omega) (by rw [List.length_append]; simp; omega) (by
    show (heads rs.length (prs rs n) ++ [((rs.length : Nat) : Int)]).getD (pt rs h) 0 ≠ (heads rs.length (prs rs n) ++ [((rs.length : Nat) : Int)]).getD rs.length 0
    rw [g1, g2]
    exact fun z => nw (z ▸ getD_mem' (by omega)))
  have : j = C := by omega
  rw [← this]
  exact pj
theorem Cts.apart {rs : Rs} {n F C : Nat} (d : Dr rs n) (c : Cts rs n F C) : Cts (rs ++ [[(n : Int)], [(n : Int) + 1]]) (n + 2) (F + 1) (C + 1) := by
  obtain ⟨L, cL, hL⟩ := c.fcs
  have d2 := d.apart
  have e1 : pt (rs ++ [[(n : Int)], [(n : Int) + 1]]) n = rs.length := pt_uniq d2.nd (r := [(n : Int)]) (by rw [List.getElem?_append_right (Nat.le_refl _), Nat.sub_self]; rfl) (by simp)
  have e2 : pt (rs ++ [[(n : Int)], [(n : Int) + 1]]) ((n : Int) + 1) = rs.length + 1 := pt_uniq d2.nd (r := [(n : Int) + 1]) (by rw [List.getElem?_append_right (Nat.le_succ _), show (rs.length).succ - rs.length = 1 by omega]; rfl) (by simp)
  have hp := prs_two (rs' := rs ++ [[(n : Int)], [(n : Int) + 1]]) d (prs_app d d2.nd)
  refine ⟨⟨_, d.apart_faces cL, by rw [List.length_cons, hL]⟩, ?_⟩
  have hh := heads_length rs.length (prs rs n)
  have hb := prs_below d
  rw [hp, e1, e2, heads_snoc, List.length_append, show ([[(n : Int)], [(n : Int) + 1]] : Rs).length = 2 from rfl, heads_more (hb.mono (Nat.le_succ _)), heads_more hb]
  have nw : ((rs.length : Nat) : Int) ∉ heads rs.length (prs rs n) := fun z => by have := heads_mem hb _ z; omega
  have nw2 : ((rs.length + 1 : Nat) : Int) ∉ heads rs.length (prs rs n) ++ [((rs.length : Nat) : Int)] := fun z => by
    rcases List.mem_append.mp z with z | z
    · have := heads_mem hb _ z; omega
    · have : ((rs.length + 1 : Nat) : Int) = ((rs.length : Nat) : Int) := by simpa using z
      omega
  have g1 : (heads rs.length (prs rs n) ++ [((rs.length : Nat) : Int)] ++ [((rs.length + 1 : Nat) : Int)]).getD rs.length 0 = ((rs.length : Nat) : Int) := by
    rw [List.getD_eq_getElem?_getD, List.append_assoc, List.getElem?_append_right (by omega), hh, Nat.sub_self]
    rfl
  have g2 : (heads rs.length (prs rs n) ++ [((rs.length : Nat) : Int)] ++ [((rs.length + 1 : Nat) : Int)]).getD (rs.length + 1) 0 = ((rs.length + 1 : Nat) : Int) := by
    rw [List.getD_eq_getElem?_getD, List.append_assoc, List.getElem?_append_right (by omega), hh, Nat.add_sub_cancel_left]
    rfl
  obtain ⟨j, ej, pj⟩ := ((c.pcs.snoc nw).snoc nw2).relab (p := (rs.length, rs.length + 1)) (by simp; omega) (by simp; omega) (by
    show (heads rs.length (prs rs n) ++ [((rs.length : Nat) : Int)] ++ [((rs.length + 1 : Nat) : Int)]).getD rs.length 0 ≠ (heads rs.length (prs rs n) ++ [((rs.length : Nat) : Int)] ++ [((rs.length + 1 : Nat) : Int)]).getD (rs.length + 1) 0
    rw [g1, g2]
    omega)
  have : j = C + 1 := by omega
  rw [← this]
  exact pj
theorem Cts.two : Cts [[0], [1]] 2 1 1 := by
  refine ⟨⟨[[0, 1]], ⟨fun r hr => ?_, by decide, fun z => by simp; omega⟩, rfl⟩, ⟨[1], by decide, fun z => ?_, rfl⟩⟩
  · have : r = [0, 1] := by simpa using hr
    subst this
    exact Cyc.of (by simp) (by decide) ⟨by decide, by decide, trivial⟩
  · have : heads ([[0], [1]] : Rs).length (prs [[0], [1]] 2) = [1, 1] := by decide
    rw [this]
    simp
theorem Cts.one : Cts [[0, 1]] 2 2 1 := by
  refine ⟨⟨[[0], [1]], ⟨fun r hr => ?_, by decide, fun z => by simp; omega⟩, rfl⟩, ⟨[0], by decide, fun z => ?_, rfl⟩⟩
  · have : r = [0] ∨ r = [1] := by simpa using hr
    rcases this with rfl | rfl
    · exact Cyc.of (by simp) (by decide) ⟨by decide, trivial⟩
    · exact Cyc.of (by simp) (by decide) ⟨by decide, trivial⟩
  · have : heads ([[0, 1]] : Rs).length (prs [[0, 1]] 2) = [0] := by decide
    rw [this]
theorem DC.nums (m : Nat) : DC (Ink.nums m) m := ⟨Ink.nums m, by
  unfold Ink.nums
  rw [List.nodup_iff_pairwise_ne, List.pairwise_map]
  exact List.Pairwise.imp (fun h => by omega) (List.pairwise_lt_range (n := m)), fun _ => Iff.rfl, nums_length m⟩
theorem Cts.bare (m : Nat) : Cts (List.replicate m []) 0 0 m := by
  refine ⟨⟨[], ⟨fun r hr => by (cases hr), List.nodup_nil, fun z => ?_⟩, rfl⟩, ?_⟩
  · constructor
    · intro h; cases h
    · intro h; omega
  · have : heads (List.replicate m ([] : List Int)).length (prs (List.replicate m []) 0) = Ink.nums m := by rw [List.length_replicate]; rfl
    rw [this]
    exact DC.nums m
/-- twice the handles, never below nought; nought where each rope was drawn on one face -/
theorem Made.euler {any : Prop} {rs : Rs} {n : Nat} (m : Made any rs n) : ∃ F C, Cts rs n F C ∧ rs.length + F + aln rs ≤ 2 * C + n / 2 ∧ (¬ any → rs.length + F + aln rs = 2 * C + n / 2) := by
  induction m with
  | two => exact ⟨1, 1, .two, by decide, fun _ => by decide⟩
  | one => exact ⟨2, 1, .one, by decide, fun _ => by decide⟩
  | apart m ih =>
    obtain ⟨F, C, c, h1, h2⟩ := ih
    rename_i rs n
    have e : aln [[(n : Int)], [(n : Int) + 1]] = 0 := rfl
    refine ⟨F + 1, C + 1, c.apart m.dr, ?_, fun z => ?_⟩
    · rw [List.length_append, aln_append, e]
      show rs.length + 2 + _ + _ ≤ _
      omega
    · have := h2 z
      rw [List.length_append, aln_append, e]
      show rs.length + 2 + _ + _ = _
      omega
  | alone m ih =>
    obtain ⟨F, C, c, h1, h2⟩ := ih
    rename_i rs n
    have e : aln [([] : List Int)] = 1 := rfl
    refine ⟨F, C + 1, c.alone m.dr, ?_, fun z => ?_⟩
    · rw [List.length_append, aln_append, e]
      show rs.length + 1 + _ + _ ≤ _
      omega
    · have := h2 z
      rw [List.length_append, aln_append, e]
      show rs.length + 1 + _ + _ = _
      omega
  | leaf m hh ih =>
    obtain ⟨F, C, c, h1, h2⟩ := ih
    rename_i rs n h
    have e : aln [[(n : Int) + 1]] = 0 := rfl
    refine ⟨F, C, c.leaf m.dr hh, ?_, fun z => ?_⟩
    · rw [List.length_append, aln_append, e, aln_put, putIn_length]
      show rs.length + 1 + _ + _ ≤ _
      omega
    · have := h2 z
      rw [List.length_append, aln_append, e, aln_put, putIn_length]
      show rs.length + 1 + _ + _ = _
      omega
  | tie m hh ht how ih =>
    obtain ⟨F, C, c, h1, h2⟩ := ih
    rename_i rs n h t
    obtain ⟨F', C', c', k⟩ := c.tie m.dr hh ht
    refine ⟨F', C', c', ?_, fun z => ?_⟩
    · rw [putIn2_length, aln_put, aln_put]
      rcases k with ⟨_, k1, k2⟩ | ⟨_, _, k1, k2⟩ | ⟨_, _, k1, k2⟩ <;> omega
    · have := h2 z
      have s : SameFace rs h t := by
        rcases how with q | ⟨row, y, f, hy, rfl⟩
        · exact absurd q z
        · exact ⟨row, f, by rw [acr_acr]; exact hy⟩
      rw [putIn2_length, aln_put, aln_put]
      rcases k with ⟨_, k1, k2⟩ | ⟨no, _⟩ | ⟨no, _⟩
      · omega
      · exact absurd s no
      · exact absurd s no
end Ink

namespace Ink
/-! ### the groups, each from its least point on -/
def cls (lb : Nat → Int) (m : Nat) (i : Nat) : List Int := (nums m).filter fun j => decide (lb j.toNat = lb i)
theorem cls_mem {lb : Nat → Int} {m i : Nat} {z : Int} : z ∈ cls lb m i ↔ (0 ≤ z ∧ z < (m : Int)) ∧ lb z.toNat = lb i := by
  unfold cls nums
  rw [List.mem_filter, List.mem_map, decide_eq_true_eq]
  constructor
  · rintro ⟨⟨k, hk, rfl⟩, h⟩
    have := List.mem_range.mp hk
    exact ⟨by omega, h⟩
  · rintro ⟨h1, h2⟩
    exact ⟨⟨z.toNat, List.mem_range.mpr (by omega), by omega⟩, h2⟩
theorem nums_sorted (m : Nat) : (nums m).Pairwise (· < ·) := by
  unfold nums
  rw [List.pairwise_map]
  exact List.Pairwise.imp (fun h => by omega) (List.pairwise_lt_range (n := m))
theorem cls_sorted (lb : Nat → Int) (m i : Nat) : (cls lb m i).Pairwise (· < ·) := (nums_sorted m).filter _
inductive Grp (lb : Nat → Int) (m : Nat) : Nat → Rs → Prop
  | zero : Grp lb m 0 []
  | skip {i : Nat} {gs : Rs} : Grp lb m i gs → (i : Int) ∈ gs.flatten → Grp lb m (i + 1) gs
  | add {i : Nat} {gs : Rs} : Grp lb m i gs → (i : Int) ∉ gs.flatten → Grp lb m (i + 1) (gs ++ [cls lb m i])
theorem Grp.uniq {lb : Nat → Int} {m : Nat} : ∀ {i : Nat} {gs gs' : Rs}, Grp lb m i gs → Grp lb m i gs' → gs = gs' := by
  intro i gs gs' h
  induction h generalizing gs' with
  | zero => intro h'; cases h'; rfl
  | skip _ hm ih =>
    intro h'
    cases h' with
    | skip h2 _ => exact ih h2
    | add h2 hn => exact absurd (ih h2 ▸ hm) hn
  | add _ hn ih =>
    intro h'
    cases h' with
    | skip h2 hm => exact absurd (ih h2 ▸ hm) hn
    | add h2 _ => rw [ih h2]
theorem Grp.lower {lb : Nat → Int} {m : Nat} {i : Nat} {gs : Rs} (h : Grp lb m i gs) : ∀ y : Int, y ∈ gs.flatten → ∃ k, k < i ∧ lb k = lb y.toNat := by
  induction h with
  | zero => intro y hy; cases hy
  | skip _ _ ih => intro y hy; obtain ⟨k, h1, h2⟩ := ih y hy; exact ⟨k, by omega, h2⟩
  | add _ _ ih =>
    rename_i i0 gs0 _ _
    intro y hy
    rw [List.flatten_append] at hy
    rcases List.mem_append.mp hy with q | q
    · obtain ⟨k, h1, h2⟩ := ih y q; exact ⟨k, by omega, h2⟩
    · have q' : y ∈ cls lb m i0 := by simpa using q
      exact ⟨i0, by omega, (cls_mem.mp q').2.symm⟩
theorem Grp.mem {lb : Nat → Int} {m i : Nat} {gs : Rs} (h : Grp lb m i gs) (hi : i ≤ m) (z : Int) : z ∈ gs.flatten ↔ (0 ≤ z ∧ z < (m : Int)) ∧ ∃ j, j < i ∧ lb j = lb z.toNat := by
  induction h with
  | zero =>
    constructor
    · intro h; cases h
    · rintro ⟨_, j, hj, _⟩; omega
  | skip hg hm ih =>
    rename_i i gs
    rw [ih (by omega)]
    constructor
    · rintro ⟨h1, j, h2, h3⟩
      exact ⟨h1, j, by omega, h3⟩
    · rintro ⟨h1, j, h2, h3⟩
      refine ⟨h1, ?_⟩
      by_cases hj : j < i
      · exact ⟨j, hj, h3⟩
      · have hji : j = i := by omega
        subst hji
        obtain ⟨k, k1, k2⟩ := hg.lower _ hm
        exact ⟨k, k1, by rw [k2, ← h3]; simp⟩
  | add _ hn ih =>
    rename_i i gs _
    rw [List.flatten_append, List.mem_append, ih (by omega)]
    have e : ([cls lb m i] : Rs).flatten = cls lb m i := by simp
    rw [e, cls_mem]
    constructor
    · rintro (⟨h1, j, h2, h3⟩ | ⟨h1, h2⟩)
      · exact ⟨h1, j, by omega, h3⟩
      · exact ⟨h1, i, by omega, h2.symm⟩
    · rintro ⟨h1, j, h2, h3⟩
      by_cases hj : j < i
      · exact .inl ⟨h1, j, hj, h3⟩
      · have hji : j = i := by omega
        subst hji
        exact .inr ⟨h1, h3.symm⟩
/-- how many groups: how many labels -/
theorem Grp.count {lb : Nat → Int} {m i : Nat} {gs : Rs} (h : Grp lb m i gs) (hi : i ≤ m) : ∃ D : List Int, D.Nodup ∧ (∀ z, z ∈ D ↔ ∃ j, j < i ∧ lb j = z) ∧ D.length = gs.length := by
  induction h with
  | zero => exact ⟨[], List.nodup_nil, fun z => ⟨(fun h => by cases h), fun ⟨j, hj, _⟩ => by omega⟩, rfl⟩
  | skip hg hm ih =>
    rename_i i gs
    obtain ⟨D, d1, d2, d3⟩ := ih (by omega)
    refine ⟨D, d1, fun z => ?_, d3⟩
    rw [d2]
    constructor
    · rintro ⟨j, h1, h2⟩; exact ⟨j, by omega, h2⟩
    · rintro ⟨j, h1, h2⟩
      by_cases hj : j < i
      · exact ⟨j, hj, h2⟩
      · have hji : j = i := by omega
        subst hji
        obtain ⟨_, k, k1, k2⟩ := (hg.mem (by omega) _).mp hm
        exact ⟨k, k1, by rw [k2, ← h2]; simp⟩
  | add hg hn ih =>
    rename_i i gs
    obtain ⟨D, d1, d2, d3⟩ := ih (by omega)
    refine ⟨D ++ [lb i], List.nodup_append.mpr ⟨d1, by simp, fun a ha b hb e => ?_⟩, fun z => ?_, by rw [List.length_append, List.length_append, d3]; rfl⟩
    · have hb' : b = lb i := by simpa using hb
      obtain ⟨j, j1, j2⟩ := (d2 a).mp ha
      exact hn ((hg.mem (by omega) _).mpr ⟨by omega, j, j1, by rw [j2, e, hb']; simp⟩)
    · rw [List.mem_append, d2]
      constructor
      · rintro (⟨j, h1, h2⟩ | h)
        · exact ⟨j, by omega, h2⟩
        · have : z = lb i := by simpa using h
          exact ⟨i, by omega, this.symm⟩
      · rintro ⟨j, h1, h2⟩
        by_cases hj : j < i
        · exact .inl ⟨j, hj, h2⟩
        · have hji : j = i := by omega
          subst hji
          exact .inr (by simp [h2])
theorem Grp.le {lb : Nat → Int} {m i : Nat} {gs : Rs} (h : Grp lb m i gs) : gs.length ≤ i := by
  induction h with
  | zero => exact Nat.le_refl _
  | skip _ _ ih => omega
  | add _ _ ih => rw [List.length_append]; show _ + 1 ≤ _; omega
theorem pairwise_lt_nodup {l : List Int} (h : l.Pairwise (· < ·)) : l.Nodup := List.nodup_iff_pairwise_ne.mpr (h.imp fun q => by omega)
/-- the labels of a drawing's points: as many as groups -/
theorem Grp.dc {rs : Rs} {n : Nat} {gs : Rs} (d : Dr rs n) (h : Grp (lab rs n) rs.length rs.length gs) : DC (heads rs.length (prs rs n)) gs.length := by
  obtain ⟨D, d1, d2, d3⟩ := h.count (Nat.le_refl _)
  refine ⟨D, d1, fun z => ?_, d3⟩
  rw [d2]
  have hl := heads_length rs.length (prs rs n)
  constructor
  · rintro ⟨j, h1, rfl⟩
    exact getD_mem' (by omega)
  · intro hz
    obtain ⟨j, hj⟩ := List.mem_iff_getElem?.mp hz
    have hjl := (List.getElem?_eq_some_iff.mp hj).1
    refine ⟨j, by omega, ?_⟩
    unfold Ink.lab
    rw [List.getD_eq_getElem?_getD, hj]
    rfl
end Ink

namespace Ink
/-! ### an end taken out -/
def skp (e : Int) (g : Int → Int) (x : Int) : Int := if g x = e then g e else g x
theorem Cyc.maps {f : Int → Int} {r : List Int} (c : Cyc f r) {x : Int} (hx : x ∈ r) : f x ∈ r := by
  obtain ⟨i, hi⟩ := List.mem_iff_getElem?.mp hx
  exact List.mem_of_getElem? (c.go i x hi)
theorem Cyc.skp_out {g : Int → Int} {r : List Int} {e : Int} (c : Cyc g r) (he : e ∉ r) : Cyc (skp e g) r :=
  c.congr fun x hx => by unfold skp; rw [if_neg (show ¬ g x = e from fun z => he (z ▸ c.maps hx))]
theorem Cyc.skp_first {g : Int → Int} {w : List Int} {e : Int} (c : Cyc g (e :: w)) (hw : w ≠ []) : Cyc (skp e g) w := by
  obtain ⟨he, nd⟩ := List.nodup_cons.mp c.nd
  have p := c.pth
  obtain ⟨p1, p2⟩ := p
  obtain ⟨w0, l, rfl⟩ : ∃ w0 l, w = w0 ++ [l] := ⟨w.dropLast, w.getLast hw, (List.dropLast_concat_getLast hw).symm⟩
  have p2' : Pth g (w0 ++ [l]) e := p2
  obtain ⟨p3, p4, _⟩ := Pth.append.mp p2'
  have p3' : Pth g w0 l := p3
  have p4' : g l = e := p4
  refine Cyc.of hw nd (Pth.append.mpr ⟨?_, ?_, trivial⟩)
  · show Pth (skp e g) w0 l
    refine p3'.congr fun x hx => ?_
    unfold skp
    rw [if_neg]
    intro z
    have hxm : x ∈ w0 ++ [l] := by simp [hx]
    have hne : x ≠ l := by
      obtain ⟨_, _, n3⟩ := List.nodup_append.mp nd
      exact n3 x hx l (by simp)
    -- the end before e is l alone
    obtain ⟨i, hi⟩ := List.mem_iff_getElem?.mp (show x ∈ e :: (w0 ++ [l]) from List.mem_cons_of_mem _ hxm)
    obtain ⟨j, hj⟩ := List.mem_iff_getElem?.mp (show l ∈ e :: (w0 ++ [l]) from by simp)
    have h1 := c.go i x hi
    have h2 := c.go j l hj
    rw [z] at h1
    rw [p4'] at h2
    have hpos := c.pos
    obtain ⟨l1, e1⟩ := List.getElem?_eq_some_iff.mp h1
    obtain ⟨l2, e2⟩ := List.getElem?_eq_some_iff.mp h2
    have hij := (List.getElem_inj c.nd).mp (e1.trans e2.symm)
    have hil := (List.getElem?_eq_some_iff.mp hi).1
    have hjl := (List.getElem?_eq_some_iff.mp hj).1
    have : i = j := by
      by_cases q1 : i + 1 = (e :: (w0 ++ [l])).length
      · by_cases q2 : j + 1 = (e :: (w0 ++ [l])).length
        · omega
        · rw [q1, Nat.mod_self, Nat.mod_eq_of_lt (by omega)] at hij; omega
      · by_cases q2 : j + 1 = (e :: (w0 ++ [l])).length
        · rw [q2, Nat.mod_self, Nat.mod_eq_of_lt (by omega)] at hij; omega
        · rw [Nat.mod_eq_of_lt (by omega), Nat.mod_eq_of_lt (by omega)] at hij; omega
    subst this
    rw [hi] at hj
    exact hne (Option.some.inj hj)
  · show skp e g l = hd (w0 ++ [l])
    unfold skp
    rw [if_pos p4', p1]
    cases w0 <;> rfl
theorem Cyc.skp {g : Int → Int} {r : List Int} {e : Int} (c : Cyc g r) (he : e ∈ r) (hr : r.erase e ≠ []) : Cyc (skp e g) (r.erase e) := by
  obtain ⟨a, b, rfl⟩ := List.append_of_mem he
  have hea : e ∉ a := fun z => (List.nodup_append.mp c.nd).2.2 e z e List.mem_cons_self rfl
  have e1 : (a ++ e :: b).erase e = a ++ b := by rw [List.erase_append_right _ hea, List.erase_cons_head]
  rw [e1] at hr ⊢
  have c1 : Cyc g (e :: (b ++ a)) := by
    have := c.rot (a := a) (b := e :: b)
    simpa using this
  have := c1.skp_first (w := b ++ a) (fun z => hr (by
    have := List.append_eq_nil_iff.mp z
    rw [this.1, this.2]; rfl))
  exact this.rot (a := b) (b := a)
def delIn (rs : Rs) (e : Int) : Rs := rs.map fun r => r.erase e
theorem del_flat {e : Int} : ∀ rs : Rs, rs.flatten.Nodup → (delIn rs e).flatten = rs.flatten.erase e
  | [], _ => rfl
  | r :: rs, nd => by
    rw [List.flatten_cons] at nd
    obtain ⟨n1, n2, n3⟩ := List.nodup_append.mp nd
    show (r.erase e :: delIn rs e).flatten = (r :: rs).flatten.erase e
    rw [List.flatten_cons, List.flatten_cons, del_flat rs n2]
    by_cases h : e ∈ r
    · have h2 : e ∉ rs.flatten := fun z => n3 e h e z rfl
      rw [List.erase_append_left _ h, List.erase_of_not_mem h2]
    · rw [List.erase_append_right _ h, List.erase_of_not_mem h]
/-- the last end taken out -/
theorem Cycs.del {g : Int → Int} {rs : Rs} {n : Nat} (c : Cycs g (n + 1) (ne rs)) : Cycs (Ink.skp n g) n (ne (delIn rs n)) := by
  have nd : rs.flatten.Nodup := by rw [← flat_noempty]; exact c.nd
  have mm : ∀ z : Int, z ∈ rs.flatten ↔ 0 ≤ z ∧ z < ((n + 1 : Nat) : Int) := fun z => by rw [← flat_noempty]; exact c.mem z
  refine ⟨fun r hr => ?_, ?_, fun z => ?_⟩
  · obtain ⟨h1, h2⟩ := List.mem_filter.mp hr
    obtain ⟨q, hq, rfl⟩ := List.mem_map.mp h1
    have hne := of_decide_eq_true h2
    have hq0 : q ≠ [] := fun z => hne (by rw [z]; rfl)
    have cq := c.cyc q (List.mem_filter.mpr ⟨hq, decide_eq_true hq0⟩)
    by_cases hm : (n : Int) ∈ q
    · exact cq.skp hm hne
    · rw [List.erase_of_not_mem hm]
      exact cq.skp_out hm
  · rw [flat_noempty, del_flat _ nd]
    exact nd.erase _
  · rw [flat_noempty, del_flat _ nd, nd.mem_erase_iff, mm]
    omega
/-- the last rope taken out -/
def offLast (rs : Rs) (n : Nat) : Rs := delIn (delIn rs ((n : Int) + 1)) n
theorem Dr.off_cycs {rs : Rs} {n : Nat} (d : Dr rs (n + 2)) : Cycs (skp n (skp ((n : Int) + 1) (nextIn rs))) n (ne (offLast rs n)) := by
  have c1 : Cycs (skp (((n + 1 : Nat)) : Int) (nextIn rs)) (n + 1) (ne (delIn rs ((n + 1 : Nat) : Int))) := Cycs.del (n := n + 1) d.cycs
  have e1 : ((n + 1 : Nat) : Int) = (n : Int) + 1 := by omega
  rw [e1] at c1
  exact c1.del
theorem Dr.off {rs : Rs} {n : Nat} (d : Dr rs (n + 2)) : Dr (offLast rs n) n := by
  have c := d.off_cycs
  have dr := c.dr (by have := d.even; omega)
  exact ⟨by rw [← flat_noempty]; exact dr.nd, fun z => by rw [← flat_noempty]; exact dr.mem z, by rw [← flat_noempty]; exact dr.len, dr.even⟩
theorem Dr.off_next {rs : Rs} {n : Nat} (d : Dr rs (n + 2)) {e : Int} (he : 0 ≤ e ∧ e < (n : Int)) : nextIn (offLast rs n) e = skp n (skp ((n : Int) + 1) (nextIn rs)) e := d.off_cycs.nextNe he
theorem Dr.off_stp {rs : Rs} {n : Nat} (d : Dr rs (n + 2)) {z : Int} (hz : 0 ≤ z ∧ z < (n : Int)) : stp (offLast rs n) z = skp n (skp ((n : Int) + 1) (nextIn rs)) (acr z) :=
  d.off_next (acr_lt (n := n) (by have := d.even; omega) hz.1 hz.2)
end Ink

namespace Ink
/-! ### the faces with the last rope taken out -/
theorem Dr.pre_stp {rs : Rs} {n : Nat} (d : Dr rs n) {e : Int} (he : 0 ≤ e ∧ e < (n : Int)) : ∃ x : Int, (0 ≤ x ∧ x < (n : Int)) ∧ stp rs x = e := by
  obtain ⟨k, k0, _, hk⟩ := go_round (f := stp rs) (n := n) (fun x h => d.stp_mem h.1 h.2) (fun x y hx hy h => d.stp_inj hx hy h) he
  obtain ⟨j, rfl⟩ : ∃ j, k = j + 1 := ⟨k - 1, by omega⟩
  exact ⟨itr (stp rs) j e, itr_in (fun x h => d.stp_mem h.1 h.2) he j, hk⟩
/-- how the walk without the rope goes, by the walk with it -/
theorem Dr.off_walk {rs : Rs} {n : Nat} (d : Dr rs (n + 2)) {z : Int} (hz : 0 ≤ z ∧ z < (n : Int)) :
    (stp rs z ≠ n → stp rs z ≠ (n : Int) + 1 → stp (offLast rs n) z = stp rs z) ∧
    (stp rs z = n → stp (offLast rs n) z = if stp rs ((n : Int) + 1) = (n : Int) + 1 then stp rs n else stp rs ((n : Int) + 1)) ∧
    (stp rs z = (n : Int) + 1 → stp rs n ≠ n → stp (offLast rs n) z = stp rs n) ∧
    (stp rs z = (n : Int) + 1 → stp rs n = n → stp (offLast rs n) z = if stp rs ((n : Int) + 1) = (n : Int) + 1 then stp rs n else stp rs ((n : Int) + 1)) := by
  have hev : n % 2 = 0 := by have := d.even; omega
  obtain ⟨an1, an2⟩ := acr_n hev
  have eA : stp rs n = nextIn rs ((n : Int) + 1) := by show nextIn rs (acr n) = _; rw [an1]
  have eB : stp rs ((n : Int) + 1) = nextIn rs n := by show nextIn rs (acr _) = _; rw [an2]
  have e0 : stp rs z = nextIn rs (acr z) := rfl
  rw [d.off_stp hz, eA, eB, e0]
  unfold skp
  refine ⟨fun h1 h2 => ?_, fun h => ?_, fun h h2 => ?_, fun h h2 => ?_⟩
  · rw [if_neg h2, if_neg h1]
  · have hne : ¬ nextIn rs (acr z) = (n : Int) + 1 := by rw [h]; omega
    rw [if_neg hne, if_pos h]
  · rw [if_pos h, if_neg h2]
  · rw [if_pos h, if_pos h2]
/-- F faces without the rope; with it .. -/
theorem Dr.off_faces {rs L : Rs} {n : Nat} (d : Dr rs (n + 2)) (c : Cycs (stp (offLast rs n)) n L) :
    ∃ M, Cycs (stp rs) (n + 2) M ∧
      ((stp rs n = n ∧ stp rs ((n : Int) + 1) = (n : Int) + 1 ∧ M.length = L.length + 2) ∨
       (stp rs n = (n : Int) + 1 ∧ stp rs ((n : Int) + 1) = n ∧ M.length = L.length + 1) ∨
       ((stp rs n = n ∨ stp rs ((n : Int) + 1) = (n : Int) + 1) ∧ ¬ (stp rs n = n ∧ stp rs ((n : Int) + 1) = (n : Int) + 1) ∧ M.length = L.length + 1) ∨
       ((stp rs n = (n : Int) + 1 ∨ stp rs ((n : Int) + 1) = n) ∧ ¬ (stp rs n = (n : Int) + 1 ∧ stp rs ((n : Int) + 1) = n) ∧ M.length = L.length) ∨
       (stp rs n ≠ n ∧ stp rs n ≠ (n : Int) + 1 ∧ stp rs ((n : Int) + 1) ≠ n ∧ stp rs ((n : Int) + 1) ≠ (n : Int) + 1 ∧
        ∃ x y u rest, (0 ≤ x ∧ x < (n : Int)) ∧ (0 ≤ y ∧ y < (n : Int)) ∧ stp rs x = n ∧ stp rs y = (n : Int) + 1 ∧ Cycs (stp (offLast rs n)) n ((u ++ [x]) :: rest) ∧ L.length = rest.length + 1 ∧
          ((y ∈ u ∧ M.length = L.length + 1) ∨ (y ∉ u ∧ M.length + 1 = L.length)))) := by
  have bn : 0 ≤ (n : Int) ∧ (n : Int) < ((n + 2 : Nat) : Int) := by omega
  have bm : 0 ≤ (n : Int) + 1 ∧ (n : Int) + 1 < ((n + 2 : Nat) : Int) := by omega
  have inj : ∀ {a b : Int}, 0 ≤ a ∧ a < ((n + 2 : Nat) : Int) → 0 ≤ b ∧ b < ((n + 2 : Nat) : Int) → stp rs a = stp rs b → a = b := fun ha hb h => d.stp_inj ha hb h
  have big : ∀ {z : Int}, 0 ≤ z ∧ z < (n : Int) → 0 ≤ z ∧ z < ((n + 2 : Nat) : Int) := fun h => by omega
  have old : ∀ {x : Int}, 0 ≤ x ∧ x < ((n + 2 : Nat) : Int) → x ≠ n → x ≠ (n : Int) + 1 → 0 ≤ x ∧ x < (n : Int) := fun h h1 h2 => by omega
  -- a cycle that ends with z, and ends ahead of it
  have one : ∀ {z : Int} (hz : 0 ≤ z ∧ z < (n : Int)) (w : List Int), w ≠ [] → (∀ y ∈ w, y = n ∨ y = (n : Int) + 1) → w.Nodup → stp rs z = hd w → (∀ y : Int, 0 ≤ y ∧ y < n → y ≠ z → stp (offLast rs n) y = stp rs y) →
      Pth (stp rs) w (stp (offLast rs n) z) → ∃ (M0 : Rs), (∀ r ∈ M0, Cyc (stp rs) r) ∧ M0.flatten.Perm (w ++ L.flatten) ∧ M0.length = L.length := by
    intro z hz w hw hwm hwn hzw hno hp
    obtain ⟨u, rest, c1, hl⟩ := c.front hz
    have nd := c1.nd
    rw [List.flatten_cons] at nd
    obtain ⟨nd1, nd2, nd3⟩ := List.nodup_append.mp nd
    obtain ⟨ndu, _, ndx⟩ := List.nodup_append.mp nd1
    have hxu : z ∉ u := fun q => ndx _ q _ (by simp) rfl
    have hxr : z ∉ rest.flatten := fun q => nd3 _ (by simp) _ q rfl
    have hin : ∀ y ∈ u ++ [z], 0 ≤ y ∧ y < (n : Int) := fun y hy => (c1.mem y).mp (by rw [List.flatten_cons]; exact List.mem_append_left _ hy)
    have c0 := c1.cyc _ List.mem_cons_self
    obtain ⟨p1, p2, _⟩ := Pth.append.mp c0.pth
    have p1' : Pth (stp (offLast rs n)) u z := p1
    have p2' : stp (offLast rs n) z = hd (u ++ [z]) := p2
    have pL : L.flatten.Perm ((u ++ [z]) :: rest).flatten := by
      have h1 : L.flatten.Nodup := c.nd
      have h2 := c1.nd
      refine List.perm_iff_count.mpr fun a => ?_
      rw [h1.count, h2.count]
      have : a ∈ L.flatten ↔ a ∈ ((u ++ [z]) :: rest).flatten := by rw [c.mem, c1.mem]
      simp only [this]
    refine ⟨(w ++ (u ++ [z])) :: rest, fun r hr => ?_, ?_, by simp; omega⟩
    · rcases List.mem_cons.mp hr with rfl | hr
      · refine Cyc.of (by simp) (List.nodup_append.mpr ⟨hwn, nd1, fun a ha b hb q => ?_⟩) ?_
        · have h1 := hwm a ha
          have h2 := hin b hb
          omega
        · have hhd : hd (w ++ (u ++ [z])) = hd w := by cases w with
            | nil => exact absurd rfl hw
            | cons a b => rfl
          rw [hhd]
          refine Pth.append.mpr ⟨?_, Pth.append.mpr ⟨?_, ?_, trivial⟩⟩
          · rw [headD_snoc, ← hd_snoc u z 0, ← p2']
            exact hp
          · show Pth (stp rs) u z
            exact p1'.congr fun y hy => hno y (hin y (by simp [hy])) fun q => hxu (q ▸ hy)
          · exact hzw
      · refine (c1.cyc r (List.mem_cons_of_mem _ hr)).congr fun y hy => ?_
        have hy' : y ∈ rest.flatten := List.mem_flatten.mpr ⟨r, hr, hy⟩
        exact hno y ((c1.mem y).mp (by rw [List.flatten_cons]; exact List.mem_append_right _ hy')) fun q => hxr (q ▸ hy')
    · rw [List.flatten_cons, List.append_assoc, ← List.flatten_cons]
      exact pL.symm.append_left w
  by_cases hA : stp rs n = n
  · by_cases hB : stp rs ((n : Int) + 1) = (n : Int) + 1
    · -- both faces of their own
      refine ⟨[(n : Int)] :: [(n : Int) + 1] :: L, c.two (fun r hr => ?_) (.refl _), .inl ⟨hA, hB, rfl⟩⟩
      rcases List.mem_cons.mp hr with rfl | hr
      · exact Cyc.of (by simp) (by simp) ⟨hA, trivial⟩
      · rcases List.mem_cons.mp hr with rfl | hr
        · exact Cyc.of (by simp) (by simp) ⟨hB, trivial⟩
        · refine (c.cyc r hr).congr fun z hz => ?_
          have hz' := (c.mem z).mp (List.mem_flatten.mpr ⟨r, hr, hz⟩)
          refine (d.off_walk hz').1 (fun q => ?_) (fun q => ?_)
          · have := inj (big hz') bn (q.trans hA.symm); omega
          · have := inj (big hz') bm (q.trans hB.symm); omega
    · -- face [n]; y leads to n + 1
      obtain ⟨y, hy, hyn⟩ := d.pre_stp bm
      have hyo : 0 ≤ y ∧ y < (n : Int) := old hy (fun q => by rw [q, hA] at hyn; omega) (fun q => by rw [q] at hyn; exact hB hyn)
      have hval : stp (offLast rs n) y = stp rs ((n : Int) + 1) := by rw [(d.off_walk hyo).2.2.2 hyn hA, if_neg hB]
      obtain ⟨M0, m1, m2, m3⟩ := one hyo [(n : Int) + 1] (by simp) (fun q hq => .inr (by simpa using hq)) (by simp) hyn (fun z hz hne => (d.off_walk hz).1 (fun q => by have := inj (big hz) bn (q.trans hA.symm); omega) (fun q => hne (inj (big hz) hy (q.trans hyn.symm)))) ⟨hval.symm, trivial⟩
      refine ⟨[(n : Int)] :: M0, c.two (fun r hr => ?_) ?_, .inr (.inr (.inl ⟨.inl hA, fun q => hB q.2, by simp [m3]⟩))⟩
      · rcases List.mem_cons.mp hr with rfl | hr
        · exact Cyc.of (by simp) (by simp) ⟨hA, trivial⟩
        · exact m1 r hr
      · rw [List.flatten_cons]
        exact m2.cons _
  · by_cases hB : stp rs ((n : Int) + 1) = (n : Int) + 1
    · obtain ⟨x, hx, hxn⟩ := d.pre_stp bn
      have hxo : 0 ≤ x ∧ x < (n : Int) := old hx (fun q => by rw [q] at hxn; exact hA hxn) (fun q => by rw [q, hB] at hxn; omega)
      have hval : stp (offLast rs n) x = stp rs n := by rw [(d.off_walk hxo).2.1 hxn, if_pos hB]
      obtain ⟨M0, m1, m2, m3⟩ := one hxo [(n : Int)] (by simp) (fun q hq => .inl (by simpa using hq)) (by simp) hxn (fun z hz hne => (d.off_walk hz).1 (fun q => hne (inj (big hz) hx (q.trans hxn.symm))) (fun q => by have := inj (big hz) bm (q.trans hB.symm); omega)) ⟨hval.symm, trivial⟩
      refine ⟨[(n : Int) + 1] :: M0, c.two (fun r hr => ?_) ?_, .inr (.inr (.inl ⟨.inr hB, fun q => hA q.1, by simp [m3]⟩))⟩
      · rcases List.mem_cons.mp hr with rfl | hr
        · exact Cyc.of (by simp) (by simp) ⟨hB, trivial⟩
        · exact m1 r hr
      · rw [List.flatten_cons]
        refine List.Perm.trans (m2.cons _) ?_
        exact List.Perm.swap _ _ _
    · by_cases hA1 : stp rs n = (n : Int) + 1
      · by_cases hB1 : stp rs ((n : Int) + 1) = n
        · refine ⟨[(n : Int), (n : Int) + 1] :: L, c.two (fun r hr => ?_) (.refl _), .inr (.inl ⟨hA1, hB1, rfl⟩)⟩
          rcases List.mem_cons.mp hr with rfl | hr
          · exact Cyc.of (by simp) (by simp; omega) ⟨hA1, hB1, trivial⟩
          · refine (c.cyc r hr).congr fun z hz => ?_
            have hz' := (c.mem z).mp (List.mem_flatten.mpr ⟨r, hr, hz⟩)
            refine (d.off_walk hz').1 (fun q => ?_) (fun q => ?_)
            · have := inj (big hz') bm (q.trans hB1.symm); omega
            · have := inj (big hz') bn (q.trans hA1.symm); omega
        · obtain ⟨x, hx, hxn⟩ := d.pre_stp bn
          have hxo : 0 ≤ x ∧ x < (n : Int) := old hx (fun q => by rw [q] at hxn; exact hA hxn) (fun q => by rw [q] at hxn; exact hB1 hxn)
          have hval : stp (offLast rs n) x = stp rs ((n : Int) + 1) := by rw [(d.off_walk hxo).2.1 hxn, if_neg hB]
          obtain ⟨M0, m1, m2, m3⟩ := one hxo [(n : Int), (n : Int) + 1] (by simp) (fun q hq => by simpa using hq) (by simp; omega) hxn (fun z hz hne => (d.off_walk hz).1 (fun q => hne (inj (big hz) hx (q.trans hxn.symm))) (fun q => by have := inj (big hz) bn (q.trans hA1.symm); omega)) ⟨hA1, hval.symm, trivial⟩
          exact ⟨M0, c.two m1 m2, .inr (.inr (.inr (.inl ⟨.inl hA1, fun q => hB1 q.2, m3⟩)))⟩
      · by_cases hB1 : stp rs ((n : Int) + 1) = n
        · obtain ⟨y, hy, hyn⟩ := d.pre_stp bm
          have hyo : 0 ≤ y ∧ y < (n : Int) := old hy (fun q => by rw [q] at hyn; exact hA1 hyn) (fun q => by rw [q] at hyn; exact hB hyn)
          have hval : stp (offLast rs n) y = stp rs n := (d.off_walk hyo).2.2.1 hyn hA
          obtain ⟨M0, m1, m2, m3⟩ := one hyo [(n : Int) + 1, (n : Int)] (by simp) (fun q hq => (show q = (n : Int) + 1 ∨ q = n by simpa using hq).symm) (by simp; omega) hyn (fun z hz hne => (d.off_walk hz).1 (fun q => by have := inj (big hz) bm (q.trans hB1.symm); omega) (fun q => hne (inj (big hz) hy (q.trans hyn.symm)))) ⟨hB1, hval.symm, trivial⟩
          refine ⟨M0, c.two m1 (m2.trans (List.Perm.swap _ _ _)), .inr (.inr (.inr (.inl ⟨.inr hB1, fun q => hA1 q.1, m3⟩)))⟩
        · obtain ⟨x, hx, hxn⟩ := d.pre_stp bn
          obtain ⟨y, hy, hyn⟩ := d.pre_stp bm
          have hxo : 0 ≤ x ∧ x < (n : Int) := old hx (fun q => by rw [q] at hxn; exact hA hxn) (fun q => by rw [q] at hxn; exact hB1 hxn)
          have hyo : 0 ≤ y ∧ y < (n : Int) := old hy (fun q => by rw [q] at hyn; exact hA1 hyn) (fun q => by rw [q] at hyn; exact hB hyn)
          have vx : stp (offLast rs n) x = stp rs ((n : Int) + 1) := by rw [(d.off_walk hxo).2.1 hxn, if_neg hB]
          have vy : stp (offLast rs n) y = stp rs n := (d.off_walk hyo).2.2.1 hyn hA
          have T : Tied (stp (offLast rs n)) (stp rs) n x y := ⟨hxn, hyn, vy.symm, vx.symm, fun z hz h1 h2 => ((d.off_walk hz).1 (fun q => h1 (inj (big hz) hx (q.trans hxn.symm))) (fun q => h2 (inj (big hz) hy (q.trans hyn.symm)))).symm⟩
          have hxy : x ≠ y := fun q => by rw [q, hyn] at hxn; omega
          obtain ⟨u, rest, c1, hl⟩ := c.front hxo
          obtain ⟨M, cM, hM⟩ := T.count hxy hxo hyo c1
          refine ⟨M, cM, .inr (.inr (.inr (.inr ⟨hA, hA1, hB1, hB, x, y, u, rest, hxo, hyo, hxn, hyn, c1, hl, ?_⟩)))⟩
          rcases hM with ⟨q1, q2⟩ | ⟨q1, q2⟩
          · exact .inl ⟨q1, by omega⟩
          · exact .inr ⟨q1, by omega⟩
end Ink

namespace Ink
/-! ### the counts with the last rope taken out -/
theorem behind_one {r : List Int} {e : Int} (nd : r.Nodup) (he : e ∈ r) : behind r e = e ↔ r.erase e = [] := by
  obtain ⟨a, b, rfl⟩ := List.append_of_mem he
  have hea : e ∉ a := fun z => (List.nodup_append.mp nd).2.2 e z e List.mem_cons_self rfl
  rw [List.erase_append_right _ hea, List.erase_cons_head]
  obtain ⟨j, hj⟩ := List.mem_iff_getElem?.mp he
  have hjl := (List.getElem?_eq_some_iff.mp hj).1
  have hn : nextIn [a ++ e :: b] e = (a ++ e :: b).getD ((j + 1) % (a ++ e :: b).length) e := nextIn_at (rs := [a ++ e :: b]) (i := 0) (by simpa using nd) rfl hj
  have hn' : nextIn [a ++ e :: b] e = behind (a ++ e :: b) e := if_pos he
  rw [← hn', hn]
  have hk : (j + 1) % (a ++ e :: b).length < (a ++ e :: b).length := Nat.mod_lt _ (by omega)
  have hg := getElem?_getD (r := a ++ e :: b) (k := (j + 1) % (a ++ e :: b).length) (d := e) hk
  constructor
  · intro h
    rw [h] at hg
    obtain ⟨l1, e1⟩ := List.getElem?_eq_some_iff.mp hg
    obtain ⟨l2, e2⟩ := List.getElem?_eq_some_iff.mp hj
    have hij := (List.getElem_inj nd).mp (e1.trans e2.symm)
    have hlen : (a ++ e :: b).length = 1 := by
      by_cases q : j + 1 = (a ++ e :: b).length
      · rw [q, Nat.mod_self] at hij; omega
      · rw [Nat.mod_eq_of_lt (by omega)] at hij; omega
    rw [List.length_append, List.length_cons] at hlen
    have h1 : a = [] := List.eq_nil_of_length_eq_zero (by omega)
    have h2 : b = [] := List.eq_nil_of_length_eq_zero (by omega)
    rw [h1, h2]; rfl
  · intro h
    obtain ⟨rfl, rfl⟩ := List.append_eq_nil_iff.mp h
    have : j = 0 := by simp at hjl; exact hjl
    subst this
    simp
theorem aln_cons (r : List Int) (rs : Rs) : aln (r :: rs) = (if r = [] then 1 else 0) + aln rs := by
  unfold aln
  rw [List.filter_cons]
  by_cases h : r = []
  · rw [if_pos h, if_pos (decide_eq_true h), List.length_cons]; omega
  · rw [if_neg h, if_neg fun z => h (of_decide_eq_true z)]; omega
theorem delIn_no {e : Int} : ∀ {rs : Rs}, e ∉ rs.flatten → delIn rs e = rs
  | [], _ => rfl
  | r :: rs, h => by
    rw [List.flatten_cons] at h
    show r.erase e :: delIn rs e = r :: rs
    rw [List.erase_of_not_mem fun q => h (List.mem_append_left _ q), delIn_no fun q => h (List.mem_append_right _ q)]
theorem aln_del {e : Int} : ∀ {rs : Rs}, rs.flatten.Nodup → e ∈ rs.flatten → aln (delIn rs e) = aln rs + if nextIn rs e = e then 1 else 0
  | [], _, h => by cases h
  | r :: rs, nd, h => by
    rw [List.flatten_cons] at nd h
    obtain ⟨n1, n2, n3⟩ := List.nodup_append.mp nd
    show aln (r.erase e :: delIn rs e) = aln (r :: rs) + if (if e ∈ r then behind r e else nextIn rs e) = e then 1 else 0
    rw [aln_cons, aln_cons]
    by_cases hr : e ∈ r
    · have h2 : e ∉ rs.flatten := fun z => n3 e hr e z rfl
      have hne : r ≠ [] := fun z => by rw [z] at hr; cases hr
      rw [delIn_no h2, if_pos hr, if_neg hne]
      by_cases hb : behind r e = e
      · rw [if_pos hb, if_pos ((behind_one n1 hr).mp hb)]; omega
      · rw [if_neg hb, if_neg fun z => hb ((behind_one n1 hr).mpr z)]; omega
    · rw [List.erase_of_not_mem hr, if_neg hr, aln_del n2 ((List.mem_append.mp h).resolve_left hr)]
      omega
theorem Dr.off_aln {rs : Rs} {n : Nat} (d : Dr rs (n + 2)) : aln (offLast rs n) = aln rs + (if stp rs n = (n : Int) + 1 then 1 else 0) + if (if stp rs ((n : Int) + 1) = (n : Int) + 1 then stp rs n else stp rs ((n : Int) + 1)) = n then 1 else 0 := by
  obtain ⟨an1, an2⟩ := acr_n (n := n) (by have := d.even; omega)
  have eA : stp rs n = nextIn rs ((n : Int) + 1) := by show nextIn rs (acr n) = _; rw [an1]
  have eB : stp rs ((n : Int) + 1) = nextIn rs n := by show nextIn rs (acr _) = _; rw [an2]
  have c1 : Cycs (skp (((n + 1 : Nat)) : Int) (nextIn rs)) (n + 1) (ne (delIn rs ((n + 1 : Nat) : Int))) := Cycs.del (n := n + 1) d.cycs
  have e1 : ((n + 1 : Nat) : Int) = (n : Int) + 1 := by omega
  rw [e1] at c1
  have nd1 : (delIn rs ((n : Int) + 1)).flatten.Nodup := by rw [← flat_noempty]; exact c1.nd
  have m1 : (n : Int) ∈ (delIn rs ((n : Int) + 1)).flatten := by rw [← flat_noempty]; exact (c1.mem _).mpr (by omega)
  have v1 : nextIn (delIn rs ((n : Int) + 1)) n = skp ((n : Int) + 1) (nextIn rs) n := c1.nextNe (by omega)
  unfold offLast
  rw [aln_del nd1 m1, v1, aln_del d.nd ((d.mem _).mpr (by omega)), eA, eB]
  rfl
theorem off_row {rs : Rs} {n i : Nat} {r : List Int} (h : rs[i]? = some r) : (offLast rs n)[i]? = some ((r.erase ((n : Int) + 1)).erase n) := by
  unfold offLast delIn
  rw [List.getElem?_map, List.getElem?_map, h]
  rfl
theorem off_length (rs : Rs) (n : Nat) : (offLast rs n).length = rs.length := by unfold offLast delIn; rw [List.length_map, List.length_map]
theorem Dr.off_pt {rs : Rs} {n : Nat} (d : Dr rs (n + 2)) : ∀ e : Int, 0 ≤ e ∧ e < (n : Int) → pt rs e = pt (offLast rs n) e :=
  prs_same d.off d.nd fun i r hi => by
    have hil : i < rs.length := by rw [← off_length rs n]; exact (List.getElem?_eq_some_iff.mp hi).1
    refine ⟨rs[i], List.getElem?_eq_getElem hil, fun z hz => ?_⟩
    have e1 := off_row (n := n) (List.getElem?_eq_getElem hil)
    rw [hi] at e1
    have e2 : r = ((rs[i]).erase ((n : Int) + 1)).erase n := Option.some.inj e1
    rw [e2] at hz
    exact List.mem_of_mem_erase (List.mem_of_mem_erase hz)
theorem Dr.off_prs {rs : Rs} {n : Nat} (d : Dr rs (n + 2)) : prs rs (n + 2) = prs (offLast rs n) n ++ [(pt rs n, pt rs ((n : Int) + 1))] := prs_two d.off d.off_pt
/-- along a cycle of faces the label is one -/
theorem lab_cyc {rs : Rs} {n : Nat} (d : Dr rs n) {r : List Int} (c : Cyc (stp rs) r) (hb : ∀ z ∈ r, 0 ≤ z ∧ z < (n : Int)) {x y : Int} (hx : x ∈ r) (hy : y ∈ r) : lab rs n (pt rs x) = lab rs n (pt rs y) := by
  obtain ⟨i, hi⟩ := List.mem_iff_getElem?.mp hx
  obtain ⟨j, hj⟩ := List.mem_iff_getElem?.mp hy
  have hil := (List.getElem?_eq_some_iff.mp hi).1
  have hjl := (List.getElem?_eq_some_iff.mp hj).1
  have key : ∀ k, lab rs n (pt rs (itr (stp rs) k x)) = lab rs n (pt rs x) := by
    intro k
    induction k with
    | zero => rfl
    | succ k ih =>
      have hm := hb _ (List.mem_of_getElem? (c.itr hi k))
      show lab rs n (pt rs (stp rs (itr (stp rs) k x))) = _
      rw [lab_stp d hm, ih]
  have h1 := c.itr hi (j + r.length - i)
  rw [show i + (j + r.length - i) = j + r.length by omega, Nat.add_mod_right, Nat.mod_eq_of_lt hjl, hj] at h1
  rw [Option.some.inj h1, key]
/-- a point without ends is a group of its own -/
theorem lab_alone {rs : Rs} {n i j : Nat} (d : Dr rs n) (hi : rs[i]? = some []) (hj : j < rs.length) (h : lab rs n j = lab rs n i) : j = i := by
  have hil := (List.getElem?_eq_some_iff.mp hi).1
  have no : ∀ e : Int, 0 ≤ e ∧ e < (n : Int) → pt rs e ≠ i := fun e he q => by
    obtain ⟨r, hr, hz⟩ := row_of d he
    rw [q, hi] at hr
    cases hr
    cases hz
  have := (heads_closed (prs_below d) (fun k => k = i) (fun p hp => ?_) j i hj hil h).mpr rfl
  · exact this
  · obtain ⟨k, hk, rfl⟩ := List.mem_map.mp hp
    have hk' := List.mem_range.mp hk
    have hev := d.even
    exact ⟨fun q => absurd q (no _ (by omega)), fun q => absurd q (no _ (by omega))⟩
theorem Cts.off {rs : Rs} {n F C : Nat} (d : Dr rs (n + 2)) (c : Cts (offLast rs n) n F C) : ∃ F' C', Cts rs (n + 2) F' C' ∧
    ((C' = C ∧ F' + aln rs = F + aln (offLast rs n) + 1) ∨ (C' = C ∧ F' + aln rs + 1 = F + aln (offLast rs n)) ∨ (C' + 1 = C ∧ F' + aln rs + 1 = F + aln (offLast rs n))) := by
  obtain ⟨L, cL, hL⟩ := c.fcs
  obtain ⟨M, cM, hM⟩ := d.off_faces cL
  have hal := d.off_aln
  have D := d.off
  obtain ⟨an1, an2⟩ := acr_n (n := n) D.even
  have eA : stp rs n = nextIn rs ((n : Int) + 1) := by show nextIn rs (acr n) = _; rw [an1]
  have eB : stp rs ((n : Int) + 1) = nextIn rs n := by show nextIn rs (acr _) = _; rw [an2]
  have mn : (n : Int) ∈ rs.flatten := (d.mem _).mpr (by omega)
  have mm : (n : Int) + 1 ∈ rs.flatten := (d.mem _).mpr (by omega)
  have hp := d.off_prs
  have hl := off_length rs n
  have hh := heads_length (offLast rs n).length (prs (offLast rs n) n)
  have bP : pt rs n < rs.length := pt_lt mn
  have bQ : pt rs ((n : Int) + 1) < rs.length := pt_lt mm
  have same : lab (offLast rs n) n (pt rs n) = lab (offLast rs n) n (pt rs ((n : Int) + 1)) → DC (heads rs.length (prs rs (n + 2))) C := fun h => by
    rw [hp, heads_snoc, ← hl, relab_id (p := (pt rs n, pt rs ((n : Int) + 1))) (hs := heads (offLast rs n).length (prs (offLast rs n) n)) h]
    exact c.pcs
  have diff : lab (offLast rs n) n (pt rs n) ≠ lab (offLast rs n) n (pt rs ((n : Int) + 1)) → ∃ j, C = j + 1 ∧ DC (heads rs.length (prs rs (n + 2))) j := fun h => by
    obtain ⟨j, e, pj⟩ := c.pcs.relab (p := (pt rs n, pt rs ((n : Int) + 1))) (by omega) (by omega) h
    refine ⟨j, e, ?_⟩
    rw [hp, heads_snoc, ← hl]
    exact pj
  have injA : stp rs n ≠ stp rs ((n : Int) + 1) := fun q => by
    have := d.stp_inj (a := n) (b := (n : Int) + 1) (by omega) (by omega) q
    omega
  have onept : stp rs n = n ∨ stp rs ((n : Int) + 1) = (n : Int) + 1 → pt rs n = pt rs ((n : Int) + 1) := fun h => by
    rcases h with h | h
    · rw [eA] at h
      have := pt_next d.nd mm
      rw [h] at this
      exact this
    · rw [eB] at h
      have := pt_next d.nd mn
      rw [h] at this
      exact this.symm
  -- a point that is left alone
  have rowOf : ∀ {e : Int}, e ∈ rs.flatten → nextIn rs e = e → ∃ r, rs[pt rs e]? = some r ∧ e ∈ r ∧ r.erase e = [] := fun {e} he h => by
    obtain ⟨r, hr, hz⟩ := pt_spec he
    have ndr : r.Nodup := by
      obtain ⟨a, b, q⟩ := List.append_of_mem (List.mem_of_getElem? hr)
      have nd := d.nd
      rw [q, List.flatten_append, List.flatten_cons] at nd
      exact (List.nodup_append.mp (List.nodup_append.mp nd).2.1).1
    refine ⟨r, hr, hz, (behind_one ndr hz).mp ?_⟩
    obtain ⟨j, hj⟩ := List.mem_iff_getElem?.mp hz
    have e1 := nextIn_at d.nd hr hj
    have e2 : nextIn [r] e = r.getD ((j + 1) % r.length) e := nextIn_at (rs := [r]) (i := 0) (by simpa using ndr) rfl hj
    have e3 : nextIn [r] e = behind r e := if_pos hz
    rw [← e3, e2, ← e1, h]
  have apart : (stp rs n = (n : Int) + 1 ∨ stp rs ((n : Int) + 1) = n) → lab (offLast rs n) n (pt rs n) ≠ lab (offLast rs n) n (pt rs ((n : Int) + 1)) := fun h q => by
    rcases h with h | h
    · rw [eA] at h
      obtain ⟨r, hr, hz, he⟩ := rowOf mm h
      have hR : (offLast rs n)[pt rs ((n : Int) + 1)]? = some [] := by rw [off_row hr, he]; rfl
      have e := lab_alone D hR (by omega) q
      have hmem : (n : Int) ∈ r := by
        obtain ⟨r', hr', hz'⟩ := pt_spec mn
        rw [e, hr] at hr'
        cases hr'
        exact hz'
      have : (n : Int) ∈ r.erase ((n : Int) + 1) := (List.mem_erase_of_ne (by omega)).mpr hmem
      rw [he] at this
      cases this
    · rw [eB] at h
      obtain ⟨r, hr, hz, he⟩ := rowOf mn h
      have hR : (offLast rs n)[pt rs n]? = some [] := by
        rw [off_row hr]
        have h1 : r = [(n : Int)] := by
          cases r with
          | nil => cases hz
          | cons a b =>
            rcases List.mem_cons.mp hz with q' | q'
            · rw [← q', List.erase_cons_head] at he
              rw [← q', he]
            · by_cases q2 : a = (n : Int)
              · rw [q2, List.erase_cons_head] at he
                rw [he] at q'; cases q'
              · rw [List.erase_cons_tail (by simpa using q2)] at he; cases he
        have h2 : [(n : Int)].erase ((n : Int) + 1) = [(n : Int)] := List.erase_of_not_mem (fun z => by
          have : (n : Int) + 1 = n := by simpa using z
          omega)
        rw [h1, h2, List.erase_cons_head]
      have e := lab_alone D hR (by omega) q.symm
      obtain ⟨r', hr', hz'⟩ := pt_spec mm
      rw [e, hr] at hr'
      cases hr'
      have : (n : Int) + 1 ∈ r.erase n := (List.mem_erase_of_ne (by omega)).mpr hz'
      rw [he] at this
      cases this
  rcases hM with ⟨a1, a2, a3⟩ | ⟨a1, a2, a3⟩ | ⟨a1, a2, a3⟩ | ⟨a1, a2, a3⟩ | ⟨a1, a2, a3, a4, x, y, u, rest, hx, hy, hxn, hyn, c1, hl1, hc⟩
  · refine ⟨M.length, C, ⟨⟨M, cM, rfl⟩, same (by rw [onept (.inl a1)])⟩, .inl ⟨rfl, ?_⟩⟩
    rw [hal, if_pos a2, if_pos a1, if_neg (by omega)]
    omega
  · obtain ⟨j, ej, pj⟩ := diff (apart (.inl a1))
    refine ⟨M.length, j, ⟨⟨M, cM, rfl⟩, pj⟩, .inr (.inr ⟨by omega, ?_⟩)⟩
    rw [hal, if_pos a1, if_neg (by omega : ¬ stp rs ((n : Int) + 1) = (n : Int) + 1), if_pos a2]
    omega
  · refine ⟨M.length, C, ⟨⟨M, cM, rfl⟩, same (by rw [onept a1])⟩, .inl ⟨rfl, ?_⟩⟩
    rcases a1 with a1 | a1
    · have h1 : ¬ stp rs ((n : Int) + 1) = (n : Int) + 1 := fun q => a2 ⟨a1, q⟩
      have h2 : ¬ stp rs ((n : Int) + 1) = n := fun q => injA (a1.trans q.symm)
      rw [hal, if_neg h1, if_neg h2, if_neg (by omega)]
      omega
    · have h1 : ¬ stp rs n = n := fun q => a2 ⟨q, a1⟩
      have h2 : ¬ stp rs n = (n : Int) + 1 := fun q => injA (q.trans a1.symm)
      rw [hal, if_pos a1, if_neg h1, if_neg h2]
      omega
  · obtain ⟨j, ej, pj⟩ := diff (apart a1)
    refine ⟨M.length, j, ⟨⟨M, cM, rfl⟩, pj⟩, .inr (.inr ⟨by omega, ?_⟩)⟩
    rcases a1 with a1 | a1
    · have h1 : ¬ stp rs ((n : Int) + 1) = n := fun q => a2 ⟨a1, q⟩
      have h2 : ¬ stp rs ((n : Int) + 1) = (n : Int) + 1 := fun q => injA (a1.trans q.symm)
      rw [hal, if_pos a1, if_neg h2, if_neg h1]
      omega
    · have h1 : ¬ stp rs n = (n : Int) + 1 := fun q => a2 ⟨q, a1⟩
      have h2 : ¬ stp rs ((n : Int) + 1) = (n : Int) + 1 := by omega
      rw [hal, if_neg h1, if_neg h2, if_pos a1]
      omega
  · have hal' : aln (offLast rs n) = aln rs := by
      rw [hal, if_neg a2, if_neg a4, if_neg a3]
      rfl
    have hxa := acr_lt D.even hx.1 hx.2
    have hya := acr_lt D.even hy.1 hy.2
    have lx : lab (offLast rs n) n (pt (offLast rs n) x) = lab (offLast rs n) n (pt rs n) := by
      have h1 : nextIn rs (acr x) = n := hxn
      have h2 := pt_next d.nd ((d.mem (acr x)).mpr (by omega))
      rw [h1, d.off_pt _ hxa] at h2
      rw [h2, lab_acr D hx]
    have ly : lab (offLast rs n) n (pt (offLast rs n) y) = lab (offLast rs n) n (pt rs ((n : Int) + 1)) := by
      have h1 : nextIn rs (acr y) = (n : Int) + 1 := hyn
      have h2 := pt_next d.nd ((d.mem (acr y)).mpr (by omega))
      rw [h1, d.off_pt _ hya] at h2
      rw [h2, lab_acr D hy]
    rcases hc with ⟨q1, q2⟩ | ⟨q1, q2⟩
    · have hlab : lab (offLast rs n) n (pt rs n) = lab (offLast rs n) n (pt rs ((n : Int) + 1)) := by
        rw [← lx, ← ly]
        exact lab_cyc D (c1.cyc _ List.mem_cons_self) (fun z hz => (c1.mem z).mp (by rw [List.flatten_cons]; exact List.mem_append_left _ hz)) (by simp) (by simp [q1])
      exact ⟨M.length, C, ⟨⟨M, cM, rfl⟩, same hlab⟩, .inl ⟨rfl, by omega⟩⟩
    · by_cases hlab : lab (offLast rs n) n (pt rs n) = lab (offLast rs n) n (pt rs ((n : Int) + 1))
      · exact ⟨M.length, C, ⟨⟨M, cM, rfl⟩, same hlab⟩, .inr (.inl ⟨rfl, by omega⟩)⟩
      · obtain ⟨j, ej, pj⟩ := diff hlab
        exact ⟨M.length, j, ⟨⟨M, cM, rfl⟩, pj⟩, .inr (.inr ⟨by omega, by omega⟩)⟩
end Ink

namespace Ink
/-! ### the order of the ropes does not matter to the groups -/
theorem heads_ker {m : Nat} {ps qs : List (Nat × Nat)} (hb : Below m ps) (hs : ∀ p ∈ qs, p ∈ ps) {i j : Nat} (hi : i < m) (hj : j < m) (h : (heads m qs).getD i 0 = (heads m qs).getD j 0) : (heads m ps).getD i 0 = (heads m ps).getD j 0 :=
  (heads_closed (fun p hp => hb p (hs p hp)) (fun k => (heads m ps).getD k 0 = (heads m ps).getD j 0) (fun p hp => by
    have := heads_pair hb p (hs p hp)
    show _ = _ ↔ _ = _
    rw [this]) i j hi hj h).mpr rfl
theorem Grp.ex (lb : Nat → Int) (m : Nat) : ∀ i, ∃ gs, Grp lb m i gs
  | 0 => ⟨[], .zero⟩
  | i + 1 => by
    obtain ⟨gs, h⟩ := Grp.ex lb m i
    by_cases hm : (i : Int) ∈ gs.flatten
    · exact ⟨gs, .skip h hm⟩
    · exact ⟨_, .add h hm⟩
theorem dc_ker {a b : List Int} {k : Nat} (hl : a.length = b.length) (h1 : ∀ i j, i < a.length → j < a.length → (a.getD i 0 = a.getD j 0 ↔ b.getD i 0 = b.getD j 0)) (h : DC a k) : DC b k := by
  obtain ⟨D, d1, d2, d3⟩ := h.ex
  -- each label of a goes to the label of b at the first place where it stands
  have hix : ∀ z ∈ D, a.idxOf z < a.length := fun z hz => List.idxOf_lt_length_iff.mpr ((d2 z).mp hz)
  have hval : ∀ z ∈ D, a.getD (a.idxOf z) 0 = z := fun z hz => by
    rw [List.getD_eq_getElem?_getD, List.getElem?_eq_getElem (hix z hz), List.getElem_idxOf (hix z hz)]
    rfl
  refine ⟨D.map fun z => b.getD (a.idxOf z) 0, ?_, fun z => ?_, by rw [List.length_map, d3]⟩
  · rw [List.nodup_iff_pairwise_ne, List.pairwise_map]
    refine List.Pairwise.imp_of_mem (fun {x y} hx hy hne q => hne ?_) (List.nodup_iff_pairwise_ne.mp d1)
    have := (h1 _ _ (hix x hx) (hix y hy)).mpr q
    rw [hval x hx, hval y hy] at this
    exact this
  · rw [List.mem_map]
    constructor
    · rintro ⟨x, hx, rfl⟩
      exact getD_mem' (by rw [← hl]; exact hix x hx)
    · intro hz
      obtain ⟨j, hj⟩ := List.mem_iff_getElem?.mp hz
      have hjl := (List.getElem?_eq_some_iff.mp hj).1
      have hja : j < a.length := by rw [hl]; exact hjl
      have hm : a.getD j 0 ∈ D := (d2 _).mpr (getD_mem' hja)
      refine ⟨a.getD j 0, hm, ?_⟩
      have := (h1 (a.idxOf (a.getD j 0)) j (hix _ hm) hja).mp (hval _ hm)
      rw [this, List.getD_eq_getElem?_getD, hj]
      rfl
theorem dc_perm {m : Nat} {ps qs : List (Nat × Nat)} {k : Nat} (hb : Below m ps) (hp : ∀ p, p ∈ ps ↔ p ∈ qs) (h : DC (heads m ps) k) : DC (heads m qs) k := by
  have hb' : Below m qs := fun p hq => hb p ((hp p).mpr hq)
  refine dc_ker (by rw [heads_length, heads_length]) (fun i j hi hj => ?_) h
  rw [heads_length] at hi hj
  exact ⟨fun q => heads_ker hb' (fun p hp' => (hp p).mp hp') hi hj q, fun q => heads_ker hb (fun p hp' => (hp p).mpr hp') hi hj q⟩
/-! ### ropes called otherwise -/
structure Ren (s : Int → Int) (n : Nat) : Prop where
  inv : ∀ x, s (s x) = x
  acr : ∀ x, s (Ink.acr x) = Ink.acr (s x)
  mem : ∀ x : Int, 0 ≤ x ∧ x < n → 0 ≤ s x ∧ s x < n
theorem Ren.inj {s : Int → Int} {n : Nat} (R : Ren s n) (x y : Int) (h : s x = s y) : x = y := by rw [← R.inv x, ← R.inv y, h]
def ren (s : Int → Int) (rs : Rs) : Rs := rs.map fun r => r.map s
theorem ren_flat (s : Int → Int) : ∀ rs : Rs, (ren s rs).flatten = rs.flatten.map s
  | [] => rfl
  | r :: rs => by
    show (r.map s :: ren s rs).flatten = _
    rw [List.flatten_cons, List.flatten_cons, List.map_append, ren_flat s rs]
theorem Cycs.ren {s f : Int → Int} {n : Nat} {L : Rs} (R : Ren s n) (c : Cycs f n L) : Cycs (fun x => s (f (s x))) n (Ink.ren s L) := by
  refine ⟨fun r hr => ?_, ?_, fun z => ?_⟩
  · obtain ⟨q, hq, rfl⟩ := List.mem_map.mp hr
    exact (c.cyc q hq).map R.inj fun x _ => by show s (f (s (s x))) = _; rw [R.inv]
  · rw [ren_flat, List.nodup_iff_pairwise_ne, List.pairwise_map]
    exact (List.nodup_iff_pairwise_ne.mp c.nd).imp fun hne q => hne (R.inj _ _ q)
  · rw [ren_flat, List.mem_map]
    constructor
    · rintro ⟨x, hx, rfl⟩
      exact R.mem x ((c.mem x).mp hx)
    · intro hz
      exact ⟨s z, (c.mem _).mpr (R.mem z hz), R.inv z⟩
theorem ne_ren (s : Int → Int) (rs : Rs) : ne (ren s rs) = ren s (ne rs) := by
  unfold ne ren
  rw [List.filter_map]
  congr 1
  refine List.filter_congr fun r _ => ?_
  cases r with
  | nil => rfl
  | cons a b => simp
theorem Dr.ren {s : Int → Int} {rs : Rs} {n : Nat} (R : Ren s n) (d : Dr rs n) : Dr (Ink.ren s rs) n ∧ ∀ x : Int, 0 ≤ x ∧ x < n → nextIn (Ink.ren s rs) x = s (nextIn rs (s x)) := by
  have c := d.cycs.ren R
  have c' : Cycs (fun x => s (nextIn rs (s x))) n (ne (Ink.ren s rs)) := by rw [ne_ren]; exact c
  have dr := c'.dr d.even
  refine ⟨⟨by rw [← flat_noempty]; exact dr.nd, fun z => by rw [← flat_noempty]; exact dr.mem z, by rw [← flat_noempty]; exact dr.len, d.even⟩, fun x hx => c'.nextNe hx⟩
theorem pt_ren {s : Int → Int} {rs : Rs} {n : Nat} (R : Ren s n) (d : Dr rs n) {e : Int} (he : 0 ≤ e ∧ e < (n : Int)) : pt (ren s rs) (s e) = pt rs e := by
  obtain ⟨r, hr, hz⟩ := row_of d he
  refine pt_uniq (d.ren R).1.nd (r := r.map s) ?_ (List.mem_map.mpr ⟨e, hz, rfl⟩)
  unfold ren
  rw [List.getElem?_map, hr]
  rfl
end Ink

namespace Ink
theorem Cts.ren {s : Int → Int} {rs : Rs} {n F C : Nat} (R : Ren s n) (par : ∀ x, s x % 2 = x % 2) (d : Dr rs n) (c : Cts rs n F C) : Cts (Ink.ren s rs) n F C := by
  obtain ⟨L, cL, hL⟩ := c.fcs
  obtain ⟨d', nx⟩ := d.ren R
  have hev := d.even
  refine ⟨⟨Ink.ren s L, (cL.ren R).congr fun x hx => ?_, by unfold Ink.ren; rw [List.length_map, hL]⟩, ?_⟩
  · show s (nextIn rs (Ink.acr (s x))) = nextIn (Ink.ren s rs) (Ink.acr x)
    rw [nx _ (acr_lt d.even hx.1 hx.2), R.acr]
  · have hl : (Ink.ren s rs).length = rs.length := by unfold Ink.ren; rw [List.length_map]
    rw [hl]
    -- each rope's pair is a pair there
    have key : ∀ {q : Rs} {q' : Rs} (dq : Dr q n) (hq : ∀ e : Int, 0 ≤ e ∧ e < (n : Int) → pt q' (s e) = pt q e) (p : Nat × Nat), p ∈ prs q n → p ∈ prs q' n := by
      intro q q' dq hq p hp
      obtain ⟨k, hk, rfl⟩ := List.mem_map.mp hp
      have hk' := List.mem_range.mp hk
      have b0 : 0 ≤ 2 * (k : Int) ∧ 2 * (k : Int) < n := by omega
      have b1 : 0 ≤ 2 * (k : Int) + 1 ∧ 2 * (k : Int) + 1 < n := by omega
      have hm := R.mem _ b0
      have hpar := par (2 * (k : Int))
      have ha := R.acr (2 * (k : Int))
      have e0 : Ink.acr (2 * (k : Int)) = 2 * (k : Int) + 1 := by unfold Ink.acr; omega
      have e1 : Ink.acr (s (2 * (k : Int))) = s (2 * (k : Int)) + 1 := by unfold Ink.acr; omega
      rw [e0, e1] at ha
      refine List.mem_map.mpr ⟨(s (2 * (k : Int)) / 2).toNat, List.mem_range.mpr (by omega), ?_⟩
      have e2 : 2 * (((s (2 * (k : Int)) / 2).toNat : Nat) : Int) = s (2 * (k : Int)) := by omega
      show (pt q' (2 * (((s (2 * (k : Int)) / 2).toNat : Nat) : Int)), pt q' (2 * (((s (2 * (k : Int)) / 2).toNat : Nat) : Int) + 1)) = _
      rw [e2, ← ha, hq _ b0, hq _ b1]
    refine dc_perm (prs_below d) (fun p => ⟨key d (fun e he => pt_ren R d he) p, key d' (fun e he => ?_) p⟩) c.pcs
    have := pt_ren R d (R.mem e he)
    rw [R.inv] at this
    exact this.symm
/-- two ropes change their names -/
def swp (a n : Int) (x : Int) : Int := if x = a then n else if x = a + 1 then n + 1 else if x = n then a else if x = n + 1 then a + 1 else x
/-- a row without the rope's ends, the last rope's called by its number -/
def woRow (a n : Int) (r : List Int) : List Int := (r.filter fun e => decide (e ≠ a ∧ e ≠ a + 1)).map (swp a n)
end Ink

namespace Ink
/-! ### ropes without a ring do not part the faces -/
def rp (rs : Rs) (k : Nat) : Nat × Nat := (pt rs (2 * (k : Int)), pt rs (2 * (k : Int) + 1))
def jn (rs : Rs) (A : List Nat) : List Int := heads rs.length (A.map (rp rs))
def jl (rs : Rs) (A : List Nat) (x : Int) : Int := (jn rs A).getD (pt rs x) 0
theorem Dr.pt_lt {rs : Rs} {n : Nat} (d : Dr rs n) {x : Int} (hx : 0 ≤ x ∧ x < (n : Int)) : pt rs x < rs.length := Ink.pt_lt ((d.mem x).mpr hx)
theorem rp_below {rs : Rs} {n : Nat} (d : Dr rs n) {A : List Nat} (hA : ∀ r ∈ A, 2 * r + 1 < n) : Below rs.length (A.map (rp rs)) := fun p hp => by
  obtain ⟨k, hk, rfl⟩ := List.mem_map.mp hp
  have := hA k hk
  exact ⟨d.pt_lt (by omega), d.pt_lt (by omega)⟩
theorem jn_length (rs : Rs) (A : List Nat) : (jn rs A).length = rs.length := heads_length _ _
theorem jn_snoc (rs : Rs) (A : List Nat) (r : Nat) : jn rs (A ++ [r]) = relab (jn rs A) (rp rs r) := by unfold jn; rw [List.map_append]; exact heads_snoc _ _ _
structure Dual (rs L : Rs) (n : Nat) : Prop where
  d : Dr rs n
  e : Dr L n
  nx : ∀ x : Int, 0 ≤ x ∧ x < n → nextIn L x = nextIn rs (acr x)
theorem Dual.symm {rs L : Rs} {n : Nat} (D : Dual rs L n) : Dual L rs n := ⟨D.e, D.d, fun x hx => by
  rw [D.nx _ (acr_lt D.d.even hx.1 hx.2), acr_acr]⟩
theorem Dual.of {rs L : Rs} {n : Nat} (d : Dr rs n) (c : Cycs (stp rs) n L) : Dual rs L n := ⟨d, c.dr d.even, fun x hx => c.next hx⟩
def rope (x : Int) : Nat := (x / 2).toNat
theorem rope_of {x : Int} (h : 0 ≤ x) : (x = 2 * (rope x : Int) ∧ acr x = 2 * (rope x : Int) + 1) ∨ (x = 2 * (rope x : Int) + 1 ∧ acr x = 2 * (rope x : Int)) := by unfold rope acr; omega
theorem rope_acr (x : Int) : rope (acr x) = rope x := by unfold rope acr; omega
theorem rope_even (k : Nat) : rope (2 * (k : Int)) = k := by unfold rope; omega
theorem rope_odd (k : Nat) : rope (2 * (k : Int) + 1) = k := by unfold rope; omega
theorem rope_lt {x : Int} {n : Nat} (hn : n % 2 = 0) (h : 0 ≤ x ∧ x < (n : Int)) : 2 * rope x + 1 < n := by unfold rope; omega
theorem acr_even (k : Nat) : acr (2 * (k : Int)) = 2 * (k : Int) + 1 := by unfold acr; omega
theorem acr_odd (k : Nat) : acr (2 * (k : Int) + 1) = 2 * (k : Int) := by unfold acr; omega
/-- the two places of a rope that joins have one label -/
theorem jl_acr {rs : Rs} {n : Nat} (d : Dr rs n) {A : List Nat} (hA : ∀ r ∈ A, 2 * r + 1 < n) {x : Int} (hx : 0 ≤ x) (h : rope x ∈ A) : jl rs A (acr x) = jl rs A x := by
  have := heads_pair (rp_below d hA) (rp rs (rope x)) (List.mem_map.mpr ⟨_, h, rfl⟩)
  unfold jl jn
  rcases rope_of hx with ⟨a, b⟩ | ⟨a, b⟩
  · rw [b, show pt rs x = pt rs (2 * (rope x : Int)) from congrArg _ a]; exact this.symm
  · rw [b, show pt rs x = pt rs (2 * (rope x : Int) + 1) from congrArg _ a]; exact this
theorem jl_next {rs : Rs} {n : Nat} (d : Dr rs n) {A : List Nat} {x : Int} (hx : 0 ≤ x ∧ x < (n : Int)) : jl rs A (nextIn rs x) = jl rs A x := by
  unfold jl; rw [pt_next d.nd ((d.mem x).mpr hx)]
/-- growing: each rope joins two groups -/
inductive Tree (rs : Rs) : List Nat → Prop
  | nil : Tree rs []
  | snoc {A : List Nat} {r : Nat} : Tree rs A → jl rs A (2 * (r : Int)) ≠ jl rs A (2 * (r : Int) + 1) → Tree rs (A ++ [r])
def trn (rs : Rs) (A : List Nat) (x : Int) : Int := if rope x ∈ A then nextIn rs (acr x) else nextIn rs x
theorem trn_mem {rs : Rs} {n : Nat} (d : Dr rs n) (A : List Nat) : ∀ x : Int, 0 ≤ x ∧ x < (n : Int) → 0 ≤ trn rs A x ∧ trn rs A x < (n : Int) := fun x hx => by
  unfold trn
  split
  · exact d.stp_mem hx.1 hx.2
  · exact (d.mem _).mp (nextIn_mem ((d.mem _).mpr hx))
theorem trn_inj {rs : Rs} {n : Nat} (d : Dr rs n) (A : List Nat) : ∀ x y : Int, 0 ≤ x ∧ x < (n : Int) → 0 ≤ y ∧ y < (n : Int) → trn rs A x = trn rs A y → x = y := fun x y hx hy h => by
  have ax := acr_lt d.even hx.1 hx.2
  have ay := acr_lt d.even hy.1 hy.2
  unfold trn at h
  split at h
  · rename_i h1
    split at h
    · exact acr_inj _ _ (nextIn_inj d.nd ((d.mem _).mpr ax) ((d.mem _).mpr ay) h)
    · rename_i h2
      have e := nextIn_inj d.nd ((d.mem _).mpr ax) ((d.mem _).mpr hy) h
      rw [← e, rope_acr] at h2
      exact absurd h1 h2
  · rename_i h1
    split at h
    · rename_i h2
      have e := nextIn_inj d.nd ((d.mem _).mpr hx) ((d.mem _).mpr ay) h
      rw [e, rope_acr] at h1
      exact absurd h2 h1
    · exact nextIn_inj d.nd ((d.mem _).mpr hx) ((d.mem _).mpr hy) h
theorem tree_last {rs L : Rs} {n : Nat} (D : Dual rs L n) {A R : List Nat} {r : Nat} (hA : ∀ k ∈ A ++ [r], 2 * k + 1 < n) (hR : ∀ k ∈ R, 2 * k + 1 < n) (hc : ∀ k, 2 * k + 1 < n → k ∉ A ++ [r] → k ∈ R)
    (h : jl rs A (2 * (r : Int)) ≠ jl rs A (2 * (r : Int) + 1)) : jl L R (2 * (r : Int)) = jl L R (2 * (r : Int) + 1) := by
  have d := D.d
  have hr : 2 * r + 1 < n := hA r (by simp)
  have ha : 0 ≤ 2 * (r : Int) ∧ 2 * (r : Int) < n := by omega
  have hm := trn_mem d (A ++ [r])
  have hi := trn_inj d (A ++ [r])
  obtain ⟨k, k0, _, hk⟩ := go_round hm hi ha
  -- the faces' label stays
  have face : ∀ x : Int, 0 ≤ x ∧ x < (n : Int) → jl L R (trn rs (A ++ [r]) x) = jl L R x := fun x hx => by
    unfold trn
    split
    · rw [← D.nx x hx]; exact jl_next D.e hx
    · rename_i hn
      have ax := acr_lt d.even hx.1 hx.2
      have e : nextIn rs x = nextIn L (acr x) := by rw [D.nx _ ax, acr_acr]
      rw [e, jl_next D.e ax]
      exact jl_acr D.e hR hx.1 (hc _ (rope_lt d.even hx) hn)
  have faces : ∀ j, jl L R (itr (trn rs (A ++ [r])) j (2 * (r : Int))) = jl L R (2 * (r : Int)) := by
    intro j
    induction j with
    | zero => rfl
    | succ j ih => show jl L R (trn rs (A ++ [r]) _) = _; rw [face _ (itr_in hm ha j), ih]
  -- the points stay in the group of the end across, until that end comes
  have pts : ∀ j, (∃ i, i ≤ j + 1 ∧ itr (trn rs (A ++ [r])) i (2 * (r : Int)) = 2 * (r : Int) + 1) ∨ jl rs A (itr (trn rs (A ++ [r])) (j + 1) (2 * (r : Int))) = jl rs A (2 * (r : Int) + 1) := by
    intro j
    induction j with
    | zero =>
      right
      show jl rs A (trn rs (A ++ [r]) (2 * (r : Int))) = _
      unfold trn
      rw [if_pos (by rw [rope_even]; simp), acr_even]
      exact jl_next d (by omega)
    | succ j ih =>
      rcases ih with ⟨i, hi, e⟩ | ih
      · exact .inl ⟨i, by omega, e⟩
      · have hx := itr_in hm ha (j + 1)
        have step : itr (trn rs (A ++ [r])) (j + 1 + 1) (2 * (r : Int)) = trn rs (A ++ [r]) (itr (trn rs (A ++ [r])) (j + 1) (2 * (r : Int))) := rfl
        by_cases hb : itr (trn rs (A ++ [r])) (j + 1) (2 * (r : Int)) = 2 * (r : Int) + 1
        · exact .inl ⟨j + 1, by omega, hb⟩
        · right
          rw [step]
          generalize itr (trn rs (A ++ [r])) (j + 1) (2 * (r : Int)) = x at ih hx hb ⊢
          unfold trn
          split
          · rename_i hmem
            have ax := acr_lt d.even hx.1 hx.2
            rw [jl_next d ax]
            rcases List.mem_append.mp hmem with z | z
            · rw [jl_acr d (fun k hk => hA k (by simp [hk])) hx.1 z, ih]
            · have e : rope x = r := by simpa using z
              rcases rope_of hx.1 with ⟨p, q⟩ | ⟨p, q⟩
              · rw [e] at p
                rw [p] at ih
                exact absurd ih h
              · rw [e] at p
                exact absurd p hb
          · rw [jl_next d hx, ih]
  obtain ⟨j, rfl⟩ : ∃ j, k = j + 1 := ⟨k - 1, by omega⟩
  rcases pts j with ⟨i, _, e⟩ | e
  · rw [← e, faces i]
  · rw [hk] at e
    exact absurd e h
theorem tree_dual {rs L : Rs} {n : Nat} (D : Dual rs L n) {A : List Nat} (T : Tree rs A) : ∀ {R : List Nat}, (∀ k ∈ A, 2 * k + 1 < n) → (∀ k ∈ R, 2 * k + 1 < n) → (∀ k, 2 * k + 1 < n → k ∉ A → k ∈ R) →
    ∀ r ∈ A, jl L R (2 * (r : Int)) = jl L R (2 * (r : Int) + 1) := by
  induction T with
  | nil => intro R _ _ _ r hr; cases hr
  | snoc T h ih =>
    rename_i A r
    intro R hA hR hc r' hr'
    have last := tree_last D hA hR hc h
    rcases List.mem_append.mp hr' with z | z
    · have hR' : ∀ k ∈ R ++ [r], 2 * k + 1 < n := fun k hk => by
        rcases List.mem_append.mp hk with q | q
        · exact hR k q
        · have : k = r := by simpa using q
          rw [this]; exact hA r (by simp)
      have := ih (R := R ++ [r]) (fun k hk => hA k (by simp [hk])) hR' (fun k hk hn => by
        by_cases q : k = r
        · simp [q]
        · exact List.mem_append_left _ (hc k hk (by simp [hn, q]))) r' z
      have e : jn L (R ++ [r]) = jn L R := by rw [jn_snoc]; exact relab_id last
      unfold jl at this ⊢
      rw [e] at this
      exact this
    · have : r' = r := by simpa using z
      rw [this]; exact last
/-- so the other ropes join the faces as all do -/
theorem jn_ker {rs : Rs} {n : Nat} (d : Dr rs n) {A B : List Nat} (hA : ∀ k ∈ A, 2 * k + 1 < n) (hB : ∀ k ∈ B, 2 * k + 1 < n) (h : ∀ k ∈ A, jl rs B (2 * (k : Int)) = jl rs B (2 * (k : Int) + 1)) {i j : Nat} (hi : i < rs.length) (hj : j < rs.length)
    (q : (jn rs A).getD i 0 = (jn rs A).getD j 0) : (jn rs B).getD i 0 = (jn rs B).getD j 0 :=
  (heads_closed (rp_below d hA) (fun k => (jn rs B).getD k 0 = (jn rs B).getD j 0) (fun p hp => by
    obtain ⟨k, hk, rfl⟩ := List.mem_map.mp hp
    have := h k hk
    show (jn rs B).getD (pt rs (2 * (k : Int))) 0 = _ ↔ (jn rs B).getD (pt rs (2 * (k : Int) + 1)) 0 = _
    unfold jl at this
    rw [this]) i j hi hj q).mpr rfl
theorem jl_pair {rs : Rs} {n : Nat} (d : Dr rs n) {A : List Nat} (hA : ∀ k ∈ A, 2 * k + 1 < n) {k : Nat} (hk : k ∈ A) : jl rs A (2 * (k : Int)) = jl rs A (2 * (k : Int) + 1) := heads_pair (rp_below d hA) (rp rs k) (List.mem_map.mpr ⟨k, hk, rfl⟩)
/-- two lists of ropes that join alike have as many groups -/
theorem dc_jn {rs : Rs} {n : Nat} (d : Dr rs n) {A B : List Nat} (hA : ∀ k ∈ A, 2 * k + 1 < n) (hB : ∀ k ∈ B, 2 * k + 1 < n) (h : ∀ k ∈ A, jl rs B (2 * (k : Int)) = jl rs B (2 * (k : Int) + 1)) (h' : ∀ k ∈ B, jl rs A (2 * (k : Int)) = jl rs A (2 * (k : Int) + 1))
    {c : Nat} (q : DC (jn rs A) c) : DC (jn rs B) c :=
  dc_ker (by rw [jn_length, jn_length]) (fun i j hi hj => by
    rw [jn_length] at hi hj
    exact ⟨jn_ker d hA hB h hi hj, jn_ker d hB hA h' hi hj⟩) q
theorem Tree.dc {rs : Rs} {n : Nat} (d : Dr rs n) {A : List Nat} (T : Tree rs A) (hA : ∀ k ∈ A, 2 * k + 1 < n) : A.length ≤ rs.length ∧ DC (jn rs A) (rs.length - A.length) := by
  induction T with
  | nil => exact ⟨Nat.zero_le _, by show DC (nums rs.length) _; exact DC.nums _⟩
  | snoc T h ih =>
    rename_i A r
    obtain ⟨i1, i2⟩ := ih fun k hk => hA k (by simp [hk])
    have hr : 2 * r + 1 < n := hA r (by simp)
    rw [jn_snoc, List.length_append]
    have b1 := d.pt_lt (x := 2 * (r : Int)) (by omega)
    have b2 := d.pt_lt (x := 2 * (r : Int) + 1) (by omega)
    obtain ⟨j, e, q⟩ := i2.relab (p := rp rs r) (by rw [jn_length]; exact b1) (by rw [jn_length]; exact b2) h
    refine ⟨by show A.length + 1 ≤ _; omega, ?_⟩
    have e2 : rs.length - (A.length + [r].length) = j := by show rs.length - (A.length + 1) = j; omega
    rw [e2]
    exact q
theorem Tree.take {rs : Rs} {A : List Nat} (T : Tree rs A) : ∀ k, Tree rs (A.take k) := by
  induction T with
  | nil => intro k; rw [List.take_nil]; exact .nil
  | snoc T h ih =>
    rename_i A r
    intro k
    by_cases hk : k ≤ A.length
    · rw [List.take_append_of_le_length hk]; exact ih k
    · rw [List.take_of_length_le (by rw [List.length_append]; show A.length + 1 ≤ k; omega)]; exact .snoc T h
/-- any ropes: at least so many groups are left -/
theorem jn_ge {rs : Rs} {n : Nat} (d : Dr rs n) : ∀ (A : List Nat), (∀ k ∈ A.reverse, 2 * k + 1 < n) → ∃ c, DC (jn rs A.reverse) c ∧ rs.length ≤ c + A.length
  | [], _ => ⟨rs.length, by show DC (nums rs.length) _; exact DC.nums _, by simp⟩
  | r :: A, hA => by
    rw [List.reverse_cons] at hA ⊢
    obtain ⟨c, h1, h2⟩ := jn_ge d A fun k hk => hA k (by rw [List.mem_append]; exact .inl hk)
    have hr : 2 * r + 1 < n := hA r (by simp)
    rw [jn_snoc]
    by_cases h : jl rs A.reverse (2 * (r : Int)) = jl rs A.reverse (2 * (r : Int) + 1)
    · exact ⟨c, by rw [relab_id (hs := jn rs A.reverse) (p := rp rs r) h]; exact h1, by rw [List.length_cons]; omega⟩
    · obtain ⟨j, e, q⟩ := h1.relab (p := rp rs r) (by rw [jn_length]; exact d.pt_lt (by omega)) (by rw [jn_length]; exact d.pt_lt (by omega)) h
      exact ⟨j, q, by rw [List.length_cons]; omega⟩
end Ink

namespace Ink
/-! ### points and faces have the same pieces -/
def allR (n : Nat) : List Nat := List.range (n / 2)
theorem allR_lt {n : Nat} (hn : n % 2 = 0) : ∀ k ∈ allR n, 2 * k + 1 < n := fun k hk => by have := List.mem_range.mp hk; omega
theorem mem_allR {n k : Nat} : k ∈ allR n ↔ 2 * k + 1 < n := by unfold allR; rw [List.mem_range]; omega
/-- all ends of a point are next ones of one another -/
theorem row_reach {rs : Rs} {n : Nat} (d : Dr rs n) {x y : Int} (hx : 0 ≤ x ∧ x < (n : Int)) (hy : 0 ≤ y ∧ y < (n : Int)) (h : pt rs x = pt rs y) : ∃ k, itr (nextIn rs) k x = y := by
  obtain ⟨r, hr, xr⟩ := row_of d hx
  obtain ⟨r', hr', yr⟩ := row_of d hy
  rw [← h, hr] at hr'
  cases hr'
  have hne : r ≠ [] := by intro e; rw [e] at xr; cases xr
  have c : Cyc (nextIn rs) r := d.cycs.cyc r (List.mem_filter.mpr ⟨List.mem_of_getElem? hr, by simpa using hne⟩)
  obtain ⟨i, hi⟩ := List.mem_iff_getElem?.mp xr
  obtain ⟨j, hj⟩ := List.mem_iff_getElem?.mp yr
  have hil := (List.getElem?_eq_some_iff.mp hi).1
  have hjl := (List.getElem?_eq_some_iff.mp hj).1
  have h1 := c.itr hi (j + r.length - i)
  rw [show i + (j + r.length - i) = j + r.length by omega, Nat.add_mod_right, Nat.mod_eq_of_lt hjl, hj] at h1
  exact ⟨_, (Option.some.inj h1).symm⟩
theorem next_mem {rs : Rs} {n : Nat} (d : Dr rs n) : ∀ x : Int, 0 ≤ x ∧ x < (n : Int) → 0 ≤ nextIn rs x ∧ nextIn rs x < (n : Int) := fun x hx => (d.mem _).mp (nextIn_mem ((d.mem _).mpr hx))
/-- ends at one point have faces of one piece -/
theorem Dual.at_point {rs L : Rs} {n : Nat} (D : Dual rs L n) {x y : Int} (hx : 0 ≤ x ∧ x < (n : Int)) (hy : 0 ≤ y ∧ y < (n : Int)) (h : pt rs x = pt rs y) : jl L (allR n) x = jl L (allR n) y := by
  obtain ⟨k, rfl⟩ := row_reach D.d hx hy h
  have : ∀ k, jl L (allR n) (itr (nextIn rs) k x) = jl L (allR n) x := by
    intro k
    induction k with
    | zero => rfl
    | succ k ih =>
      have hz := itr_in (next_mem D.d) hx k
      show jl L (allR n) (nextIn rs (itr (nextIn rs) k x)) = _
      rw [← ih]
      generalize itr (nextIn rs) k x = z at hz ⊢
      have az := acr_lt D.d.even hz.1 hz.2
      have e : nextIn rs z = nextIn L (acr z) := by rw [D.nx _ az, acr_acr]
      rw [e, jl_next D.e az, jl_acr D.e (allR_lt D.d.even) hz.1 (mem_allR.mpr (rope_lt D.d.even hz))]
  exact (this k).symm
theorem Dual.ker1 {rs L : Rs} {n : Nat} (D : Dual rs L n) {x y : Int} (hx : 0 ≤ x ∧ x < (n : Int)) (hy : 0 ≤ y ∧ y < (n : Int)) (h : jl rs (allR n) x = jl rs (allR n) y) : jl L (allR n) x = jl L (allR n) y := by
  have := heads_closed (rp_below D.d (allR_lt D.d.even)) (fun i => ∀ z : Int, 0 ≤ z ∧ z < (n : Int) → pt rs z = i → jl L (allR n) z = jl L (allR n) y) (fun p hp => by
    obtain ⟨k, hk, rfl⟩ := List.mem_map.mp hp
    have hk' := mem_allR.mp hk
    have q := jl_pair D.e (allR_lt D.d.even) hk
    have b1 : 0 ≤ 2 * (k : Int) ∧ 2 * (k : Int) < n := by omega
    have b2 : 0 ≤ 2 * (k : Int) + 1 ∧ 2 * (k : Int) + 1 < (n : Int) := by omega
    constructor
    · intro g z hz e
      rw [D.at_point hz b2 e, ← q]
      exact g _ b1 rfl
    · intro g z hz e
      rw [D.at_point hz b1 e, q]
      exact g _ b2 rfl) (pt rs x) (pt rs y) (D.d.pt_lt hx) (D.d.pt_lt hy) h
  exact this.mpr (fun z hz e => D.at_point hz hy e) x hx rfl
theorem Dual.ker {rs L : Rs} {n : Nat} (D : Dual rs L n) {x y : Int} (hx : 0 ≤ x ∧ x < (n : Int)) (hy : 0 ≤ y ∧ y < (n : Int)) : jl rs (allR n) x = jl rs (allR n) y ↔ jl L (allR n) x = jl L (allR n) y :=
  ⟨D.ker1 hx hy, D.symm.ker1 hx hy⟩
/-- the labels that ends bear -/
def endLabs (rs : Rs) (n : Nat) : List Int := (List.range n).map fun (x : Nat) => jl rs (allR n) x
theorem endLabs_mem {rs : Rs} {n : Nat} {z : Int} : z ∈ endLabs rs n ↔ ∃ x : Int, (0 ≤ x ∧ x < (n : Int)) ∧ jl rs (allR n) x = z := by
  unfold endLabs
  rw [List.mem_map]
  constructor
  · rintro ⟨a, ha, rfl⟩
    have := List.mem_range.mp ha
    exact ⟨a, by omega, rfl⟩
  · rintro ⟨x, hx, rfl⟩
    exact ⟨x.toNat, List.mem_range.mpr (by omega), by rw [show ((x.toNat : Nat) : Int) = x by omega]⟩
theorem Dual.endLabs {rs L : Rs} {n : Nat} (D : Dual rs L n) {c : Nat} (h : DC (endLabs L n) c) : DC (endLabs rs n) c := by
  refine dc_ker (by unfold Ink.endLabs; rw [List.length_map, List.length_map]) (fun i j hi hj => ?_) h
  unfold Ink.endLabs at hi hj ⊢
  rw [List.length_map, List.length_range] at hi hj
  rw [List.getD_eq_getElem?_getD, List.getD_eq_getElem?_getD, List.getD_eq_getElem?_getD, List.getD_eq_getElem?_getD, List.getElem?_map, List.getElem?_map, List.getElem?_map, List.getElem?_map, List.getElem?_range hi, List.getElem?_range hj]
  exact (D.ker (x := (i : Int)) (y := (j : Int)) (by omega) (by omega)).symm
/-- where each place has an end, the places' labels are the ends' -/
theorem endLabs_full {L : Rs} {n : Nat} (e : Dr L n) (hne : ∀ r ∈ L, r ≠ []) (z : Int) : z ∈ endLabs L n ↔ z ∈ jn L (allR n) := by
  rw [endLabs_mem]
  constructor
  · rintro ⟨x, hx, rfl⟩
    exact getD_mem' (by rw [jn_length]; exact e.pt_lt hx)
  · intro hz
    obtain ⟨i, hi⟩ := List.mem_iff_getElem?.mp hz
    have hil := (List.getElem?_eq_some_iff.mp hi).1
    rw [jn_length] at hil
    have hr : L[i]? = some L[i] := List.getElem?_eq_getElem hil
    cases hq : L[i] with
    | nil => exact absurd hq (hne _ (List.getElem_mem hil))
    | cons x t =>
      rw [hq] at hr
      have hx := (e.mem x).mp (List.mem_flatten.mpr ⟨_, List.mem_of_getElem? hr, by simp⟩)
      refine ⟨x, hx, ?_⟩
      unfold jl
      rw [pt_uniq e.nd hr (by simp), List.getD_eq_getElem?_getD, hi]
      rfl
theorem DC.congr {a b : List Int} {k : Nat} (h : DC a k) (e : ∀ z, z ∈ a ↔ z ∈ b) : DC b k := by
  obtain ⟨D, d1, d2, d3⟩ := h.ex
  exact ⟨D, d1, fun z => (d2 z).trans (e z), d3⟩
/-- the labels of points alone -/
theorem aln_labs {rs : Rs} {n : Nat} (d : Dr rs n) : ∃ D : List Int, D.Nodup ∧ D.length = aln rs ∧ ∀ z, z ∈ D ↔ ∃ i, rs[i]? = some [] ∧ (jn rs (allR n)).getD i 0 = z := by
  have key : ∀ k, k ≤ rs.length → ∃ D : List Int, D.Nodup ∧ D.length = aln (rs.take k) ∧ ∀ z, z ∈ D ↔ ∃ i, i < k ∧ rs[i]? = some [] ∧ (jn rs (allR n)).getD i 0 = z := by
    intro k
    induction k with
    | zero => intro _; exact ⟨[], List.nodup_nil, rfl, fun z => ⟨fun h => (nomatch h), fun ⟨i, h, _⟩ => (by omega)⟩⟩
    | succ k ih =>
      intro hk
      obtain ⟨D, d1, d2, d3⟩ := ih (by omega)
      have hr : rs[k]? = some rs[k] := List.getElem?_eq_getElem (by omega)
      have ht : rs.take (k + 1) = rs.take k ++ [rs[k]] := by rw [List.take_add_one, hr]; rfl
      by_cases q : rs[k] = []
      · rw [q] at hr
        refine ⟨(jn rs (allR n)).getD k 0 :: D, List.nodup_cons.mpr ⟨fun hz => ?_, d1⟩, ?_, fun z => ?_⟩
        · obtain ⟨i, hi, hi2, hi3⟩ := (d3 _).mp hz
          have := lab_alone d hr (by omega : i < rs.length) hi3
          omega
        · rw [ht, aln_append, List.length_cons, d2, q]; rfl
        · rw [List.mem_cons, d3]
          constructor
          · rintro (rfl | ⟨i, h1, h2, h3⟩)
            · exact ⟨k, by omega, hr, rfl⟩
            · exact ⟨i, by omega, h2, h3⟩
          · rintro ⟨i, h1, h2, h3⟩
            by_cases hik : i = k
            · subst hik; exact .inl h3.symm
            · exact .inr ⟨i, by omega, h2, h3⟩
      · refine ⟨D, d1, ?_, fun z => ?_⟩
        · rw [ht, aln_append, d2]
          have : aln [rs[k]] = 0 := by unfold aln; rw [List.filter_cons, if_neg (by simpa using q)]; rfl
          omega
        · rw [d3]
          constructor
          · rintro ⟨i, h1, h2, h3⟩; exact ⟨i, by omega, h2, h3⟩
          · rintro ⟨i, h1, h2, h3⟩
            by_cases hik : i = k
            · subst hik
              rw [hr] at h2
              exact absurd (Option.some.inj h2) q
            · exact ⟨i, by omega, h2, h3⟩
  obtain ⟨D, d1, d2, d3⟩ := key rs.length (Nat.le_refl _)
  rw [List.take_length] at d2
  refine ⟨D, d1, d2, fun z => (d3 z).trans ⟨fun ⟨i, _, h2, h3⟩ => ⟨i, h2, h3⟩, fun ⟨i, h2, h3⟩ => ⟨i, (List.getElem?_eq_some_iff.mp h2).1, h2, h3⟩⟩⟩
/-- the faces hang together in as many pieces as the points that are not alone -/
theorem Dual.count {rs L : Rs} {n F C : Nat} (D : Dual rs L n) (hne : ∀ r ∈ L, r ≠ []) (hF : DC (jn L (allR n)) F) (hC : DC (jn rs (allR n)) C) : C = F + aln rs := by
  have h1 : DC (Ink.endLabs L n) F := hF.congr fun z => (endLabs_full D.e hne z).symm
  obtain ⟨E, e1, e2, e3⟩ := (D.endLabs h1).ex
  obtain ⟨G, g1, g2, g3⟩ := aln_labs D.d
  refine hC.uniq ⟨E ++ G, ?_, fun z => ?_, by rw [List.length_append, e3, g2]⟩
  · rw [List.nodup_append]
    refine ⟨e1, g1, fun a ha b hb q => ?_⟩
    subst q
    obtain ⟨x, hx, hz⟩ := endLabs_mem.mp ((e2 a).mp ha)
    obtain ⟨i, hi, hi2⟩ := (g3 a).mp hb
    have := lab_alone D.d hi (D.d.pt_lt hx) (hz.trans hi2.symm)
    obtain ⟨r, hr, hxr⟩ := row_of D.d hx
    rw [this, hi] at hr
    cases hr
    cases hxr
  · rw [List.mem_append, e2, g3, endLabs_mem]
    constructor
    · rintro (⟨x, hx, rfl⟩ | ⟨i, hi, rfl⟩)
      · exact getD_mem' (by rw [jn_length]; exact D.d.pt_lt hx)
      · exact getD_mem' (by rw [jn_length]; exact (List.getElem?_eq_some_iff.mp hi).1)
    · intro hz
      obtain ⟨i, hi⟩ := List.mem_iff_getElem?.mp hz
      have hil := (List.getElem?_eq_some_iff.mp hi).1
      rw [jn_length] at hil
      have hv : (jn rs (allR n)).getD i 0 = z := by rw [List.getD_eq_getElem?_getD, hi]; rfl
      have hr : rs[i]? = some rs[i] := List.getElem?_eq_getElem hil
      cases hq : rs[i] with
      | nil => rw [hq] at hr; exact .inr ⟨i, hr, hv⟩
      | cons x t =>
        rw [hq] at hr
        have hx := (D.d.mem x).mp (List.mem_flatten.mpr ⟨_, List.mem_of_getElem? hr, by simp⟩)
        refine .inl ⟨x, hx, ?_⟩
        unfold jl
        rw [pt_uniq D.d.nd hr (by simp), hv]
end Ink

namespace Ink
/-! ### choosing ropes one after the other -/
def sw (rs : Rs) (k : Nat) : Nat × Nat := (pt rs (2 * (k : Int) + 1), pt rs (2 * (k : Int)))
/-- labels, the second group called as the first -/
def mrk (rs : Rs) (A : List Nat) : List Int := heads rs.length (A.map (sw rs))
def kru (rs : Rs) : List Nat → List Nat → List Nat
  | acc, [] => acc
  | acc, r :: R => kru rs (if jl rs acc (2 * (r : Int)) = jl rs acc (2 * (r : Int) + 1) then acc else acc ++ [r]) R
theorem kru_tree {rs : Rs} : ∀ (R : List Nat) {acc : List Nat}, Tree rs acc → Tree rs (kru rs acc R)
  | [], _, T => T
  | r :: R, acc, T => by
    refine kru_tree R ?_
    split
    · exact T
    · rename_i h; exact .snoc T h
theorem kru_sub {rs : Rs} : ∀ (R acc : List Nat), ∃ S, kru rs acc R = acc ++ S ∧ S.Sublist R
  | [], acc => ⟨[], by rw [List.append_nil]; rfl, List.Sublist.refl _⟩
  | r :: R, acc => by
    unfold kru
    split
    · obtain ⟨S, e, h⟩ := kru_sub (rs := rs) R acc
      exact ⟨S, e, h.cons _⟩
    · obtain ⟨S, e, h⟩ := kru_sub (rs := rs) R (acc ++ [r])
      exact ⟨r :: S, by rw [e]; simp, h.cons_cons _⟩
theorem kru_mem {rs : Rs} {R : List Nat} : ∀ k ∈ kru rs [] R, k ∈ R := fun k hk => by
  obtain ⟨S, e, h⟩ := kru_sub (rs := rs) R []
  rw [e] at hk
  exact h.subset (by simpa using hk)
theorem jl_mono {rs : Rs} {n : Nat} (d : Dr rs n) {A B : List Nat} (hB : ∀ k ∈ B, 2 * k + 1 < n) (h : ∀ k ∈ A, k ∈ B) {x y : Int} (hx : 0 ≤ x ∧ x < (n : Int)) (hy : 0 ≤ y ∧ y < (n : Int)) (q : jl rs A x = jl rs A y) : jl rs B x = jl rs B y :=
  jn_ker d (fun k hk => hB k (h k hk)) hB (fun k hk => jl_pair d hB (h k hk)) (d.pt_lt hx) (d.pt_lt hy) q
theorem kru_join {rs : Rs} {n : Nat} (d : Dr rs n) : ∀ (R : List Nat) {acc : List Nat}, (∀ k ∈ acc ++ R, 2 * k + 1 < n) → ∀ r ∈ R, jl rs (kru rs acc R) (2 * (r : Int)) = jl rs (kru rs acc R) (2 * (r : Int) + 1)
  | [], _, _, r, hr => nomatch hr
  | s :: R, acc, hA, r, hr => by
    have hs : 2 * s + 1 < n := hA s (by simp)
    unfold kru
    rcases List.mem_cons.mp hr with rfl | hr
    · split
      · rename_i h
        obtain ⟨S, e, hS⟩ := kru_sub (rs := rs) R acc
        rw [e]
        refine jl_mono d (fun k hk => hA k ?_) (fun k hk => List.mem_append_left _ hk) (by omega) (by omega) h
        rcases List.mem_append.mp hk with z | z
        · exact List.mem_append_left _ z
        · exact List.mem_append_right _ (List.mem_cons_of_mem _ (hS.subset z))
      · obtain ⟨S, e, hS⟩ := kru_sub (rs := rs) R (acc ++ [r])
        rw [e]
        refine jl_pair d (fun k hk => hA k ?_) (by simp)
        rcases List.mem_append.mp hk with z | z
        · rcases List.mem_append.mp z with z | z
          · exact List.mem_append_left _ z
          · exact List.mem_append_right _ (by rw [List.mem_singleton.mp z]; simp)
        · exact List.mem_append_right _ (List.mem_cons_of_mem _ (hS.subset z))
    · refine kru_join d R ?_ r hr
      intro k hk
      refine hA k ?_
      split at hk
      · rcases List.mem_append.mp hk with z | z
        · exact List.mem_append_left _ z
        · exact List.mem_append_right _ (List.mem_cons_of_mem _ z)
      · rcases List.mem_append.mp hk with z | z
        · rcases List.mem_append.mp z with z | z
          · exact List.mem_append_left _ z
          · exact List.mem_append_right _ (by rw [List.mem_singleton.mp z]; simp)
        · exact List.mem_append_right _ (List.mem_cons_of_mem _ z)
/-- a sublist of a list without repeats is a filter of it -/
theorem sub_filter {R : List Nat} (nd : R.Nodup) : ∀ {S : List Nat}, S.Sublist R → R.filter (fun k => decide (k ∈ S)) = S := by
  induction R with
  | nil => intro S h; rw [List.sublist_nil.mp h]; rfl
  | cons a R ih =>
    intro S h
    obtain ⟨na, nd'⟩ := List.nodup_cons.mp nd
    cases h with
    | cons _ h =>
      rw [List.filter_cons, if_neg (by simpa using fun z => na (h.subset z))]
      exact ih nd' h
    | cons_cons _ h =>
      rename_i S
      rw [List.filter_cons, if_pos (by simp)]
      congr 1
      rw [← ih nd' h]
      refine List.filter_congr fun k hk => ?_
      have : k ≠ a := fun q => na (q ▸ hk)
      rw [ih nd' h]
      simp [this]
def butR (R S : List Nat) : List Nat := R.filter fun k => decide (k ∉ S)
theorem split_perm {R S : List Nat} (nd : R.Nodup) (h : S.Sublist R) : (S ++ butR R S).Perm R := by
  have := List.filter_append_perm (fun k => decide (k ∈ S)) R
  rw [sub_filter nd h] at this
  have e : R.filter (fun k => !decide (k ∈ S)) = butR R S := List.filter_congr fun k _ => by simp
  rw [e] at this
  exact this
/-- the three lists of ropes -/
structure Trees (rs L : Rs) (n F C : Nat) (A B E : List Nat) : Prop where
  perm : (A ++ (B ++ E)).Perm (allR n)
  ta : Tree rs A
  tb : Tree L B
  la : A.length + C = rs.length
  lb : B.length + C = L.length + aln rs
  subA : A.Sublist (allR n)
  subB : B.Sublist (butR (allR n) A)
end Ink

namespace Ink
/-! ### twice the handles of any drawing -/
theorem Dr.none {rs : Rs} (d : Dr rs 0) : rs = List.replicate rs.length [] := by
  rw [List.eq_replicate_iff]
  refine ⟨rfl, fun r hr => ?_⟩
  cases r with
  | nil => rfl
  | cons x t =>
    have := (d.mem x).mp (List.mem_flatten.mpr ⟨_, hr, by simp⟩)
    omega
theorem aln_replicate : ∀ m : Nat, aln (List.replicate m []) = m
  | 0 => rfl
  | m + 1 => by rw [List.replicate_succ, aln_cons, if_pos rfl, aln_replicate m]; omega
theorem Dr.euler : ∀ (n : Nat) {rs : Rs}, Dr rs n → ∃ F C g, Cts rs n F C ∧ 2 * C + n / 2 = rs.length + F + aln rs + 2 * g
  | 0, rs, d => by
    have e := d.none
    refine ⟨0, rs.length, 0, ?_, ?_⟩
    · have := Cts.bare rs.length
      rw [← e] at this
      exact this
    · have h := aln_replicate rs.length
      rw [← e] at h
      omega
  | 1, rs, d => by have := d.even; omega
  | n + 2, rs, d => by
    obtain ⟨F, C, g, c, h⟩ := Dr.euler n d.off
    obtain ⟨F', C', c', k⟩ := c.off d
    rw [off_length] at h
    rcases k with ⟨k1, k2⟩ | ⟨k1, k2⟩ | ⟨k1, k2⟩
    · exact ⟨F', C', g, c', by omega⟩
    · exact ⟨F', C', g + 1, c', by omega⟩
    · exact ⟨F', C', g, c', by omega⟩
/-- the third list is twice the handles -/
theorem Trees.third {rs L : Rs} {n F C g : Nat} {A B E : List Nat} (T : Trees rs L n F C A B E) (hF : L.length = F) (h : 2 * C + n / 2 = rs.length + F + aln rs + 2 * g) : E.length = 2 * g := by
  have := T.perm.length_eq
  unfold allR at this
  rw [List.length_append, List.length_append, List.length_range] at this
  have a := T.la
  have b := T.lb
  omega
end Ink

namespace Ink
/-! ### rings and their sides -/
structure Ring (rs : Rs) (n : Nat) (q : List Int) : Prop where
  ne : q ≠ []
  mem : ∀ x ∈ q, 0 ≤ x ∧ x < (n : Int)
  leads : ∀ (i : Nat) (x y : Int), q[i]? = some x → q[(i + 1) % q.length]? = some y → pt rs (acr x) = pt rs y
  pts : (q.map (pt rs)).Nodup
  rps : (q.map rope).Nodup
def openR (n : Nat) (q : List Int) : List Nat := butR (allR n) (q.map rope)
theorem openR_lt {n : Nat} (hn : n % 2 = 0) (q : List Int) : ∀ k ∈ openR n q, 2 * k + 1 < n := fun k hk => allR_lt hn k (List.mem_filter.mp hk).1
theorem openR_mem {n k : Nat} {q : List Int} : k ∈ openR n q ↔ 2 * k + 1 < n ∧ k ∉ q.map rope := by
  unfold openR butR
  rw [List.mem_filter, mem_allR]
  simp
/-- round a point, over open ropes, from behind u to v -/
theorem rot_to {rs L : Rs} {n : Nat} (D : Dual rs L n) {R : List Nat} (hR : ∀ k ∈ R, 2 * k + 1 < n) {u v : Int} (hu : 0 ≤ u ∧ u < (n : Int)) (hv : 0 ≤ v ∧ v < (n : Int)) (h : pt rs u = pt rs v) (hne : u ≠ v)
    (ho : ∀ y : Int, 0 ≤ y ∧ y < (n : Int) → pt rs y = pt rs u → y ≠ u → y ≠ v → rope y ∈ R) : jl L R (acr u) = jl L R v := by
  obtain ⟨k0, hk0⟩ := row_reach D.d hu hv h
  have hm := next_mem D.d
  -- the least such k
  have ex : ∃ k, itr (nextIn rs) k u = v ∧ ∀ j, j < k → itr (nextIn rs) j u ≠ v := by
    have : ∀ m, (∃ k, k ≤ m ∧ itr (nextIn rs) k u = v) → ∃ k, itr (nextIn rs) k u = v ∧ ∀ j, j < k → itr (nextIn rs) j u ≠ v := by
      intro m
      induction m with
      | zero => rintro ⟨k, hk, e⟩; exact ⟨k, e, fun j hj => by omega⟩
      | succ m ih =>
        rintro ⟨k, hk, e⟩
        by_cases q : ∃ j, j ≤ m ∧ itr (nextIn rs) j u = v
        · exact ih q
        · exact ⟨k, e, fun j hj e2 => q ⟨j, by omega, e2⟩⟩
    exact this k0 ⟨k0, Nat.le_refl _, hk0⟩
  obtain ⟨k, hk, hmin⟩ := ex
  have kpos : 0 < k := by
    rcases Nat.eq_zero_or_pos k with z | z
    · subst z; exact absurd hk hne
    · exact z
  have back : ∀ j, 0 < j → j < k → itr (nextIn rs) j u ≠ u := fun j j0 jk e => by
    refine hmin (k - j) (by omega) ?_
    have := itr_add (nextIn rs) (k - j) j u
    rw [show k - j + j = k by omega, hk, e] at this
    exact this.symm
  have at_ : ∀ j, pt rs (itr (nextIn rs) j u) = pt rs u := by
    intro j
    induction j with
    | zero => rfl
    | succ j ih => show pt rs (nextIn rs _) = _; rw [pt_next D.d.nd ((D.d.mem _).mpr (itr_in hm hu j)), ih]
  have step : ∀ z : Int, 0 ≤ z ∧ z < (n : Int) → jl L R (nextIn rs z) = jl L R (acr z) := fun z hz => by
    have az := acr_lt D.d.even hz.1 hz.2
    have e : nextIn rs z = nextIn L (acr z) := by rw [D.nx _ az, acr_acr]
    rw [e, jl_next D.e az]
  have go : ∀ j, j + 1 ≤ k → jl L R (itr (nextIn rs) (j + 1) u) = jl L R (acr u) := by
    intro j
    induction j with
    | zero => intro _; exact step u hu
    | succ j ih =>
      intro hj
      have hz := itr_in hm hu (j + 1)
      show jl L R (nextIn rs (itr (nextIn rs) (j + 1) u)) = _
      rw [step _ hz, jl_acr D.e hR hz.1 (ho _ hz (at_ _) (back _ (by omega) (by omega)) (hmin _ (by omega)))]
      exact ih (by omega)
  have := go (k - 1) (by omega)
  rw [show k - 1 + 1 = k by omega, hk] at this
  exact this.symm
theorem acr_self (x : Int) : acr x ≠ x := by unfold acr; omega
theorem nodup_ix {α : Type} {l : List α} (nd : l.Nodup) {i j : Nat} {x : α} (hi : l[i]? = some x) (hj : l[j]? = some x) : i = j := by
  have h1 := (List.getElem?_eq_some_iff.mp hi).1
  have h2 := (List.getElem?_eq_some_iff.mp hj).1
  exact (List.getElem?_inj h1 nd).mp (hi.trans hj.symm)
theorem rope_cases {x y : Int} (hx : 0 ≤ x) (hy : 0 ≤ y) (h : rope x = rope y) : x = y ∨ x = acr y := by unfold rope at h; unfold acr; omega
section
variable {rs L : Rs} {n : Nat} {q : List Int}
theorem Ring.next {i : Nat} {x : Int} (Q : Ring rs n q) (h : q[i]? = some x) : ∃ y, q[(i + 1) % q.length]? = some y ∧ pt rs (acr x) = pt rs y := by
  have hl := (List.getElem?_eq_some_iff.mp h).1
  have hm : (i + 1) % q.length < q.length := Nat.mod_lt _ (by omega)
  exact ⟨q[(i + 1) % q.length], List.getElem?_eq_getElem hm, Q.leads i x _ h (List.getElem?_eq_getElem hm)⟩
theorem Ring.sides1 (Q : Ring rs n q) (D : Dual rs L n) {i : Nat} {x y : Int} (hx : q[i]? = some x) (hy : q[(i + 1) % q.length]? = some y) :
    jl L (openR n q) x = jl L (openR n q) y ∧ jl L (openR n q) (acr x) = jl L (openR n q) (acr y) := by
  have hR := openR_lt D.d.even q
  have il := (List.getElem?_eq_some_iff.mp hx).1
  have hxm := Q.mem x (List.mem_of_getElem? hx)
  have hym := Q.mem y (List.mem_of_getElem? hy)
  have ax := acr_lt D.d.even hxm.1 hxm.2
  have hp := Q.leads i x y hx hy
  have hne : acr x ≠ y := by
    intro e
    have : rope y = rope x := by rw [← e, rope_acr]
    have hi : (q.map rope)[i]? = some (rope x) := by rw [List.getElem?_map, hx]; rfl
    have hj : (q.map rope)[(i + 1) % q.length]? = some (rope x) := by rw [List.getElem?_map, hy, ← this]; rfl
    have e2 := nodup_ix Q.rps hi hj
    rw [← e2, hx] at hy
    rw [← Option.some.inj hy] at e
    exact acr_self x e
  have ho : ∀ z : Int, 0 ≤ z ∧ z < (n : Int) → pt rs z = pt rs y → z ≠ y → z ≠ acr x → rope z ∈ openR n q := fun z hz hzp h1 h2 => by
    rw [openR_mem]
    refine ⟨rope_lt D.d.even hz, fun hm => ?_⟩
    obtain ⟨e, he, her⟩ := List.mem_map.mp hm
    obtain ⟨j, hj⟩ := List.mem_iff_getElem?.mp he
    have hem := Q.mem e he
    rcases rope_cases hz.1 hem.1 her.symm with c | c
    · -- z is an end of the ring: it stands where y does
      subst c
      have a1 : (q.map (pt rs))[j]? = some (pt rs z) := by rw [List.getElem?_map, hj]; rfl
      have a2 : (q.map (pt rs))[(i + 1) % q.length]? = some (pt rs z) := by rw [List.getElem?_map, hy, hzp]; rfl
      have := nodup_ix Q.pts a1 a2
      rw [this, hy] at hj
      exact h1 (Option.some.inj hj).symm
    · obtain ⟨w, hw, hwp⟩ := Q.next hj
      rw [← c, hzp] at hwp
      have a1 : (q.map (pt rs))[(j + 1) % q.length]? = some (pt rs y) := by rw [List.getElem?_map, hw, hwp]; rfl
      have a2 : (q.map (pt rs))[(i + 1) % q.length]? = some (pt rs y) := by rw [List.getElem?_map, hy]; rfl
      have e1 := nodup_ix Q.pts a1 a2
      have jl' := (List.getElem?_eq_some_iff.mp hj).1
      have : i = j := by
        rcases Nat.lt_or_ge (i + 1) q.length with p | p
        · rcases Nat.lt_or_ge (j + 1) q.length with p' | p'
          · rw [Nat.mod_eq_of_lt p, Nat.mod_eq_of_lt p'] at e1; omega
          · rw [show j + 1 = q.length by omega, Nat.mod_self, Nat.mod_eq_of_lt p] at e1; omega
        · rcases Nat.lt_or_ge (j + 1) q.length with p' | p'
          · rw [show i + 1 = q.length by omega, Nat.mod_self, Nat.mod_eq_of_lt p'] at e1; omega
          · omega
      subst this
      rw [hx] at hj
      rw [← Option.some.inj hj] at c
      exact h2 c
  constructor
  · have := rot_to D hR ax hym hp hne (fun z hz h1 h2 h3 => ho z hz (h1.trans hp) h3 h2)
    rw [acr_acr] at this
    exact this
  · exact (rot_to D hR hym ax hp.symm (Ne.symm hne) (fun z hz h1 h2 h3 => ho z hz h1 h2 h3)).symm
/-- all ends of a ring lie on one side, all those across on the other -/
theorem Ring.side (Q : Ring rs n q) (D : Dual rs L n) {x0 : Int} (h0 : q[0]? = some x0) : ∀ (i : Nat) (x : Int), q[i]? = some x → jl L (openR n q) x = jl L (openR n q) x0 ∧ jl L (openR n q) (acr x) = jl L (openR n q) (acr x0) := by
  intro i
  induction i with
  | zero => intro x h; rw [h0] at h; cases h; exact ⟨rfl, rfl⟩
  | succ i ih =>
    intro x h
    have hl := (List.getElem?_eq_some_iff.mp h).1
    have hi : q[i]? = some q[i] := List.getElem?_eq_getElem (by omega)
    obtain ⟨a, b⟩ := Q.sides1 D hi (by rw [Nat.mod_eq_of_lt hl]; exact h)
    obtain ⟨c, e⟩ := ih _ hi
    exact ⟨a.symm.trans c, b.symm.trans e⟩
/-- the ring's first rope joins what the other ones do -/
theorem Ring.joined (Q : Ring rs n q) (d : Dr rs n) {R : List Nat} (hR : ∀ k ∈ R, 2 * k + 1 < n) {x0 : Int} {t : List Int} (hq : q = x0 :: t) (hin : ∀ x ∈ t, rope x ∈ R) : jl rs R (acr x0) = jl rs R x0 := by
  have hl : q.length = t.length + 1 := by rw [hq]; rfl
  have h0 : q[0]? = some x0 := by rw [hq]; rfl
  have key : ∀ (i : Nat) (x : Int), q[i]? = some x → jl rs R (acr x) = jl rs R (acr x0) := by
    intro i
    induction i with
    | zero => intro x h; rw [h0] at h; cases h; rfl
    | succ i ih =>
      intro x h
      have hil := (List.getElem?_eq_some_iff.mp h).1
      have hi : q[i]? = some q[i] := List.getElem?_eq_getElem (by omega)
      have hp := Q.leads i _ x hi (by rw [Nat.mod_eq_of_lt hil]; exact h)
      have hx : x ∈ t := by
        have : (x0 :: t)[i + 1]? = some x := hq ▸ h
        exact List.mem_of_getElem? (i := i) (by simpa using this)
      rw [jl_acr d hR (Q.mem x (List.mem_of_getElem? h)).1 (hin x hx), ← ih _ hi]
      unfold jl
      rw [hp]
  have hlast : q[q.length - 1]? = some q[q.length - 1] := List.getElem?_eq_getElem (by omega)
  rw [← key _ _ hlast]
  have hp := Q.leads _ _ x0 hlast (by rw [show q.length - 1 + 1 = q.length by omega, Nat.mod_self]; exact h0)
  unfold jl
  rw [hp]
/-- in a flat drawing a ring parts the faces -/
theorem Ring.parts (Q : Ring rs n q) (d : Dr rs n) (c : Cycs (stp rs) n L) {C : Nat} (hC : DC (heads rs.length (prs rs n)) C) (flat : 2 * C + n / 2 = rs.length + L.length + aln rs) {x0 : Int} {t : List Int} (hq : q = x0 :: t) :
    jl L (openR n q) x0 ≠ jl L (openR n q) (acr x0) := by
  intro same
  have D : Dual rs L n := .of d c
  have hall := allR_lt d.even
  have hO := openR_lt d.even q
  have h0 : q[0]? = some x0 := by rw [hq]; rfl
  have hx0 := Q.mem x0 (List.mem_of_getElem? h0)
  -- the open ropes join all faces
  have jAll : ∀ r ∈ allR n, jl L (openR n q) (2 * (r : Int)) = jl L (openR n q) (2 * (r : Int) + 1) := fun r hr => by
    by_cases hm : r ∈ q.map rope
    · obtain ⟨x, hx, rfl⟩ := List.mem_map.mp hm
      obtain ⟨i, hi⟩ := List.mem_iff_getElem?.mp hx
      obtain ⟨a, b⟩ := Q.side D h0 i x hi
      have e : jl L (openR n q) x = jl L (openR n q) (acr x) := by rw [a, b, same]
      rcases rope_of (Q.mem x hx).1 with ⟨p1, p2⟩ | ⟨p1, p2⟩
      · rw [p2] at e
        rw [show jl L (openR n q) x = jl L (openR n q) (2 * (rope x : Int)) from congrArg _ p1] at e
        exact e
      · rw [p2] at e
        rw [show jl L (openR n q) x = jl L (openR n q) (2 * (rope x : Int) + 1) from congrArg _ p1] at e
        exact e.symm
    · exact jl_pair D.e hO (openR_mem.mpr ⟨mem_allR.mp hr, hm⟩)
  have mO : ∀ k ∈ openR n q, k ∈ allR n := fun k hk => (List.mem_filter.mp hk).1
  generalize hB : kru L [] (openR n q) = B
  have mB : ∀ k ∈ B, k ∈ openR n q := by rw [← hB]; exact kru_mem
  have tB : Tree L B := by rw [← hB]; exact kru_tree _ .nil
  have jB : ∀ r ∈ openR n q, jl L B (2 * (r : Int)) = jl L B (2 * (r : Int) + 1) := by rw [← hB]; exact kru_join D.e _ (by simpa using hO)
  have sB : B.Sublist (allR n) := by
    obtain ⟨S, e, h⟩ := kru_sub (rs := L) (openR n q) []
    rw [List.nil_append] at e
    rw [← hB, e]; exact h.trans List.filter_sublist
  have hBl : ∀ k ∈ B, 2 * k + 1 < n := fun k hk => hO k (mB k hk)
  obtain ⟨b1, b2⟩ := tB.dc D.e hBl
  have b3 := dc_jn D.e hBl hO (fun k hk => jl_pair D.e hO (mB k hk)) jB b2
  have b4 := dc_jn D.e hO hall (fun k hk => jl_pair D.e hall (mO k hk)) jAll b3
  have hC' : DC (jn rs (allR n)) C := hC
  have cnt := D.count (fun r hr => (c.cyc r hr).ne) b4 hC'
  -- the ropes off the tree of faces join all points
  have ndAll : (allR n).Nodup := List.nodup_range
  have mR : ∀ k ∈ butR (allR n) B, k ∈ allR n := fun k hk => (List.mem_filter.mp hk).1
  have hRl : ∀ k ∈ butR (allR n) B, 2 * k + 1 < n := fun k hk => hall k (mR k hk)
  have lenR : B.length + (butR (allR n) B).length = n / 2 := by
    have := (split_perm ndAll sB).length_eq
    rw [List.length_append] at this
    unfold allR at this ⊢
    rw [List.length_range] at this
    exact this
  have jP : ∀ r ∈ allR n, jl rs (butR (allR n) B) (2 * (r : Int)) = jl rs (butR (allR n) B) (2 * (r : Int) + 1) := fun r hr => by
    by_cases z : r ∈ B
    · exact tree_dual D.symm tB hBl hRl (fun k hk hn => List.mem_filter.mpr ⟨mem_allR.mpr hk, by simpa using hn⟩) r z
    · exact jl_pair d hRl (List.mem_filter.mpr ⟨hr, by simpa using z⟩)
  -- and so do those without the ring's first rope
  have r0 : rope x0 ∈ butR (allR n) B := by
    refine List.mem_filter.mpr ⟨mem_allR.mpr (rope_lt d.even hx0), ?_⟩
    have : rope x0 ∉ B := fun z => (openR_mem.mp (mB _ z)).2 (List.mem_map.mpr ⟨x0, List.mem_of_getElem? h0, rfl⟩)
    simpa using this
  have ndR : (butR (allR n) B).Nodup := ndAll.filter _
  have mS : ∀ k ∈ (butR (allR n) B).erase (rope x0), k ∈ butR (allR n) B := fun k hk => List.mem_of_mem_erase hk
  have hSl : ∀ k ∈ (butR (allR n) B).erase (rope x0), 2 * k + 1 < n := fun k hk => hRl k (mS k hk)
  have lenS := List.length_erase_of_mem r0
  have posR := List.length_pos_of_mem r0
  have jr0 := Q.joined d hSl hq (fun x hx => by
    have hxq : x ∈ q := by rw [hq]; exact List.mem_cons_of_mem _ hx
    have hne : rope x ≠ rope x0 := by
      have nd := Q.rps
      rw [hq, List.map_cons] at nd
      exact fun e => (List.nodup_cons.mp nd).1 (e ▸ List.mem_map.mpr ⟨x, hx, rfl⟩)
    refine (List.mem_erase_of_ne hne).mpr (List.mem_filter.mpr ⟨mem_allR.mpr (rope_lt d.even (Q.mem x hxq)), ?_⟩)
    have : rope x ∉ B := fun z => (openR_mem.mp (mB _ z)).2 (List.mem_map.mpr ⟨x, hxq, rfl⟩)
    simpa using this)
  have jS : ∀ r ∈ butR (allR n) B, jl rs ((butR (allR n) B).erase (rope x0)) (2 * (r : Int)) = jl rs ((butR (allR n) B).erase (rope x0)) (2 * (r : Int) + 1) := fun r hr => by
    by_cases z : r = rope x0
    · subst z
      rcases rope_of hx0.1 with ⟨p1, p2⟩ | ⟨p1, p2⟩
      · rw [p2] at jr0
        rw [jr0]
        exact congrArg _ p1.symm
      · rw [p2] at jr0
        rw [jr0]
        exact congrArg _ p1
    · exact jl_pair d hSl ((List.mem_erase_of_ne z).mpr hr)
  obtain ⟨k, g1, g2⟩ := jn_ge d ((butR (allR n) B).erase (rope x0)).reverse (by rw [List.reverse_reverse]; exact hSl)
  rw [List.reverse_reverse] at g1
  rw [List.length_reverse] at g2
  have g3 := dc_jn d hSl hRl (fun r hr => jl_pair d hRl (mS r hr)) jS g1
  have g4 := dc_jn d hRl hall (fun r hr => jl_pair d hall (mR r hr)) jP g3
  have := g4.uniq hC'
  omega
end
end Ink

namespace Ink
/-! ### in a flat drawing some point has five neighbours at the most -/
def Adj (rs : Rs) (n : Nat) (i j : Nat) : Prop := ∃ x : Int, (0 ≤ x ∧ x < (n : Int)) ∧ pt rs x = i ∧ pt rs (acr x) = j
def Flat (rs : Rs) (n : Nat) : Prop := ∃ F C, Cts rs n F C ∧ 2 * C + n / 2 = rs.length + F + aln rs
structure Simple (rs : Rs) (n : Nat) (S : List Nat) : Prop where
  inS : ∀ x : Int, 0 ≤ x ∧ x < (n : Int) → pt rs x ∈ S
  noLoop : ∀ x : Int, 0 ≤ x ∧ x < (n : Int) → pt rs x ≠ pt rs (acr x)
  once : ∀ x y : Int, 0 ≤ x ∧ x < (n : Int) → 0 ≤ y ∧ y < (n : Int) → pt rs x = pt rs y → pt rs (acr x) = pt rs (acr y) → x = y
theorem flat_ge {k : Nat} : ∀ {L : Rs}, (∀ r ∈ L, k ≤ r.length) → k * L.length ≤ L.flatten.length
  | [], _ => by simp
  | r :: L, h => by
    have h1 := h r (by simp)
    have h2 := flat_ge (L := L) fun r hr => h r (by simp [hr])
    rw [List.length_cons, List.flatten_cons, List.length_append, Nat.mul_succ]
    omega
end Ink

/-! More rules over the hand layer: comprehensions, ranges with a step. -/
namespace L2
open PySem PySem.Spec PyProof.Rows

/-! ### comprehensions -/
theorem relabel_some {env : Env} : ∀ {names : List (Str × NameKind)} {y : Str} {k : NameKind}, names.lookup y = some k →
    ∃ k', (names.map fun (n, k) => if (k == NameKind.free && env.scope.kind == .function && env.kindOf n == some .cell) then (n, NameKind.cell) else (n, k)).lookup y = some k' ∧ (k' = k ∨ (k = .free ∧ k' = .cell))
  | [], _, _, h => by simp at h
  | (n, j) :: r, y, k, h => by
    show ∃ k', List.lookup y ((if (j == NameKind.free && env.scope.kind == .function && env.kindOf n == some .cell) = true then (n, NameKind.cell) else (n, j)) :: _) = some k' ∧ _
    by_cases hy : (y == n) = true
    · rw [List.lookup_cons, hy] at h
      cases h
      by_cases hc : (j == NameKind.free && env.scope.kind == .function && env.kindOf n == some .cell) = true
      · rw [if_pos hc, List.lookup_cons, hy]
        refine ⟨_, rfl, .inr ⟨?_, rfl⟩⟩
        rw [Bool.and_eq_true, Bool.and_eq_true] at hc
        exact eq_of_beq hc.1.1
      · rw [if_neg hc, List.lookup_cons, hy]
        exact ⟨_, rfl, .inl rfl⟩
    · have hy' : (y == n) = false := by simpa using hy
      rw [List.lookup_cons, hy'] at h
      obtain ⟨k', e, z⟩ := relabel_some (env := env) h
      refine ⟨k', ?_, z⟩
      by_cases hc : (j == NameKind.free && env.scope.kind == .function && env.kindOf n == some .cell) = true
      · rw [if_pos hc, List.lookup_cons, hy']; exact e
      · rw [if_neg hc, List.lookup_cons, hy']; exact e
theorem relabel_none {env : Env} : ∀ {names : List (Str × NameKind)} {y : Str}, names.lookup y = none →
    (names.map fun (n, k) => if (k == NameKind.free && env.scope.kind == .function && env.kindOf n == some .cell) then (n, NameKind.cell) else (n, k)).lookup y = none
  | [], _, _ => rfl
  | (n, j) :: r, y, h => by
    show List.lookup y ((if (j == NameKind.free && env.scope.kind == .function && env.kindOf n == some .cell) = true then (n, NameKind.cell) else (n, j)) :: _) = none
    by_cases hy : (y == n) = true
    · rw [List.lookup_cons, hy] at h
      cases h
    · have hy' : (y == n) = false := by simpa using hy
      rw [List.lookup_cons, hy'] at h
      have e := relabel_none (env := env) h
      by_cases hc : (j == NameKind.free && env.scope.kind == .function && env.kindOf n == some .cell) = true
      · rw [if_pos hc, List.lookup_cons, hy']; exact e
      · rw [if_neg hc, List.lookup_cons, hy']; exact e

/-- what a comprehension's scope must be: x its variable, caps the places of the names of the def that it reads -/
structure Blk (X : Cx) (x : Str) (caps : List Nat) (scope : Scope) (cl : List (Str × Addr)) : Prop where
  clos : closureFor scope X.env = pure cl
  nocell : ∀ y ∈ scope.names, y.2 ≠ .cell
  kind : scope.kind = .function
  names : ∀ y ∈ scope.names, y.2 = .local → scope.names.lookup y.1 = some .local
  loc : scope.names.lookup x = some .local
  sub : ∀ y c, cl.lookup y = some c → X.env.cells.lookup y = some c
  has : ∀ y, scope.names.lookup y = some .free → ∃ c, cl.lookup y = some c
  noloc : ∀ y, scope.names.lookup y = some .local → cl.lookup y = none
  nd : (x :: caps.map fun i => X.N.getD i "").Nodup
  cap : ∀ i ∈ caps, ∃ y, X.N[i]? = some y ∧ scope.names.lookup y = some .free ∧ (X.env.scope.names.lookup y = some .cell ∨ X.env.scope.names.lookup y = some .free)
/-- .. that reads none of the def's names -/
theorem Blk.plain {X : Cx} {x : Str} {scope : Scope} (hk : scope.kind = .function) (h : (scope.names.all fun y => y.2 != .cell && y.2 != .free && (y.2 != .local || scope.names.lookup y.1 == some .local)) = true) (hx : scope.names.lookup x = some .local) : Blk X x [] scope [] where
  clos := closureFor_none fun y hy => by
    have := List.all_eq_true.mp h y hy
    intro e
    rw [e] at this
    simp at this
  nocell := fun y hy e => by
    have := List.all_eq_true.mp h y hy
    rw [e] at this
    simp at this
  kind := hk
  names := fun y hy e => by
    have := List.all_eq_true.mp h y hy
    rw [e] at this
    simpa using this
  loc := hx
  sub := fun y c e => by cases e
  has := fun y e => by
    have := List.all_eq_true.mp h _ (PySem.mem_of_lookup e)
    simp at this
  noloc := fun _ _ => rfl
  nd := by simp
  cap := fun i hi => by cases hi

def Cx.blkN (X : Cx) (x : Str) (caps : List Nat) : List Str := x :: caps.map fun i => X.N.getD i ""
/-- the block's context -/
def Cx.blk (X : Cx) (x : Str) (caps : List Nat) (scope : Scope) (cl : List (Str × Addr)) (C : Addr) (fp : List Addr) (s : Shared) (H : Hp) : Cx :=
  { X with N := X.blkN x caps, s₀ := s, H₀ := H, env := compEnvC scope cl C X.env, outer := X.stack, ex := fp, fn := fun y => (scope.names.lookup y == some .local), pn := [], xe := fun _ _ => False }
def capSt (σ : St) (caps : List Nat) : St := caps.map fun i => σ.getD i none

section
variable {X : Cx} {pins : List (Addr × Obj)} {σ : St} {H : Hp} {s : Shared} {x : Str} {caps : List Nat} {scope : Scope} {cl : List (Str × Addr)} {fp : List Addr} {C : Addr}
theorem Blk.ok (B : Blk X x caps scope cl) (I : Inv X pins σ H s) (hf : ∀ b ∈ fp, FpOk X pins H b) (hfl : ∀ b ∈ fp, b < s.heap.objs.size) (hC : s.heap.objs.size ≤ C) : (X.blk x caps scope cl C fp s H).Ok where
  mod := I.ok.mod
  kind := B.kind
  glob := I.ok.glob
  blt := I.ok.blt
  above := hC
  inj := fun y z c h1 h2 => I.ok.inj y z c (B.sub y c h1) (B.sub z c h2)
  has := fun y hy => by
    cases e : scope.names.lookup y with
    | none =>
      have q : (compEnvC scope cl C X.env).kindOf y = none := relabel_none (env := X.env) e
      have hy' : (compEnvC scope cl C X.env).kindOf y = some .cell ∨ (compEnvC scope cl C X.env).kindOf y = some .free := hy
      rw [q] at hy'
      rcases hy' with z | z <;> cases z
    | some k =>
      obtain ⟨k', q, z⟩ := relabel_some (env := X.env) e
      have hy' : (compEnvC scope cl C X.env).kindOf y = some .cell ∨ (compEnvC scope cl C X.env).kindOf y = some .free := hy
      have q' : (compEnvC scope cl C X.env).kindOf y = some k' := q
      rw [q'] at hy'
      have nc := B.nocell _ (PySem.mem_of_lookup e)
      rcases z with rfl | ⟨rfl, rfl⟩
      · rcases hy' with z | z
        · exact absurd (Option.some.inj z) nc
        · cases z; exact B.has y e
      · exact B.has y e
  cab := fun y c h1 h2 => by
    have e : scope.names.lookup y = some .local := eq_of_beq h1
    have h3 : cl.lookup y = some c := h2
    rw [B.noloc y e] at h3
    cases h3
  hd := I.ok.hd
  frames := I.ok.frames
  stk := .inl rfl
  exf := fun b hb => ⟨Nat.ne_of_lt (Nat.lt_of_lt_of_le (hfl b hb) hC), fun y c e => (hf b hb).2.2.2.2.1 y c (B.sub y c e)⟩
  bs := I.bs
  bsz := Nat.le_trans I.ok.bsz I.sz
  noex := fun b o e hb => by
    rcases (hf b hb).2.2.2.1 with z | z
    · exact I.ok.noex b o e z
    · exact absurd (Nat.lt_of_lt_of_le (Heap.lt_size e) (Nat.le_trans I.ok.bsz z)) (Nat.lt_irrefl _)
  exfs := fun b hb z => by
    rcases List.mem_cons.mp (I.stkSub b z) with e | e
    · exact (hf b hb).2.1 e
    · exact (hf b hb).2.2.1 e
  funs := I.stack
  frf := I.stkFree
theorem capN {X : Cx} {caps : List Nat} {x : Str} {j : Nat} {y : Str} (h : (X.blkN x caps)[j + 1]? = some y) : ∃ i, caps[j]? = some i ∧ y = X.N.getD i "" := by
  unfold Cx.blkN at h
  rw [List.getElem?_cons_succ, List.getElem?_map] at h
  cases e : caps[j]? with
  | none => rw [e] at h; cases h
  | some i => rw [e] at h; exact ⟨i, rfl, (Option.some.inj h).symm⟩
theorem Blk.start (B : Blk X x caps scope cl) (I : Inv X pins σ H s) (hf : ∀ b ∈ fp, FpOk X pins H b) (hfl : ∀ b ∈ fp, b < s.heap.objs.size) (hC : s.heap.objs.size < C) {h₁ : Heap} {t : Nat} {m₁ : Str → Option Value} (k : ∀ b o, s.heap.get? b = some o → h₁.get? b = some o)
    (hns : h₁.Ns C m₁) (hD : h₁.get? s.heap.objs.size = some { cls := .type "list", data := .seq #[] 0 }) :
    Inv (X.blk x caps scope cl C fp s H) [] (none :: capSt σ caps) (upd H s.heap.objs.size (.lst [])) { s with heap := h₁, toks := t } := by
  have fr : H s.heap.objs.size = none := I.hok.fresh (Nat.le_refl _)
  have frC : H C = none := I.hok.fresh (Nat.le_of_lt hC)
  refine ⟨B.ok I hf hfl (Nat.le_of_lt hC), rfl, I.bare, Un.laid k (Nat.le_refl _) fr, ⟨m₁, hns, ?_⟩, ?_, ?_, ?_, ?_, ?_, ?_⟩
  · intro j y v e1 e2 e3
    cases j with
    | zero => cases e2
    | succ j =>
      obtain ⟨i, hi, ey⟩ := capN (X := X) e1
      have e2' : (capSt σ caps)[j]? = some (some v) := e2
      unfold capSt at e2'
      rw [List.getElem?_map, hi] at e2'
      have e2'' : σ.getD i none = some v := Option.some.inj e2'
      obtain ⟨y', hy', l1, l2⟩ := B.cap i (List.mem_of_getElem? hi)
      have eyy : y = y' := by rw [ey, List.getD_eq_getElem?_getD, hy']; rfl
      subst eyy
      have hσ : σ[i]? = some (some v) := by
        rw [List.getD_eq_getElem?_getD] at e2''
        cases q : σ[i]? with
        | none => rw [q] at e2''; cases e2''
        | some z => rw [q] at e2''; have : z = some v := e2''; rw [this]
      obtain ⟨c, hc⟩ := B.has y l1
      have hcX := B.sub y c hc
      obtain ⟨m, hn, hl⟩ := I.loc
      obtain ⟨u, ru, lk⟩ := hl i y v hy' hσ (.inr l2)
      refine ⟨u, ru, .inr ⟨?_, c, hc, ?_⟩⟩
      · obtain ⟨k', q, z⟩ := relabel_some (env := X.env) l1
        have q' : (compEnvC scope cl C X.env).kindOf y = some k' := q
        rcases z with rfl | ⟨_, rfl⟩
        · exact .inr q'
        · exact .inl q'
      · rcases lk with ⟨k1, _⟩ | ⟨_, c', hc', z⟩
        · have k1' : X.env.scope.names.lookup y = some .local := k1
          rcases l2 with l2 | l2 <;> rw [l2] at k1' <;> cases k1'
        · rw [hcX] at hc'
          cases hc'
          obtain ⟨o, ho, hd⟩ := z
          exact ⟨o, k c o ho, hd⟩
  · intro y c e
    obtain ⟨v, o, ho, hd⟩ := I.cell y c (B.sub y c e)
    exact ⟨v, o, k c o ho, hd⟩
  · show upd H s.heap.objs.size (.lst []) C = none
    rw [upd_ne (Nat.ne_of_gt hC)]
    exact frC
  · intro y c e
    obtain ⟨v, o, ho, hd⟩ := I.cell y c (B.sub y c e)
    rw [upd_ne (Nat.ne_of_lt (Heap.lt_size ho))]
    exact I.freeC y c (B.sub y c e)
  · intro p hp
    exact absurd (show p ∈ ([] : List (Addr × Obj)) from hp) (by simp)
  · exact I.hok.laid k (Nat.le_refl _) ⟨Nat.zero_le _, [], 0, .nil, hD⟩
  · show (none :: capSt σ caps).length = (X.blkN x caps).length
    unfold capSt Cx.blkN
    simp

/-- what changes at one address alone that was not there ahead -/
theorem Un.sameBut {fs ex : List Addr} {H H1 : Hp} {h h1 h2 : Heap} {a : Addr} (u : Un fs ex H H1 h h1) (sb : Heap.SameBut a h1 h2) (hn : h.get? a = none) : Un fs ex H H1 h h2 where
  keep := fun b o e n h1 h2 => (sb.2 b (by rintro rfl; rw [hn] at e; cases e)).trans (u.keep b o e n h1 h2)
  slot := fun b o e n h1 h2 => by
    obtain ⟨sl, q⟩ := u.slot b o e n h1 h2
    exact ⟨sl, (sb.2 b (by rintro rfl; rw [hn] at e; cases e)).trans q⟩
  free := u.free
  there := fun b o e hx => by
    obtain ⟨o', q⟩ := u.there b o e hx
    exact ⟨o', (sb.2 b (by rintro rfl; rw [hn] at e; cases e)).trans q⟩
  tups := u.tups
  frzs := u.frzs
  tbls := u.tbls
theorem HOk.sameBut {P : Program} {w : World} {H : Hp} {h h2 : Heap} {a : Addr} (ok : HOk P w H h) (sb : Heap.SameBut a h h2) (hn : H a = none) : HOk P w H h2 := fun b u e =>
  (ok b u e).stay (fun c v hc q => (sb.2 c (by
    rintro rfl
    rcases hc with rfl | hc
    · rw [hn] at e; cases e
    · rw [hn] at hc; cases hc)).trans q) (fun _ q => q) fun _ _ q => q
end

/-! the tests of a comprehension -/
def PTs (X : Cx) (ifs : List Expr) (t : TT) : Prop :=
  ∀ (pins : List (Addr × Obj)) (s : Shared) (σ : St) (H : Hp) (Q : Bool → Hp → Prop), Inv X pins σ H s → t σ H Q →
    wpAny (model X.prog X.w) X.A (forIn ifs true fun c r => if r = true then do let ok ← isTrue c X.env (eval c X.env); pure (ForInStep.yield ok) else pure (ForInStep.yield r)) (TP X pins σ Q) X.xe s
def tYes : TT := fun _ H Q => Q true H
theorem pts_nil {X : Cx} : PTs X [] tYes := fun pins s σ H Q I h => wpAny_tests_nil ⟨H, I, h⟩
theorem pts_one {X : Cx} {c : Expr} {t : TT} (h : PT X c t) : PTs X [c] t := fun pins s σ H Q I q => wpAny_tests_one (h pins s σ H Q I q)

/-- D: the new list; W: the invariant by the turn and a measure -/
def tComp (wi : TI) (tc : TT) (te : TE) (caps : List Nat) : TE := fun σ H Q => wi σ H fun J H1 => ∀ D, H1 D = none → ∃ W : Nat → Nat → Hp → Prop, (∃ m, W 0 m (upd H1 D (.lst []))) ∧ ∀ i m H, W i m H →
  (J.stop i H ∧ Q (.ref D) H) ∨ (J.go i H ∧ ∃ N : Hp → Prop, (∀ H', N H' → ∃ m', m' < m ∧ W (i + 1) m' H') ∧ ∀ x H', J.yld i H x H' →
    tc (some x :: capSt σ caps) H' fun b H3 => if b = true then te (some x :: capSt σ caps) H3 fun y H4 => ∃ ys, H4 D = some (.lst ys) ∧ ys.length < sizeLine ∧ N (upd H4 D (.lst (ys ++ [y]))) else N H3)
section
variable {X : Cx}
theorem pe_comp {elt iter : Expr} {x : Str} {px : Pos} {ifs : List Expr} {scope : Scope} {pos : Pos} {wi : TI} {tc : TT} {te : TE} {caps : List Nat} {cl : List (Str × Addr)}
    (hc : X.calm = true) (B : Blk X x caps scope cl) (hi : PI X (.Name x px) iter wi)
    (ht : ∀ C fp s H, PTs (X.blk x caps scope cl C fp s H) ifs tc) (he : ∀ C fp s H, PE (X.blk x caps scope cl C fp s H) elt te)
    (hs : ∀ v, foldedSetIterable iter X.env v = pure v := by intro _; rfl) : PE X (.ListComp elt [⟨.Name x px, iter, ifs, 0⟩] scope pos) (tComp wi tc te caps) := by
  intro pins s σ H Q I h
  rw [eval_ListComp]
  refine wpAny_comprehension_free (use := none) rfl hs B.clos B.kind B.names (thn (hi pins s σ H _ I h) fun v s1 h1 => thn h1 fun itv s2 h2 => ?_)
  obtain ⟨it, fp, tn, J, H2, rfl, I2, T, st2, f2, q2⟩ := h2
  obtain ⟨W, ⟨m0, w0⟩, turn⟩ := q2 s2.heap.objs.size (I2.hok.fresh (Nat.le_refl _))
  have hfl : ∀ b ∈ fp, b < s2.heap.objs.size := fun b hb => by
    obtain ⟨o, e, _⟩ := T.obj _ _ st2 b hb
    exact Heap.lt_size e
  refine wpAny_newObj_type (wpAny_newFunctionEnv B.nocell (by intro y hy; simp at hy) (fun h₁ hns₁ hsb₁ => ?_) B.kind)
  dsimp only at hns₁ hsb₁ ⊢
  generalize hH2 : s2.heap.push { cls := .type "list", dict := none, data := .seq ([] : List Value).toArray } = HP at hns₁ hsb₁ ⊢
  have hC : HP.objs.size = s2.heap.objs.size + 1 := by rw [← hH2, Heap.size_push]
  have hClt : s2.heap.objs.size < HP.objs.size := by rw [hC]; exact Nat.lt_succ_self _
  have old : ∀ b o, s2.heap.get? b = some o → h₁.get? b = some o := fun b o e =>
    hsb₁.extBut b o (Nat.ne_of_lt (Nat.lt_trans (Heap.lt_size e) hClt)) (Heap.get?_push_of_some _ (hH2 ▸ Heap.get?_push_of_some _ e))
  have hacc : h₁.get? s2.heap.objs.size = some { cls := .type "list", data := .seq #[] 0 } :=
    hsb₁.extBut _ _ (Nat.ne_of_lt hClt) (Heap.get?_push_of_some _ (hH2 ▸ Heap.get?_push_size _ rfl))
  have I3 := B.start (t := s2.toks + ([] : List (Str × Value)).length) I2 f2 hfl hClt old hns₁ hacc
  have st3 : tn 0 h₁ := T.keep _ _ _ st2 fun b hb o e => old b o e
  have stat : ∀ {H' : Hp}, (∀ b ∈ fp, H' b = none) → ∀ b ∈ fp, FpOk (X.blk x caps scope cl HP.objs.size fp s2 H2) [] H' b := fun hn b hb =>
    ⟨hn b hb, ((B.ok I2 f2 hfl (Nat.le_of_lt hClt)).exf b hb).1, (B.ok I2 f2 hfl (Nat.le_of_lt hClt)).exfs b hb, .inl hb, ((B.ok I2 f2 hfl (Nat.le_of_lt hClt)).exf b hb).2, fun p hp => absurd (show p ∈ ([] : List (Addr × Obj)) from hp) (by simp)⟩
  have fr3 : ∀ b ∈ fp, upd H2 s2.heap.objs.size (.lst []) b = none := fun b hb => by
    rw [upd_ne (Nat.ne_of_lt (hfl b hb))]
    exact (f2 b hb).1
  have nd : (X.blkN x caps)[0]? = some x := rfl
  have loop : ∀ s3 : Shared, s3 = { s2 with heap := h₁, toks := s2.toks + ([] : List (Str × Value)).length } →
      codeAny (model X.prog X.w) X.A (.compLoop (.ListComp elt [⟨.Name x px, iter, ifs, 0⟩] scope pos) 0 (.ref it) (.ref s2.heap.objs.size) (compEnvC scope cl HP.objs.size X.env))
        (compPost (model X.prog X.w) X.A X.xe none (EP X pins σ Q) (.ref s2.heap.objs.size) HP.objs.size) s3 := by
    rintro s3 rfl
    refine codeAny_loop rfl (fun n s' => ∃ i σ' H', Inv (X.blk x caps scope cl HP.objs.size fp s2 H2) [] (σ' :: capSt σ caps) H' s' ∧ tn i s'.heap ∧ (∀ b ∈ fp, H' b = none) ∧ W i n H') (fun n s4 hI => ?_) m0 ⟨0, none, _, I3, st3, fr3, w0⟩
    obtain ⟨i, σ4, H4, I4, st4, fr4, w4⟩ := hI
    show wpAny _ X.A ((compTurn (.ListComp elt [⟨.Name x px, iter, ifs, 0⟩] scope pos) 0 (.ref it) (.ref s2.heap.objs.size) (compEnvC scope cl HP.objs.size X.env)).onRaise (fun x => do noteFrame x (compEnvC scope cl HP.objs.size X.env); theTreesLotGoes x)) _ _ s4
    refine wpAny_noted ?_
    rw [compTurn_list]
    refine wpAny_bind (wpAny_standAt (wpAny_bind ?_))
    rcases turn i n H4 w4 with ⟨stop, qn⟩ | ⟨go, N, hN, step⟩
    · refine thn (T.done (X.blk x caps scope cl HP.objs.size fp s2 H2) rfl rfl rfl hc i [] s4 (σ4 :: capSt σ caps) H4 _ I4 (stat fr4) st4 stop) fun r s5 ⟨hr, I5⟩ => ?_
      subst hr
      refine wpAny_pure ?_
      obtain ⟨m, hn, _⟩ := id I5.loc
      refine ⟨m, hn, fun h' sb => ⟨.ref s2.heap.objs.size, H4, ?_, rfl, qn⟩⟩
      have hnC : s2.heap.get? HP.objs.size = none := Heap.get?_none_of_le (Nat.le_of_lt hClt)
      refine I2.call' (ch := fp) (s' := { s5 with heap := h' }) I5.os (Un.sameBut I5.base sb hnC) (I5.hok.sameBut sb I5.free) I5.bare fun b hb => ?_
      obtain ⟨f0, f1, f2', f3, f4, f5⟩ := f2 b hb
      exact ⟨f3, f1, f4, f5⟩
    · refine thn (T.item (X.blk x caps scope cl HP.objs.size fp s2 H2) rfl rfl rfl hc i [] s4 (σ4 :: capSt σ caps) H4 _ I4 (stat fr4) st4 go) fun r s5 ⟨u, hr, h5⟩ => ?_
      subst hr
      refine wpAny_bind (thn h5 fun _ s6 ⟨y, H6, I6, r6, y6, st6, fr6⟩ => ?_)
      have I6' := I6.pinned (stat fr6) (T.obj _ _ st6)
      have again : ∀ {σ7 : Option V} {H7 : Hp} {s7 : Shared}, Inv (X.blk x caps scope cl HP.objs.size fp s2 H2) ([] ++ pinsAt fp s6.heap) (σ7 :: capSt σ caps) H7 s7 → N H7 →
          ∃ m, m < n ∧ ∃ i σ' H', Inv (X.blk x caps scope cl HP.objs.size fp s2 H2) [] (σ' :: capSt σ caps) H' s7 ∧ tn i s7.heap ∧ (∀ b ∈ fp, H' b = none) ∧ W i m H' := fun {σ7 H7 s7} I7 n7 => by
        obtain ⟨m', hm, w7⟩ := hN H7 n7
        refine ⟨m', hm, i + 1, σ7, H7, I7.unpinned, T.keep _ _ _ st6 fun b hb o e => (I7.pin (b, o) (List.mem_append_right _ (List.mem_append_right _ (mem_pinsAt hb e)))).1, fun b hb => ?_, w7⟩
        obtain ⟨o, e, d⟩ := T.obj _ _ st6 b hb
        exact (I7.pin (b, o) (List.mem_append_right _ (List.mem_append_right _ (mem_pinsAt hb e)))).2.1
      have no : ∀ {E : Value → Shared → Prop} (e : Value) (s' : Shared), (X.blk x caps scope cl HP.objs.size fp s2 H2).xe e s' → E e s' := fun _ _ z => False.elim z
      refine wpAny_bind (wpAny_assign_Name (store_ok (X := X.blk x caps scope cl HP.objs.size fp s2 H2) (i := 0) I6' B.nd rfl (.inl (lookup_relabel_local B.loc)) r6 (fun s7 I7 => ?_) (.inr (lookup_relabel_local B.loc))))
      refine wpAny_bind (wpAny_mono (ht _ _ _ _ _ s7 (some y :: capSt σ caps) H6 _ I7 (step y H6 y6)) (fun ok s8 ⟨H8, I8, q8⟩ => ?_) no)
      cases ok with
      | false => exact wpAny_pure ⟨rfl, again I8 q8⟩
      | true =>
        refine wpAny_bind (wpAny_bind (wpAny_mono (he _ _ _ _ _ s8 (some y :: capSt σ caps) H8 _ I8 q8) (fun u s9 ⟨z, H9, I9, r9, ys, hD, hz, q9⟩ => ?_) no))
        refine wpAny_bind (wpAny_mono (mt_append (X := X.blk x caps scope cl HP.objs.size fp s2 H2) _ s9 (some y :: capSt σ caps) H9 (.ref s2.heap.objs.size) [z] (.ref s2.heap.objs.size) [u] (fun _ H10 => N H10) I9 rfl (.cons r9 .nil) ⟨_, ys, z, rfl, rfl, hD, hz, q9⟩) (fun _ s10 ⟨_, H10, I10, _, q10⟩ => ?_) no)
        exact wpAny_pure (wpAny_pure ⟨rfl, again I10 q10⟩)
  exact codeAny_compStart_list (loop _ rfl) (T.self _ _ _ _ _ st3 (loop _ rfl))
/-- over a list that the block leaves as it is -/
theorem comp_list {K : PySem.W.Frag} {a : Addr} {xs : List V} {tc : TT} {te : TE} {cσ : St} {H1 : Hp} {Qd : Hp → Prop} {D : Addr} (Pv : Nat → Hp → Prop) (h0 : Pv 0 (upd H1 D (.lst []))) (hl : ∀ i H, i ≤ xs.length → Pv i H → SqL K H a xs)
    (hs : ∀ i x H, xs[i]? = some x → Pv i H → tc (some x :: cσ) H fun b H3 => if b = true then te (some x :: cσ) H3 fun y H4 => ∃ ys, H4 D = some (.lst ys) ∧ ys.length < sizeLine ∧ Pv (i + 1) (upd H4 D (.lst (ys ++ [y]))) else Pv (i + 1) H3)
    (hd : ∀ H, Pv xs.length H → Qd H) :
    ∃ W : Nat → Nat → Hp → Prop, (∃ m, W 0 m (upd H1 D (.lst []))) ∧ ∀ i m H, W i m H →
      ((Itl K a).stop i H ∧ Qd H) ∨ ((Itl K a).go i H ∧ ∃ N : Hp → Prop, (∀ H', N H' → ∃ m', m' < m ∧ W (i + 1) m' H') ∧ ∀ x H', (Itl K a).yld i H x H' →
        tc (some x :: cσ) H' fun b H3 => if b = true then te (some x :: cσ) H3 fun y H4 => ∃ ys, H4 D = some (.lst ys) ∧ ys.length < sizeLine ∧ N (upd H4 D (.lst (ys ++ [y]))) else N H3) := by
  refine ⟨fun i m H => m = xs.length - i ∧ i ≤ xs.length ∧ Pv i H, ⟨xs.length, by simp, Nat.zero_le _, h0⟩, ?_⟩
  rintro i m H ⟨rfl, hi, p⟩
  have q := hl i H hi p
  by_cases hlt : i < xs.length
  · refine .inr ⟨⟨xs, xs[i], q, by simp [hlt]⟩, Pv (i + 1), fun H' p' => ⟨xs.length - (i + 1), by omega, rfl, hlt, p'⟩, fun x H' y => ?_⟩
    obtain ⟨e, y⟩ := y
    subst e
    exact hs i x _ (y xs q) p
  · have e : i = xs.length := by omega
    subst e
    exact .inl ⟨⟨xs, q, Nat.le_refl _⟩, hd H p⟩
theorem comp_range {lo : Int} {n : Nat} {tc : TT} {te : TE} {cσ : St} {H1 : Hp} {Qd : Hp → Prop} {D : Addr} (Pv : Nat → Hp → Prop) (h0 : Pv 0 (upd H1 D (.lst [])))
    (hs : ∀ i H, i < n → Pv i H → tc (some (.int (lo + i)) :: cσ) H fun b H3 => if b = true then te (some (.int (lo + i)) :: cσ) H3 fun y H4 => ∃ ys, H4 D = some (.lst ys) ∧ ys.length < sizeLine ∧ Pv (i + 1) (upd H4 D (.lst (ys ++ [y]))) else Pv (i + 1) H3)
    (hd : ∀ H, Pv n H → Qd H) :
    ∃ W : Nat → Nat → Hp → Prop, (∃ m, W 0 m (upd H1 D (.lst []))) ∧ ∀ i m H, W i m H →
      ((Itr lo n).stop i H ∧ Qd H) ∨ ((Itr lo n).go i H ∧ ∃ N : Hp → Prop, (∀ H', N H' → ∃ m', m' < m ∧ W (i + 1) m' H') ∧ ∀ x H', (Itr lo n).yld i H x H' →
        tc (some x :: cσ) H' fun b H3 => if b = true then te (some x :: cσ) H3 fun y H4 => ∃ ys, H4 D = some (.lst ys) ∧ ys.length < sizeLine ∧ N (upd H4 D (.lst (ys ++ [y]))) else N H3) := by
  refine ⟨fun i m H => m = n - i ∧ i ≤ n ∧ Pv i H, ⟨n, by simp, Nat.zero_le _, h0⟩, ?_⟩
  rintro i m H ⟨rfl, hi, p⟩
  by_cases hlt : i < n
  · refine .inr ⟨hlt, Pv (i + 1), fun H' p' => ⟨n - (i + 1), by omega, rfl, hlt, p'⟩, fun x H' y => ?_⟩
    obtain ⟨e, y⟩ := y
    subst e y
    exact hs i _ hlt p
  · have e : i = n := by omega
    subst e
    exact .inl ⟨Nat.le_refl _, hd H p⟩
end

/-! ### a range with a step -/
def Itrs (lo c : Int) (n : Nat) : It := ⟨fun i _ => i < n, fun i H x H' => H' = H ∧ x = .int (lo + i * c), fun i _ => n ≤ i⟩
theorem turn_rangeS {P : Program} {w : World} {K : PySem.W.Frag} {tg : Expr} (it : Addr) (lo c : Int) (n : Nat) : Turn P w K tg (Itrs lo c n) [it] it (fun i h => IsRangeIter h it (lo + (i : Nat) * c) ((n : Int) - (i : Nat)) c) where
  mem := by simp
  obj := fun i h st b hb => by
    have e : b = it := by simpa using hb
    subst e
    exact ⟨_, st, fun v z => by
      have z' : Data.fields _ = Data.cell v := z
      cases z'⟩
  keep := fun i h h' st k => k it (by simp) _ st
  item := by
    intro X hP hw hK hc i pins s σ H E I hf st hg
    subst hP hw hK
    obtain ⟨f0, f1, f2, f3, f4, f5⟩ := hf it (by simp)
    have W := Walks.range (prog := X.prog) (w := X.w) (I.ok.hd hc) it lo c n
    refine W.item i s _ _ hg st fun v h' tk hv st' kk => ?_
    obtain ⟨t, rfl⟩ := hv
    have I1 : Inv X pins σ H { s with heap := h', toks := tk } := I.turned (fun b o hb e => kk b o (by simpa using hb) e) f0 f1 f3 f4 f5
    exact ⟨_, rfl, go_of (s := { s with heap := h', toks := tk }) (n := "range_iterator") st' rfl rfl (by decide) ⟨.int (lo + i * c), H, I1, ⟨t, rfl⟩, ⟨rfl, rfl⟩, st', fun b hb => (hf b hb).1⟩⟩
  done := by
    intro X hP hw hK hc i pins s σ H E I hf st hg
    subst hP hw hK
    obtain ⟨f0, f1, f2, f3, f4, f5⟩ := hf it (by simp)
    exact wpAny_pyNext_range_end (I.ok.hd hc) st (by have : n ≤ i := hg; omega) fun h' eb => ⟨rfl, I.turned (t' := s.toks) (fun b o hb e => eb b o hb e) f0 f1 f3 f4 f5⟩
  self := fun _ _ _ _ _ st h => wpAny_pyIter_rangeiter st h
end L2

namespace L2
open PySem PySem.Spec PyProof.Rows

/-! ### for over range(a, b, c), c > 0 -/
theorem small_step {a b c : Int} (ha : -(2 ^ 62) ≤ a) (ha' : a < 2 ^ 62) (hb : -(2 ^ 62) ≤ b) (hb' : b < 2 ^ 62) (hc : 0 < c) (hc' : c < 2 ^ 30) : Builtin.Range.small a b c = true := by
  have hs : 0 ≤ Builtin.Range.rangeSize a b c ∧ Builtin.Range.rangeSize a b c ≤ 2 ^ 63 - 1 := by
    unfold Builtin.Range.rangeSize
    rw [if_pos hc]
    split
    · have h1 : 0 ≤ (b - a - 1) / c := Int.ediv_nonneg (by omega) (by omega)
      have h2 : (b - a - 1) / c ≤ b - a - 1 := Int.ediv_le_self _ (by omega)
      omega
    · omega
  have fit : ∀ i : Int, -(2 ^ 63) ≤ i → i < 2 ^ 63 → Builtin.Range.rangeFitsLong i = true := fun i h1 h2 => by
    unfold Builtin.Range.rangeFitsLong
    rw [Bool.and_eq_true]
    exact ⟨decide_eq_true h1, decide_eq_true h2⟩
  unfold Builtin.Range.small
  rw [if_pos hc, fit a (by omega) (by omega), fit b (by omega) (by omega), fit c (by omega) (by omega), fit (Builtin.Range.rangeSize a b c) (by omega) (by omega), fit (b + (c - 1)) (by omega) (by omega)]
  simp
def iRng3 (ta : TA) : TI := fun σ H R => ta σ H fun vs H1 => ∃ i j c : Int, vs = [.int i, .int j, .int c] ∧ (-(2 ^ 62) ≤ i ∧ i < 2 ^ 62 ∧ -(2 ^ 62) ≤ j ∧ j < 2 ^ 62 ∧ 0 < c ∧ c < 2 ^ 30) ∧ R (Itrs i c (Builtin.Range.rangeSize i j c).toNat) H1
section
variable {X : Cx} {tg : Expr}
theorem range_itS {pins : List (Addr × Obj)} {σ : St} {H : Hp} {s : Shared} {R : It → Hp → Prop} {E : Value → Shared → Prop} {lo hi c : Int} {t u v : Tok} {tk : Nat} (I : Inv X pins σ H s) (h1 : -(2 ^ 62) ≤ lo) (h2 : lo < 2 ^ 62) (h3 : -(2 ^ 62) ≤ hi) (h4 : hi < 2 ^ 62) (h5 : 0 < c) (h6 : c < 2 ^ 30)
    (q : R (Itrs lo c (Builtin.Range.rangeSize lo hi c).toNat) H) : wpAny (model X.prog X.w) X.A (pyIter (.ref s.heap.objs.size)) (PIE X pins σ tg R) E { s with heap := s.heap.push { cls := .type "range", data := .fields #[.int lo t, .int hi u, .int c v] }, toks := tk } := by
  refine wpAny_pyIter_range (IsRange.new ..) (small_step h1 h2 h3 h4 h5 h6) ?_
  have I1 : Inv X pins σ H { s with heap := s.heap.push { cls := .type "range", data := .fields #[.int lo t, .int hi u, .int c v] }, toks := tk } := I.kept fun b o e => Heap.get?_push_of_some _ e
  refine ⟨(s.heap.push { cls := .type "range", data := .fields #[.int lo t, .int hi u, .int c v] }).objs.size, [(s.heap.push { cls := .type "range", data := .fields #[.int lo t, .int hi u, .int c v] }).objs.size], _, _, H, rfl,
    I1.kept (t' := tk) fun b o e => Heap.get?_push_of_some _ e, turn_rangeS _ lo c (Builtin.Range.rangeSize lo hi c).toNat, ?_, fun b hb => ?_, q⟩
  · have hs : 0 ≤ Builtin.Range.rangeSize lo hi c := by
      unfold Builtin.Range.rangeSize
      rw [if_pos h5]
      split
      · have h1 : 0 ≤ (hi - lo - 1) / c := Int.ediv_nonneg (by omega) (by omega)
        omega
      · omega
    have e1 : lo + ((0 : Nat) : Int) * c = lo := by simp
    have e2 : (((Builtin.Range.rangeSize lo hi c).toNat : Nat) : Int) - ((0 : Nat) : Int) = Builtin.Range.rangeSize lo hi c := by omega
    show IsRangeIter _ _ (lo + ((0 : Nat) : Int) * c) ((((Builtin.Range.rangeSize lo hi c).toNat : Nat) : Int) - ((0 : Nat) : Int)) c
    rw [e1, e2]
    exact Heap.get?_push_size _ rfl
  · have e : b = (s.heap.push { cls := .type "range", data := .fields #[.int lo t, .int hi u, .int c v] }).objs.size := by simpa using hb
    subst e
    exact I1.fpOk (Nat.le_refl _) (I1.hok.fresh (Nat.le_refl _))
theorem pi_range3 {a b c : Expr} {ta : TA} {p pos : Pos} (hg : Gl X "range") (hm : X.mg "range" = none) (ha : PA X [a, b, c] ta) (hs : starEach [a, b, c] X.env = (false, eval a X.env) :: starEach [b, c] X.env := by rfl) (hpl : (backTo pos (starEach [b, c] X.env)).any (·.1) = false := by rfl) :
    PI X tg (.Call (.Name "range" p) [a, b, c] [] pos) (iRng3 ta) := by
  intro pins s σ H R I h
  refine Call_ (ld_blt I hg hm boot_range (PyProof.Rows.callWith_type1 (thn (ha pos pins s σ H _ I h) fun us s1 ⟨vs, H1, I1, r1, q1⟩ => ?_) hs hpl))
  obtain ⟨i, j, k, e, ⟨q1, q2, q3, q4, q5, q6⟩, q⟩ := q1
  subst e
  cases r1 with
  | cons r rr =>
    cases rr with
    | cons r' rr =>
      cases rr with
      | cons r'' rr =>
        cases rr
        obtain ⟨t, rfl⟩ := r
        obtain ⟨t', rfl⟩ := r'
        obtain ⟨t'', rfl⟩ := r''
        exact call_range_3 (by omega) (range_itS I1 q1 q2 q3 q4 q5 q6 q) (.inl (PyProof.noPylong_small (by omega)))
end
theorem for_rangeS {lo c : Int} {n : Nat} {g : TG} {tb : TS} {D : Ends} {σ : St} {H : Hp} (Pv : Nat → St → Hp → Prop) (h0 : Pv 0 σ H)
    (hs : ∀ i σ H, i < n → Pv i σ H → g (.int (lo + i * c)) σ H fun σ2 H2 => tb { D with nx := Pv (i + 1), ct := Pv (i + 1), bk := D.nx } σ2 H2) (hd : ∀ σ H, Pv n σ H → D.nx σ H) :
    ∃ W : Nat → Nat → St → Hp → Prop, (∃ m, W 0 m σ H) ∧ ∀ i m σ H, W i m σ H →
      ((Itrs lo c n).stop i H ∧ D.nx σ H) ∨ ((Itrs lo c n).go i H ∧ ∃ N : St → Hp → Prop, (∀ σ' H', N σ' H' → ∃ m', m' < m ∧ W (i + 1) m' σ' H') ∧ ∀ x H', (Itrs lo c n).yld i H x H' → g x σ H' fun σ2 H2 => tb { D with nx := N, ct := N, bk := D.nx } σ2 H2) := by
  refine ⟨fun i m σ H => m = n - i ∧ i ≤ n ∧ Pv i σ H, ⟨n, by simp, Nat.zero_le _, h0⟩, ?_⟩
  rintro i m σ H ⟨rfl, hi, p⟩
  by_cases hlt : i < n
  · refine .inr ⟨hlt, Pv (i + 1), fun σ' H' p' => ⟨n - (i + 1), by omega, rfl, hlt, p'⟩, fun x H' y => ?_⟩
    obtain ⟨e, y⟩ := y
    subst e y
    exact hs i σ _ hlt p
  · have e : i = n := by omega
    subst e
    exact .inl ⟨Nat.le_refl _, hd σ H p⟩

section
variable {X : Cx}
/-! ### sorted, sum of ints, list(range(n)) -/
theorem call_sorted : CallR X (.builtin "sorted") (fun xs H Q => ∃ (p : Addr) (ns : List Int), xs = [.ref p] ∧ SqL X.K H p (ns.map V.int) ∧ ns.length < 64 ∧ ∀ (l : Addr) (ns' : List Int), H l = none → ns'.Perm ns → ns'.Pairwise (· ≤ ·) → Q (.ref l) (upd H l (.lst (ns'.map V.int)))) := by
  intro pins s σ H xs us Q I r h
  obtain ⟨p, ns, rfl, hq, h64, q⟩ := h
  obtain ⟨u, rfl, ru⟩ := vals1 r
  cases ru
  obtain ⟨its, rv, pl, hz⟩ := I.list hq
  have hl := rv.length
  rw [List.length_map] at hl hz
  refine sorted_ints pl.isList (intsAre_of rv) (by omega) fun out ns' a1 a2 a3 => ?_
  obtain ⟨e, he⟩ := sortedAll_at s.heap its out
  refine ⟨.ref (s.heap.objs.size + 1), _, I.laid (t' := s.toks) (o := .lst (ns'.map V.int)) (fun b o z => sortedAll_old z) (Nat.le_succ _) ?_, rfl, q _ ns' (I.hok.fresh (Nat.le_succ _)) a2 a3⟩
  refine ⟨?_, out.toList, e, vals_ints a1, ?_⟩
  · rw [List.length_map, a2.length_eq]; exact hz
  · have q' : (seqObj "list" out e : Obj) = { cls := .type "list", data := .seq out.toList.toArray e } := by simp [seqObj]
    rw [← q']; exact he
theorem call_sum (hc : X.calm = true) : CallR X (.builtin "sum") (fun xs H Q => ∃ (p : Addr) (ns : List Int), xs = [.ref p] ∧ SqL X.K H p (ns.map V.int) ∧ Q (.int ns.sum) H) := by
  intro pins s σ H xs us Q I r h
  obtain ⟨p, ns, rfl, hq, q⟩ := h
  obtain ⟨u, rfl, ru⟩ := vals1 r
  cases ru
  obtain ⟨its, rv, pl, hz⟩ := I.list hq
  have hi := intsAre_of rv
  obtain ⟨zs, hzs⟩ := hi.allInts.items
  have hsum : preSum (numAt zs) zs.size = ns.sum := by
    rw [preSum_eq, List.take_of_length_le (by simp), ← nums_intItems, ← hzs]
    show (numsOf its).sum = ns.sum
    rw [hi.numsOf]
  refine sum_intListG (xs := zs) (I.ok.hd hc) (by rw [← hzs]; exact pl.isList) fun h' tk t' hk => ⟨.int ns.sum, H, I.kept hk, ⟨t', ?_⟩, q⟩
  rw [hsum]

/-! ### list.index, list.insert -/
def rIndex (K : PySem.W.Frag) : V → List V → Hp → VK → Prop := fun x vs H Q => ∃ (l : Addr) (ns : List Int) (k : Int), x = .ref l ∧ vs = [.int k] ∧ SqL K H l (ns.map V.int) ∧ k ∈ ns ∧ Q (.int (ns.idxOf k : Nat)) H
theorem mt_index : MtM X "list.index" (rIndex X.K) := by
  intro pins s σ H x vs v us Q I rx rv h
  obtain ⟨l, ns, k, rfl, rfl, hq, hk, q⟩ := h
  cases rx
  obtain ⟨u, rfl, ru⟩ := rv.one
  obtain ⟨t, rfl⟩ := ru
  obtain ⟨its, r, pl, hz⟩ := I.list hq
  have hi := intsAre_of r
  have hlen := hi.length
  rw [List.length_map] at hz
  have hs : sizeLine = 16777216 := sizeLine_eq
  have hj : ns.idxOf k < ns.length := List.idxOf_lt_length_iff.mpr hk
  obtain ⟨⟨cls, dd, data, sl⟩, ho, hc, n, hd⟩ := id pl.isList
  simp only at hc hd
  subst hc hd
  refine call_meets PySem.F.slot_list_index ⟨_, ho, rfl⟩ PySem.F.entry_list_index (PySem.F.args_list_index_2 _ _)
    (SeqAt.list_indexAt l its.toArray n dd sl (.int k t) (isInt k) (ns.idxOf k) (by simpa [hlen] using hj) (by omega) ?_ ?_) ⟨ho, fun y hy => (eq_isInt k t hi y (by simpa using hy)).at _ _, ⟨.int (ns.idxOf k : Nat), H, I.tok _, ⟨_, rfl⟩, q⟩⟩
  · show isInt k its[ns.idxOf k] = true
    rw [isInt_at k hi _ (by omega) hj]
    simpa using List.getElem_idxOf hj
  · intro j hjs hlt
    show isInt k its[j] = false
    rw [isInt_at k hi j (by simpa using hjs) (by omega)]
    exact ne_of_lt_idxOf hlt _
def rInsert : V → List V → Hp → VK → Prop := fun x vs H Q => ∃ l xs i y, x = .ref l ∧ vs = [.int i, y] ∧ H l = some (.lst xs) ∧ 0 ≤ i ∧ i ≤ xs.length ∧ xs.length < sizeLine ∧ Q .non (upd H l (.lst (xs.take i.toNat ++ y :: xs.drop i.toNat)))
theorem mt_insert : MtM X "list.insert" rInsert := by
  intro pins s σ H x vs v us Q I rx rv h
  obtain ⟨l, xs, i, y, rfl, rfl, hH, h0, h1, hz, q⟩ := h
  cases rx
  obtain ⟨u, u', rfl, ru, ry⟩ := rv.two
  obtain ⟨t, rfl⟩ := ru
  obtain ⟨z, its, n, r, hl, e⟩ := I.lstM hH
  have hn := line63
  have hfit : ¬ (!Builtin.List.listFitsIndex i) = true := by
    rw [fitsIndex_both (by omega) (by omega)]
    exact Bool.false_ne_true
  refine call_meets F.slot_list_insert ⟨_, e, rfl⟩ F.entry_list_insert (F.args_list_insert_3 _ _ _) (AutoSeq1.list_insert_list_int_val_1 l its.toArray n i t u' hfit (by rw [List.size_toArray]; omega)) ⟨e, ?_⟩
  refine ⟨.non, _, I.lset (its' := its.take i.toNat ++ u' :: its.drop i.toNat) hH e ?_ ((r.take _).append (.cons ry (r.drop _))) ?_, rfl, q⟩
  · have e1 : (if i < 0 then (i + ((its.toArray.size : Nat) : Int)).toNat else min i.toNat its.toArray.size) = i.toNat := by
      rw [if_neg (by omega), List.size_toArray]
      omega
    show ((its.toArray.extract 0 (if i < 0 then (i + ((its.toArray.size : Nat) : Int)).toNat else min i.toNat its.toArray.size)).push u' ++ its.toArray.extract (if i < 0 then (i + ((its.toArray.size : Nat) : Int)).toNat else min i.toNat its.toArray.size)) = _
    rw [e1]
    apply Array.toList_inj.mp
    simp
    exact List.take_of_length_le (by simp)
  · rw [List.length_append, List.length_cons, List.length_take, List.length_drop]
    omega

/-! ### isinstance -/
end
end L2

namespace L2
open PySem PySem.Spec PyProof.Rows

/-! ### isinstance of ints, bools, lists, tuples -/
inductive IsiV (K : PySem.W.Frag) (H : Hp) : V → String → Bool → Prop
  | ii (i) : IsiV K H (.int i) "int" true
  | ib (i) : IsiV K H (.int i) "bool" false
  | il (i) : IsiV K H (.int i) "list" false
  | it (i) : IsiV K H (.int i) "tuple" false
  | is (i) : IsiV K H (.int i) "str" false
  | bi (b) : IsiV K H (.bl b) "int" true
  | bb (b) : IsiV K H (.bl b) "bool" true
  | bl (b) : IsiV K H (.bl b) "list" false
  | bt (b) : IsiV K H (.bl b) "tuple" false
  | bs (b) : IsiV K H (.bl b) "str" false
  | si (x) : IsiV K H (.str x) "int" false
  | sl (x) : IsiV K H (.str x) "list" false
  | st (x) : IsiV K H (.str x) "tuple" false
  | ss (x) : IsiV K H (.str x) "str" true
  | ll {p xs} : SqL K H p xs → IsiV K H (.ref p) "list" true
  | li {p xs} : SqL K H p xs → IsiV K H (.ref p) "int" false
  | lb {p xs} : SqL K H p xs → IsiV K H (.ref p) "bool" false
  | lt {p xs} : SqL K H p xs → IsiV K H (.ref p) "tuple" false
  | ls {p xs} : SqL K H p xs → IsiV K H (.ref p) "str" false
  | tt {p xs} : SqT K H p xs → IsiV K H (.ref p) "tuple" true
  | tl {p xs} : SqT K H p xs → IsiV K H (.ref p) "list" false
  | ti {p xs} : SqT K H p xs → IsiV K H (.ref p) "int" false
  | tb {p xs} : SqT K H p xs → IsiV K H (.ref p) "bool" false
  | ts {p xs} : SqT K H p xs → IsiV K H (.ref p) "str" false
section
variable {X : Cx}
theorem call_isi : CallR X (.builtin "isinstance") (fun xs H Q => ∃ x T b, xs = [x, .ty T] ∧ IsiV X.K H x T b ∧ Q (.bl b) H) := by
  intro pins s σ H xs us Q I r h
  obtain ⟨x, T, b, rfl, hi, q⟩ := h
  obtain ⟨u, w', rfl, ru, rw'⟩ := vals2 r
  cases rw'
  have fin : ∀ {k : Bool}, Q (.bl k) H → EP X pins σ Q (.bool k) s := fun q => ⟨.bl _, H, I, rfl, q⟩
  have fin' : ∀ {k : Bool}, Q (.bl k) H → EP X pins σ Q (.bool k) { s with toks := s.toks + 1 } := fun q => ⟨.bl _, H, I.tok _, rfl, q⟩
  cases hi with
  | ii i => obtain ⟨t, rfl⟩ := ru; exact call_isinstance_yes (typeIs_int s i t) F.isi_meta_int F.isi_self_int (fin q)
  | ib i => obtain ⟨t, rfl⟩ := ru; exact call_isinstance (isinstance_false_int (by decide) F.isi_meta_bool F.sub_int_bool) (fin' q)
  | il i => obtain ⟨t, rfl⟩ := ru; exact call_isinstance (isinstance_false_int (by decide) F.isi_meta_list F.sub_int_list) (fin' q)
  | it i => obtain ⟨t, rfl⟩ := ru; exact call_isinstance (isinstance_false_int (by decide) F.isi_meta_tuple F.sub_int_tuple) (fin' q)
  | is i => obtain ⟨t, rfl⟩ := ru; exact call_isinstance (isinstance_false_int (by decide) F.isi_meta_str F.sub_int_str) (fin' q)
  | bi b => cases ru; exact call_isinstance_yes (PySem.typeIs_bool s b) F.isi_meta_int F.sub_bool_int (fin q)
  | bb b => cases ru; exact call_isinstance_yes (PySem.typeIs_bool s b) F.isi_meta_bool F.isi_self_bool (fin q)
  | bl b => cases ru; exact call_isinstance (isinstance_false_bool (by decide) F.isi_meta_list F.sub_bool_list) (fin' q)
  | bt b => cases ru; exact call_isinstance (isinstance_false_bool (by decide) F.isi_meta_tuple F.sub_bool_tuple) (fin' q)
  | bs b => cases ru; exact call_isinstance (isinstance_false_bool (by decide) F.isi_meta_str F.sub_bool_str) (fin' q)
  | si x => obtain ⟨t, rfl⟩ := ru; exact call_isinstance (isinstance_false_str (by decide) F.isi_meta_int F.sub_str_int) (fin' q)
  | sl x => obtain ⟨t, rfl⟩ := ru; exact call_isinstance (isinstance_false_str (by decide) F.isi_meta_list F.sub_str_list) (fin' q)
  | st x => obtain ⟨t, rfl⟩ := ru; exact call_isinstance (isinstance_false_str (by decide) F.isi_meta_tuple F.sub_str_tuple) (fin' q)
  | ss x => obtain ⟨t, rfl⟩ := ru; exact call_isinstance_yes (PySem.typeIs_str s x t) F.isi_meta_str F.isi_self_str (fin q)
  | ll hq => cases ru; obtain ⟨its, rv, pl, hz⟩ := I.list hq; exact call_isinstance_yes pl.isList.typeIs F.isi_meta_list F.isi_self_list (fin q)
  | li hq => cases ru; obtain ⟨its, rv, ⟨o, n, e, c, _, _⟩, hz⟩ := I.list hq; exact call_isinstance (isinstance_false_list (by decide) F.isi_meta_int F.sub_list_int) ⟨⟨o, e, c⟩, fin' q⟩
  | lb hq => cases ru; obtain ⟨its, rv, ⟨o, n, e, c, _, _⟩, hz⟩ := I.list hq; exact call_isinstance (isinstance_false_list (by decide) F.isi_meta_bool F.sub_list_bool) ⟨⟨o, e, c⟩, fin' q⟩
  | lt hq => cases ru; obtain ⟨its, rv, ⟨o, n, e, c, _, _⟩, hz⟩ := I.list hq; exact call_isinstance (isinstance_false_list (by decide) F.isi_meta_tuple F.sub_list_tuple) ⟨⟨o, e, c⟩, fin' q⟩
  | ls hq => cases ru; obtain ⟨its, rv, ⟨o, n, e, c, _, _⟩, hz⟩ := I.list hq; exact call_isinstance (isinstance_false_list (by decide) F.isi_meta_str F.sub_list_str) ⟨⟨o, e, c⟩, fin' q⟩
  | tt hq => cases ru; obtain ⟨its, rv, pl, hz⟩ := I.tuple hq; exact call_isinstance_yes pl.typeIs F.isi_meta_tuple F.isi_self_tuple (fin q)
  | tl hq => cases ru; obtain ⟨its, rv, ⟨o, e, c, _, _⟩, hz⟩ := I.tuple hq; exact call_isinstance (isinstance_false_tuple (by decide) F.isi_meta_list F.sub_tuple_list) ⟨⟨o, e, c⟩, fin' q⟩
  | ti hq => cases ru; obtain ⟨its, rv, ⟨o, e, c, _, _⟩, hz⟩ := I.tuple hq; exact call_isinstance (isinstance_false_tuple (by decide) F.isi_meta_int F.sub_tuple_int) ⟨⟨o, e, c⟩, fin' q⟩
  | tb hq => cases ru; obtain ⟨its, rv, ⟨o, e, c, _, _⟩, hz⟩ := I.tuple hq; exact call_isinstance (isinstance_false_tuple (by decide) F.isi_meta_bool F.sub_tuple_bool) ⟨⟨o, e, c⟩, fin' q⟩
  | ts hq => cases ru; obtain ⟨its, rv, ⟨o, e, c, _, _⟩, hz⟩ := I.tuple hq; exact call_isinstance (isinstance_false_tuple (by decide) F.isi_meta_str F.sub_tuple_str) ⟨⟨o, e, c⟩, fin' q⟩
end

/-! ### == and != of nested lists and tuples of ints -/
mutual
inductive DatV (K : PySem.W.Frag) (H : Hp) : V → PyData → Prop
  | int (i) : DatV K H (.int i) (.int i)
  | bl (b) : DatV K H (.bl b) (.bool b)
  | str (x) : DatV K H (.str x) (.str x)
  | lst {a xs ds} : SqL K H a xs → DatVs K H xs ds → DatV K H (.ref a) (.list ds)
  | tup {a xs ds} : SqT K H a xs → DatVs K H xs ds → DatV K H (.ref a) (.tuple ds)
inductive DatVs (K : PySem.W.Frag) (H : Hp) : List V → List PyData → Prop
  | nil : DatVs K H [] []
  | cons {x xs d ds} : DatV K H x d → DatVs K H xs ds → DatVs K H (x :: xs) (d :: ds)
end
section
variable {X : Cx} {pins : List (Addr × Obj)} {σ : St} {H : Hp} {s : Shared}
theorem DatV.reads (I : Inv X pins σ H s) {v : V} {d : PyData} (h : DatV X.K H v d) : ∀ {u : Value}, RelV v u → ∃ as, Reads s.heap u d as := by
  refine DatV.rec (motive_1 := fun v d _ => ∀ {u : Value}, RelV v u → ∃ as, Reads s.heap u d as) (motive_2 := fun xs ds _ => ∀ {us : List Value}, Vals xs us → ∃ as, ReadsAll s.heap us ds as) ?_ ?_ ?_ ?_ ?_ ?_ ?_ h
  · intro i u r
    obtain ⟨t, rfl⟩ := r
    exact ⟨_, .int i t⟩
  · intro b u r
    cases r
    exact ⟨_, .bool b⟩
  · intro x u r
    obtain ⟨t, rfl⟩ := r
    exact ⟨_, .str x t⟩
  · intro a xs ds hq _ ih u r
    cases r
    obtain ⟨its, rv, ⟨o, n, e, c, _, d⟩, _⟩ := I.list hq
    obtain ⟨as, ra⟩ := ih rv
    exact ⟨_, .list e c d (by simpa using ra)⟩
  · intro a xs ds hq _ ih u r
    cases r
    obtain ⟨its, rv, ⟨o, e, c, n, d⟩, _⟩ := I.tuple hq
    obtain ⟨as, ra⟩ := ih rv
    exact ⟨_, .tuple e c d (by simpa using ra)⟩
  · intro us r
    cases r
    exact ⟨_, .nil⟩
  · intro x xs d ds _ _ ih1 ih2 us r
    cases r with
    | cons r1 r2 =>
      obtain ⟨as, ra⟩ := ih1 r1
      obtain ⟨bs, rb⟩ := ih2 r2
      exact ⟨_, .cons ra rb⟩
end
section
variable {X : Cx}
def rEqD (K : PySem.W.Frag) : R2 := fun x y H Q => ∃ da db, DatV K H x da ∧ DatV K H y db ∧ da.canLay0 = true ∧ db.canLay0 = true ∧ da.depth ≤ 64 ∧ Q (.bl (PyData.eqv da db)) H
def rNeD (K : PySem.W.Frag) : R2 := fun x y H Q => ∃ da db, DatV K H x da ∧ DatV K H y db ∧ da.canLay0 = true ∧ db.canLay0 = true ∧ da.depth ≤ 64 ∧ Q (.bl (!PyData.eqv da db)) H
theorem op_eqD (hu : X.A.units + 64 < cLine) : OpR X (compareOp .Eq) (rEqD X.K) := by
  intro pins s σ H x y v u Q I rx ry h
  obtain ⟨da, db, ha, hb, ca, cb, hd, q⟩ := h
  obtain ⟨as, ra⟩ := ha.reads I rx
  obtain ⟨bs, rb⟩ := hb.reads I ry
  exact SeqAt.compareEq_reads ra rb ca cb (by have : min da.depth db.depth ≤ da.depth := Nat.min_le_left _ _; omega) ⟨.bl _, H, I, rfl, q⟩
theorem op_neD (hu : X.A.units + 64 < cLine) : OpR X (compareOp .NotEq) (rNeD X.K) := by
  intro pins s σ H x y v u Q I rx ry h
  obtain ⟨da, db, ha, hb, ca, cb, hd, q⟩ := h
  obtain ⟨as, ra⟩ := ha.reads I rx
  obtain ⟨bs, rb⟩ := hb.reads I ry
  exact SeqAt.compareNe_reads ra rb ca cb (by have : min da.depth db.depth ≤ da.depth := Nat.min_le_left _ _; omega) ⟨.bl _, H, I, rfl, q⟩
end

/-! ### ints and rows as data -/
def intsD (r : List Int) : PyData := .list (r.map .int)
def rowsD (rs : List (List Int)) : PyData := .list (rs.map intsD)
theorem DatVs.ints {K : PySem.W.Frag} {H : Hp} : ∀ r : List Int, DatVs K H (r.map V.int) (r.map PyData.int)
  | [] => .nil
  | i :: r => .cons (.int i) (DatVs.ints r)
theorem DatV.ints {K : PySem.W.Frag} {H : Hp} {a : Addr} {r : List Int} (h : SqL K H a (r.map V.int)) : DatV K H (.ref a) (intsD r) := .lst h (.ints r)
theorem lay_intsAll : ∀ r : List Int, PyData.canLayAll0 (r.map PyData.int) = true
  | [] => rfl
  | _ :: r => by rw [List.map_cons, PyData.canLayAll0, lay_intsAll r]; rfl
theorem lay_ints (r : List Int) : (intsD r).canLay0 = true := by unfold intsD; rw [PyData.canLay0]; exact lay_intsAll r
theorem lay_rowsAll : ∀ rs : List (List Int), PyData.canLayAll0 (rs.map intsD) = true
  | [] => rfl
  | r :: rs => by rw [List.map_cons, PyData.canLayAll0, lay_rowsAll rs, lay_ints r]; rfl
theorem lay_rows (rs : List (List Int)) : (rowsD rs).canLay0 = true := by unfold rowsD; rw [PyData.canLay0]; exact lay_rowsAll rs
theorem depth_intsAll : ∀ r : List Int, PyData.depthAll (r.map PyData.int) = 0
  | [] => rfl
  | i :: r => by rw [List.map_cons, PyData.depthAll, depth_intsAll r]; rfl
theorem depth_ints (r : List Int) : (intsD r).depth ≤ 1 := by unfold intsD; rw [PyData.depth, depth_intsAll]; decide
theorem depth_rowsAll : ∀ rs : List (List Int), PyData.depthAll (rs.map intsD) ≤ 1
  | [] => Nat.zero_le _
  | r :: rs => by
    rw [List.map_cons, PyData.depthAll]
    have h1 := depth_ints r
    have h2 := depth_rowsAll rs
    omega
theorem depth_rows (rs : List (List Int)) : (rowsD rs).depth ≤ 2 := by
  unfold rowsD
  rw [PyData.depth]
  have := depth_rowsAll rs
  omega
theorem eqv_intsAll : ∀ a b : List Int, PyData.eqvAll (a.map PyData.int) (b.map PyData.int) = decide (a = b)
  | [], [] => by simp [PyData.eqvAll]
  | [], _ :: _ => by simp [PyData.eqvAll]
  | _ :: _, [] => by simp [PyData.eqvAll]
  | x :: a, y :: b => by
    rw [List.map_cons, List.map_cons, PyData.eqvAll, eqv_intsAll a b, PyData.eqv, Bool.eq_iff_iff]
    simp
theorem eqv_ints (a b : List Int) : PyData.eqv (intsD a) (intsD b) = decide (a = b) := by unfold intsD; rw [PyData.eqv]; exact eqv_intsAll a b
theorem eqv_rowsAll : ∀ a b : List (List Int), PyData.eqvAll (a.map intsD) (b.map intsD) = decide (a = b)
  | [], [] => by simp [PyData.eqvAll]
  | [], _ :: _ => by simp [PyData.eqvAll]
  | _ :: _, [] => by simp [PyData.eqvAll]
  | x :: a, y :: b => by
    rw [List.map_cons, List.map_cons, PyData.eqvAll, eqv_rowsAll a b, eqv_ints, Bool.eq_iff_iff]
    simp
theorem eqv_rows (a b : List (List Int)) : PyData.eqv (rowsD a) (rowsD b) = decide (a = b) := by unfold rowsD; rw [PyData.eqv]; exact eqv_rowsAll a b

/-! ### rows in the heap: a list of lists of ints, all apart -/
structure Rows (H : Hp) (p : Addr) (ps : List Addr) (rs : List (List Int)) : Prop where
  out : H p = some (.lst (ps.map V.ref))
  nd : ps.Nodup
  len : ps.length = rs.length
  row : ∀ (i : Nat) (q : Addr) (r : List Int), ps[i]? = some q → rs[i]? = some r → H q = some (.lst (r.map V.int))
theorem Rows.get {H : Hp} {p : Addr} {ps : List Addr} {rs : List (List Int)} (h : Rows H p ps rs) {i : Nat} {r : List Int} (e : rs[i]? = some r) : ∃ q, ps[i]? = some q ∧ H q = some (.lst (r.map V.int)) := by
  have hi : i < rs.length := (List.getElem?_eq_some_iff.mp e).1
  have hi' : i < ps.length := by rw [h.len]; exact hi
  exact ⟨ps[i], List.getElem?_eq_getElem hi', h.row i _ r (List.getElem?_eq_getElem hi') e⟩
theorem Rows.at {H : Hp} {p : Addr} {ps : List Addr} {rs : List (List Int)} (h : Rows H p ps rs) {i : Nat} {q : Addr} (e : ps[i]? = some q) : ∃ r, rs[i]? = some r ∧ H q = some (.lst (r.map V.int)) := by
  have hi : i < ps.length := (List.getElem?_eq_some_iff.mp e).1
  have hi' : i < rs.length := by rw [← h.len]; exact hi
  exact ⟨rs[i], List.getElem?_eq_getElem hi', h.row i q _ e (List.getElem?_eq_getElem hi')⟩
theorem Rows.mem {H : Hp} {p : Addr} {ps : List Addr} {rs : List (List Int)} (h : Rows H p ps rs) {q : Addr} (e : q ∈ ps) : ∃ r, r ∈ rs ∧ H q = some (.lst (r.map V.int)) := by
  obtain ⟨i, hi⟩ := List.mem_iff_getElem?.mp e
  obtain ⟨r, hr, hq⟩ := h.at hi
  exact ⟨r, List.mem_of_getElem? hr, hq⟩
theorem Rows.notin {H : Hp} {p : Addr} {ps : List Addr} {rs : List (List Int)} (h : Rows H p ps rs) : p ∉ ps := fun e => by
  obtain ⟨r, _, hq⟩ := h.mem e
  have o := h.out
  rw [hq] at o
  have o' : r.map V.int = ps.map V.ref := by
    have := Option.some.inj o
    injection this
  cases ps with
  | nil => cases e
  | cons a ps =>
    cases r with
    | nil => cases o'
    | cons i r =>
      rw [List.map_cons, List.map_cons] at o'
      injection o' with o1 _
      cases o1
/-- nothing of the rows is touched -/
theorem Rows.same {H H' : Hp} {p : Addr} {ps : List Addr} {rs : List (List Int)} (h : Rows H p ps rs) (s : Same H H') : Rows H' p ps rs :=
  ⟨s _ _ h.out, h.nd, h.len, fun i q r e1 e2 => s _ _ (h.row i q r e1 e2)⟩
/-- one row is written -/
theorem Rows.set {H : Hp} {p : Addr} {ps : List Addr} {rs : List (List Int)} (h : Rows H p ps rs) {i : Nat} {q : Addr} (e : ps[i]? = some q) (r' : List Int) : Rows (upd H q (.lst (r'.map V.int))) p ps (rs.set i r') := by
  have hq : q ∈ ps := List.mem_of_getElem? e
  have np : p ≠ q := fun z => h.notin (z ▸ hq)
  refine ⟨by rw [upd_ne np]; exact h.out, h.nd, by rw [List.length_set]; exact h.len, fun j q' r e1 e2 => ?_⟩
  by_cases hj : j = i
  · subst hj
    rw [e] at e1
    cases e1
    have hlt : j < rs.length := by rw [← h.len]; exact (List.getElem?_eq_some_iff.mp e).1
    rw [List.getElem?_set_self hlt] at e2
    cases e2
    exact upd_same
  · rw [List.getElem?_set_ne (Ne.symm hj)] at e2
    have ne : q' ≠ q := by
      rintro rfl
      obtain ⟨h1, e1'⟩ := List.getElem?_eq_some_iff.mp e1
      obtain ⟨h2, e2'⟩ := List.getElem?_eq_some_iff.mp e
      exact hj ((List.getElem_inj h.nd).mp (e1'.trans e2'.symm))
    rw [upd_ne ne]
    exact h.row j q' r e1 e2
/-- a row more -/
theorem Rows.snoc {H : Hp} {p : Addr} {ps : List Addr} {rs : List (List Int)} (h : Rows H p ps rs) {q : Addr} {r : List Int} (hq : H q = some (.lst (r.map V.int))) (hn : q ∉ ps) (hp : q ≠ p) :
    Rows (upd H p (.lst (ps.map V.ref ++ [.ref q]))) p (ps ++ [q]) (rs ++ [r]) := by
  refine ⟨?_, ?_, by rw [List.length_append, List.length_append, h.len]; rfl, fun j q' r' e1 e2 => ?_⟩
  · rw [upd_same, List.map_append]; rfl
  · refine List.nodup_append.mpr ⟨h.nd, by simp, fun a ha b hb z => ?_⟩
    have : b = q := by simpa using hb
    subst this; subst z
    exact hn ha
  · have key : H q' = some (.lst (r'.map V.int)) ∧ q' ≠ p := by
      by_cases hj : j < ps.length
      · rw [List.getElem?_append_left hj] at e1
        rw [List.getElem?_append_left (by rw [← h.len]; exact hj)] at e2
        exact ⟨h.row j q' r' e1 e2, fun z => h.notin (z ▸ List.mem_of_getElem? e1)⟩
      · have hj' : j = ps.length := by
          have := (List.getElem?_eq_some_iff.mp e1).1
          rw [List.length_append, List.length_singleton] at this
          omega
        subst hj'
        rw [List.getElem?_append_right (Nat.le_refl _), Nat.sub_self] at e1
        rw [List.getElem?_append_right (by rw [h.len]; exact Nat.le_refl _), h.len, Nat.sub_self] at e2
        have z1 : q = q' := by simpa using e1
        have z2 : r = r' := by simpa using e2
        subst z1; subst z2
        exact ⟨hq, hp⟩
    rw [upd_ne key.2]
    exact key.1
theorem Rows.vals {K : PySem.W.Frag} {H : Hp} {ps : List Addr} {rs : List (List Int)} (hl : ps.length = rs.length) (hr : ∀ (i : Nat) (q : Addr) (r : List Int), ps[i]? = some q → rs[i]? = some r → H q = some (.lst (r.map V.int))) : DatVs K H (ps.map V.ref) (rs.map intsD) := by
  induction ps generalizing rs with
  | nil =>
    cases rs with
    | nil => exact .nil
    | cons r rs => cases hl
  | cons q ps ih =>
    cases rs with
    | nil => cases hl
    | cons r rs =>
      refine .cons (.ints (.of (hr 0 q r rfl rfl))) (ih (by simpa using hl) fun i q' r' e1 e2 => hr (i + 1) q' r' (by simpa using e1) (by simpa using e2))
theorem Rows.dat {K : PySem.W.Frag} {H : Hp} {p : Addr} {ps : List Addr} {rs : List (List Int)} (h : Rows H p ps rs) : DatV K H (.ref p) (rowsD rs) := .lst (.of h.out) (Rows.vals h.len h.row)
end L2

namespace L2
open PySem
theorem upd_none {H : Hp} {a b : Addr} {o : HO} (h : upd H a o b = none) : b ≠ a ∧ H b = none := by
  by_cases e : b = a
  · subst e
    rw [upd_same] at h
    cases h
  · rw [upd_ne e] at h
    exact ⟨e, h⟩
theorem Same.put {H H2 : Hp} {l : Addr} {o : HO} (s : Same H H2) (hl : H l = none) : Same H (L2.upd H2 l o) := fun b u e => by
  rw [upd_ne (ne_of_none e hl)]
  exact s b u e
/-- rows more, under another list of rows maybe -/
theorem Rows.app {H H' : Hp} {p p' : Addr} {ps qs : List Addr} {rs ts : List (List Int)} (h : Rows H p ps rs) (hs : ∀ q ∈ ps, ∀ o, H q = some o → H' q = some o) (hl : qs.length = ts.length) (hr : ∀ (i : Nat) (q : Addr) (r : List Int), qs[i]? = some q → ts[i]? = some r → H' q = some (.lst (r.map V.int)))
    (nd : qs.Nodup) (dj : ∀ q ∈ qs, q ∉ ps) (ho : H' p' = some (.lst ((ps ++ qs).map V.ref))) : Rows H' p' (ps ++ qs) (rs ++ ts) := by
  refine ⟨ho, List.nodup_append.mpr ⟨h.nd, nd, fun a ha b hb z => dj b hb (z ▸ ha)⟩, by rw [List.length_append, List.length_append, h.len, hl], fun j q r e1 e2 => ?_⟩
  by_cases hj : j < ps.length
  · rw [List.getElem?_append_left hj] at e1
    rw [List.getElem?_append_left (by rw [← h.len]; exact hj)] at e2
    exact hs q (List.mem_of_getElem? e1) _ (h.row j q r e1 e2)
  · rw [List.getElem?_append_right (by omega)] at e1
    rw [List.getElem?_append_right (by rw [← h.len]; omega), ← h.len] at e2
    exact hr _ q r e1 e2
theorem Rows.nil (p : Addr) : Rows (fun b => if b = p then some (.lst []) else none) p [] [] := ⟨by simp, List.nodup_nil, rfl, fun i q r e => by simp at e⟩
theorem Rows.one {H : Hp} {p a : Addr} {r : List Int} (ho : H p = some (.lst [.ref a])) (ha : H a = some (.lst (r.map V.int))) : Rows H p [a] [r] :=
  ⟨ho, by simp, rfl, fun i q r' e1 e2 => by
    cases i with
    | zero =>
      have z1 : a = q := by simpa using e1
      have z2 : r = r' := by simpa using e2
      subst z1; subst z2
      exact ha
    | succ i => simp at e1⟩
theorem Rows.two {H : Hp} {p a b : Addr} {r t : List Int} (ho : H p = some (.lst [.ref a, .ref b])) (hab : a ≠ b) (ha : H a = some (.lst (r.map V.int))) (hb : H b = some (.lst (t.map V.int))) : Rows H p [a, b] [r, t] :=
  ⟨ho, by simp [hab], rfl, fun i q r' e1 e2 => by
    match i with
    | 0 =>
      have z1 : a = q := by simpa using e1
      have z2 : r = r' := by simpa using e2
      subst z1; subst z2
      exact ha
    | 1 =>
      have z1 : b = q := by simpa using e1
      have z2 : t = r' := by simpa using e2
      subst z1; subst z2
      exact hb
    | i + 2 => simp at e1⟩

/-! ### range(n) as a value; list of it -/
section
variable {X : Cx}
theorem call_range1 : CallR X (.type "range") (fun xs H Q => ∃ j : Int, xs = [.int j] ∧ ∀ p, H p = none → Q (.ref p) (upd H p (.rng 0 j))) := by
  intro pins s σ H xs us Q I r h
  obtain ⟨j, rfl, q⟩ := h
  obtain ⟨u, rfl, t, rfl⟩ := vals1 r
  refine call_range_1 ⟨.ref s.heap.objs.size, _, I.laid (fun b o e => Heap.get?_push_of_some _ e) (Nat.le_refl _) ?_, rfl, q _ (I.hok.fresh (Nat.le_refl _))⟩
  exact ⟨_, _, _, Heap.get?_push_size _ rfl⟩
theorem vals_range (acc : List Value) : ∀ (n : Nat), n ≤ acc.length → (∀ (j : Nat) (v : Value), acc[j]? = some v → ∃ t, v = .int (j : Int) t) → Vals ((List.range n).map fun (i : Nat) => V.int (i : Int)) (acc.take n)
  | 0, _, _ => .nil
  | n + 1, hn, h => by
    have e := List.getElem?_eq_getElem (l := acc) (i := n) (by omega)
    rw [List.range_succ, List.map_append, List.take_add_one, e]
    refine Vals.append (vals_range acc n (by omega) h) (.cons ?_ .nil)
    obtain ⟨t, e2⟩ := h n _ e
    exact ⟨t, e2⟩
theorem call_list_rng (hc : X.calm = true) : CallR X (.type "list") (fun xs H Q => ∃ (p : Addr) (n : Nat), xs = [.ref p] ∧ H p = some (.rng 0 (n : Int)) ∧ n ≤ 1000000 ∧ ∀ l, H l = none → Q (.ref l) (upd H l (.lst ((List.range n).map fun (i : Nat) => V.int (i : Int))))) := by
  intro pins s σ H xs us Q I r h
  obtain ⟨p, n, rfl, hp, hn, q⟩ := h
  obtain ⟨u, rfl, ru⟩ := vals1 r
  cases ru
  obtain ⟨t, u, v, e⟩ := I.hok p _ hp
  have hs : sizeLine = 16777216 := sizeLine_eq
  refine call_list_range (n := n) (I.ok.hd hc) e (small_one (by omega) (by omega) (by omega) (by omega)) (by rw [rangeSize_one]; split <;> omega) (by omega) fun h' tk acc' c' hk hS hit => ?_
  refine ⟨.ref s.heap.objs.size, _, I.laid (t' := tk) hk (Nat.le_refl _) (o := .lst ((List.range n).map fun (i : Nat) => V.int (i : Int))) ?_, rfl, q _ (I.hok.fresh (Nat.le_refl _))⟩
  refine ⟨by rw [List.length_map, List.length_range]; omega, acc'.toList, c', ?_, by simpa using hS⟩
  have hl : acc'.toList.length = n := by simpa using hit.1
  have vr := vals_range acc'.toList n (by omega) fun j v e => ?_
  · rw [List.take_of_length_le (by omega)] at vr
    exact vr
  · obtain ⟨t, e2⟩ := hit.2 j v (by simpa using e)
    exact ⟨t, by rw [e2]; congr 1; omega⟩
end
end L2

namespace L2
open PySem PySem.Spec PyProof.Rows

/-! ### for i, x in enumerate(xs) -/
/-- records of ours have turned, a new object is laid -/
theorem Inv.turnedLay {X : Cx} {pins : List (Addr × Obj)} {σ : St} {H : Hp} {s : Shared} {h' : Heap} {ch : List Addr} {a : Addr} {o : HO} {t' : Nat} (I : Inv X pins σ H s) (hf : ∀ b ∈ ch, FpOk X pins H b)
    (k : ∀ b u, b ∉ ch → s.heap.get? b = some u → h'.get? b = some u) (hp : s.heap.objs.size ≤ a) (new : ObjOk X.prog X.w (upd H a o) h' a o) : Inv X pins σ (upd H a o) { s with heap := h', toks := t' } := by
  have hn : H a = none := I.hok.fresh hp
  have nch : ∀ b u, H b = some u → b ∉ ch := fun b u e z => by rw [(hf b z).1] at e; cases e
  have nea : ∀ b u, H b = some u → b ≠ a := fun b u e => ne_of_none e hn
  refine I.step (g' := s.gens) (d' := s.drawn) (ch := ch) (fun b hb => ?_) (fun b o _ _ hc e _ => k b o hc e) (fun b o _ _ hc e _ => ⟨o.slots, k b o hc e⟩) (fun b u _ e n => ?_) (fun b o hc e => ⟨o, k b o hc e⟩)
    (fun b xs e => by rw [upd_ne (nea b _ e)]; exact e) (fun b ob xs e => by rw [upd_ne (nea b _ e)]; exact e) (fun b ps e => ⟨#[], by rw [upd_ne (nea b _ e), e]; simp⟩) (fun m hm => ?_) (fun b u e => ?_) I.bare
  · obtain ⟨_, f1, _, f3, f4, f5⟩ := hf b hb
    exact ⟨f3, f1, f4, f5⟩
  · rw [upd_ne (Nat.ne_of_lt (Nat.lt_of_lt_of_le (Heap.lt_size e) hp))]
    exact n
  · obtain ⟨ob, es, ep, ho, r⟩ := hm
    exact ⟨ob, es, ep, k _ ob (fun z => (hf _ z).2.1 rfl) ho, r⟩
  · by_cases hb : b = a
    · subst hb
      rw [upd_same] at e
      cases e
      exact new
    · rw [upd_ne hb] at e
      refine (I.hok b u e).stay (fun c v hc q => k c v ?_ q) (fun c q => by rw [upd_ne (nea c _ q)]; exact q) fun c xs q => by rw [upd_ne (nea c _ q)]; exact q
      rcases hc with z | z
      · rw [z]; exact nch b u e
      · exact nch c _ z
/-- the list at a, with its places: a new pair at each turn -/
def Ite (K : PySem.W.Frag) (a : Addr) : It :=
  ⟨fun i H => ∃ xs x, SqL K H a xs ∧ xs[i]? = some x, fun i H x H' => ∃ t y, x = .ref t ∧ H t = none ∧ H' = upd H t (.tup [.int (i : Int), y]) ∧ ∀ xs, SqL K H a xs → xs[i]? = some y, fun i H => ∃ xs, SqL K H a xs ∧ xs.length ≤ i⟩
theorem turn_enum {P : Program} {w : World} {K : PySem.W.Frag} {es : List Expr} {k1 : Nat} {pos : Pos} (a e it : Addr) (hne : e ≠ it) :
    Turn P w K (.Tuple es k1 pos) (Ite K a) [e, it] e (fun i h => (∃ old, IsEnum h e it i old) ∧ h.IsListIter it a i) where
  mem := by simp
  obj := fun i h st b hb => by
    obtain ⟨⟨old, st1⟩, st2⟩ := st
    rcases List.mem_cons.mp hb with z | z
    · subst z
      exact ⟨_, st1, fun v z => by
        have z' : Data.fields _ = Data.cell v := z
        cases z'⟩
    · have z' : b = it := by simpa using z
      subst z'
      obtain ⟨o, e, c, d⟩ := st2
      exact ⟨o, e, fun v z => by rw [d] at z; cases z⟩
  keep := fun i h h' st k => ⟨let ⟨old, s1⟩ := st.1; ⟨old, k e (by simp) _ s1⟩, st.2.at fun o q => k it (by simp) o q⟩
  item := by
    intro X hP hw hK hc i pins s σ H E I hf st hg
    subst hP hw hK
    obtain ⟨⟨old, st1⟩, st2⟩ := st
    obtain ⟨xs, x, hq, hx⟩ := hg
    obtain ⟨its, rv, p, hz⟩ := I.list hq
    obtain ⟨u, hu, ru⟩ := rv.get hx
    refine wpAny_pyNext_enum_item st1 st2 p.isList (x := u) (by simpa using hu) hne fun h' o1 o2 o3 o4 kk => ⟨_, rfl, ?_⟩
    refine wpAny_letOwnedTupleGo_enum (s := { s with heap := h', toks := s.toks + 1 }) o1 fun h'' e1 sb => ?_
    have hel : e < s.heap.objs.size := Heap.lt_size st1
    have hil : it < s.heap.objs.size := by obtain ⟨o, z, _⟩ := st2; exact Heap.lt_size z
    have sb' : Heap.SameBut e h' h'' := sb
    refine ⟨.ref s.heap.objs.size, _, I.turnedLay (ch := [e, it]) (o := .tup [.int (i : Int), x]) (t' := s.toks + 1) hf (fun b ob hb q => ?_) (Nat.le_refl _) ?_, rfl, ⟨_, x, rfl, I.hok.fresh (Nat.le_refl _), rfl, fun ys hy => by rw [I.list_inj hy hq]; exact hx⟩, ⟨⟨u, e1⟩, ?_⟩, fun b hb => ?_⟩
    · have n1 : b ≠ e := fun z => hb (by simp [z])
      have n2 : b ≠ it := fun z => hb (by simp [z])
      exact (sb'.2 b n1).trans (kk b ob n1 n2 q)
    · refine ⟨by show 2 ≤ sizeLine; rw [sizeLine_eq]; decide, [.int (i : Int) s.toks, u], .cons ⟨_, rfl⟩ (.cons ru .nil), _, (sb'.2 _ (Nat.ne_of_gt hel)).trans o3, rfl, _, rfl⟩
    · obtain ⟨o, z, r⟩ := o2
      exact ⟨o, (sb'.2 it (Ne.symm hne)).trans z, r⟩
    · have hb' : b < s.heap.objs.size := by
        rcases List.mem_cons.mp hb with z | z
        · rw [z]; exact hel
        · have z' : b = it := by simpa using z
          rw [z']; exact hil
      rw [upd_ne (Nat.ne_of_lt hb')]
      exact (hf b hb).1
  done := by
    intro X hP hw hK hc i pins s σ H E I hf st hg
    subst hP hw hK
    obtain ⟨⟨old, st1⟩, st2⟩ := st
    obtain ⟨xs, hq, hx⟩ := hg
    obtain ⟨its, rv, p, hz⟩ := I.list hq
    have hl := rv.length
    obtain ⟨f0, f1, f2, f3, f4, f5⟩ := hf it (by simp)
    exact wpAny_pyNext_enum_end (I.ok.hd hc) st1 st2 p.isList (by simp; omega) fun h' eb => ⟨rfl, I.turned (t' := s.toks) (fun b o hb q => eb b o hb q) f0 f1 f3 f4 f5⟩
  self := fun A i s Q E st h => by
    obtain ⟨⟨old, st1⟩, _⟩ := st
    exact wpAny_pyIter_enum st1 h
def iEnum (K : PySem.W.Frag) (ta : TA) : TI := fun σ H R => ta σ H fun vs H1 => ∃ a, vs = [.ref a] ∧ (∃ xs, SqL K H1 a xs) ∧ R (Ite K a) H1
section
variable {X : Cx}
theorem pi_enum {es : List Expr} {k1 : Nat} {tp : Pos} {a : Expr} {ta : TA} {p pos : Pos} (hg : Gl X "enumerate") (hm : X.mg "enumerate" = none) (ha : PA X [a] ta) (hs : starEach [a] X.env = [(false, eval a X.env)] := by rfl) : PI X (.Tuple es k1 tp) (.Call (.Name "enumerate" p) [a] [] pos) (iEnum X.K ta) := by
  intro pins s σ H R I h
  refine Call_ (ld_blt I hg hm boot_enumerate (PyProof.Rows.callWith_type1 (thn (ha pos pins s σ H _ I h) fun us s1 ⟨vs, H1, I1, r1, q1⟩ => ?_) hs rfl))
  obtain ⟨b, e, ⟨xs, hq⟩, q⟩ := q1
  subst e
  obtain ⟨u, rfl, ru⟩ := vals1 r1
  cases ru
  obtain ⟨its, rv, pl, hz⟩ := I1.list hq
  refine call_enumerate_list pl.isList fun h' e1 e2 e3 kk => ?_
  have I2 : Inv X pins σ H1 { s1 with heap := h' } := I1.kept (t' := s1.toks) kk
  refine wpAny_pyIter_enum (s := { s1 with heap := h' }) e1 ?_
  refine ⟨_, [s1.heap.objs.size + 1, s1.heap.objs.size], _, _, H1, rfl, I2, turn_enum b _ _ (Nat.ne_of_gt (Nat.lt_succ_self _)), ⟨⟨_, e1⟩, e2⟩, fun c hc => ?_, q⟩
  have hc' : s1.heap.objs.size ≤ c := by
    rcases List.mem_cons.mp hc with z | z
    · rw [z]; exact Nat.le_succ _
    · have z' : c = s1.heap.objs.size := by simpa using z
      rw [z']; exact Nat.le_refl _
  exact I1.fpOk hc' (I1.hok.fresh hc')
end
theorem for_enum {K : PySem.W.Frag} {a : Addr} {xs : List V} {g : TG} {tb : TS} {D : Ends} {σ : St} {H : Hp} (Pv : Nat → St → Hp → Prop) (h0 : Pv 0 σ H) (hl : ∀ i σ H, i ≤ xs.length → Pv i σ H → SqL K H a xs)
    (hs : ∀ i x σ H t, xs[i]? = some x → Pv i σ H → H t = none → g (.ref t) σ (upd H t (.tup [.int (i : Int), x])) fun σ2 H2 => tb { D with nx := Pv (i + 1), ct := Pv (i + 1), bk := D.nx } σ2 H2) (hd : ∀ σ H, Pv xs.length σ H → D.nx σ H) :
    ∃ W : Nat → Nat → St → Hp → Prop, (∃ m, W 0 m σ H) ∧ ∀ i m σ H, W i m σ H →
      ((Ite K a).stop i H ∧ D.nx σ H) ∨ ((Ite K a).go i H ∧ ∃ N : St → Hp → Prop, (∀ σ' H', N σ' H' → ∃ m', m' < m ∧ W (i + 1) m' σ' H') ∧ ∀ x H', (Ite K a).yld i H x H' → g x σ H' fun σ2 H2 => tb { D with nx := N, ct := N, bk := D.nx } σ2 H2) := by
  refine ⟨fun i m σ H => m = xs.length - i ∧ i ≤ xs.length ∧ Pv i σ H, ⟨xs.length, by simp, Nat.zero_le _, h0⟩, ?_⟩
  rintro i m σ H ⟨rfl, hi, p⟩
  have q := hl i σ H hi p
  by_cases hlt : i < xs.length
  · refine .inr ⟨⟨xs, xs[i], q, by simp [hlt]⟩, Pv (i + 1), fun σ' H' p' => ⟨xs.length - (i + 1), by omega, rfl, hlt, p'⟩, fun x H' y => ?_⟩
    obtain ⟨t, z, rfl, ht, rfl, y⟩ := y
    exact hs i z σ H t (y xs q) p ht
  · have e : i = xs.length := by omega
    subst e
    exact .inl ⟨⟨xs, q, Nat.le_refl _⟩, hd σ H p⟩
end L2

namespace Srt
open PySem PySem.W PyProof.Rows
/-! ### sorted by asking: the answers come from ranks that all differ -/
section
variable {n : Nat} {r : Nat → Int}
/-- the places told -/
structure B (n : Nat) (p : Array Nat) : Prop where
  size : p.size = n
  perm : p.toList.Perm (List.range n)
def at' (p : Array Nat) (i : Nat) : Nat := p.getD i 0
theorem at_eq {p : Array Nat} {i : Nat} : at' p i = p[i]?.getD 0 := by unfold at'; rw [Array.getD_eq_getD_getElem?]
theorem B.lt {p : Array Nat} (b : B n p) (h0 : 0 < n) (i : Nat) : at' p i < n := by
  rw [at_eq]
  cases e : p[i]? with
  | none => exact h0
  | some x =>
    have hx : x ∈ p.toList := by
      rw [← Array.getElem?_toList] at e
      exact List.mem_of_getElem? e
    exact List.mem_range.mp (b.perm.mem_iff.mp hx)
theorem B.ne {p : Array Nat} (b : B n p) {i j : Nat} (hi : i < n) (hj : j < n) (h : i ≠ j) : at' p i ≠ at' p j := by
  have nd : p.toList.Nodup := b.perm.nodup_iff.mpr List.nodup_range
  have li : i < p.toList.length := by rw [Array.length_toList, b.size]; exact hi
  have lj : j < p.toList.length := by rw [Array.length_toList, b.size]; exact hj
  have ei : at' p i = p.toList[i] := by rw [at_eq, ← Array.getElem?_toList, List.getElem?_eq_getElem li]; rfl
  have ej : at' p j = p.toList[j] := by rw [at_eq, ← Array.getElem?_toList, List.getElem?_eq_getElem lj]; rfl
  rw [ei, ej]
  exact fun z => h ((List.getElem_inj nd).mp z)
/-- rising up to m -/
def Up (r : Nat → Int) (p : Array Nat) (m : Nat) : Prop := ∀ i j, i < j → j < m → r (at' p i) < r (at' p j)
def Dn (r : Nat → Int) (p : Array Nat) (m : Nat) : Prop := ∀ i j, i < j → j < m → r (at' p j) < r (at' p i)
theorem Up.one (r : Nat → Int) (p : Array Nat) : Up r p 1 := fun i j h1 h2 => by omega
theorem Dn.one (r : Nat → Int) (p : Array Nat) : Dn r p 1 := fun i j h1 h2 => by omega
theorem Up.succ {p : Array Nat} {m : Nat} (u : Up r p m) (h1 : 1 ≤ m) (h : r (at' p (m - 1)) < r (at' p m)) : Up r p (m + 1) := fun i j hij hj => by
  rcases Nat.lt_or_ge j m with z | z
  · exact u i j hij z
  · have : j = m := by omega
    subst this
    rcases Nat.lt_or_ge i (j - 1) with y | y
    · have := u i (j - 1) y (by omega)
      omega
    · have : i = j - 1 := by omega
      subst this
      exact h
theorem Dn.succ {p : Array Nat} {m : Nat} (u : Dn r p m) (h1 : 1 ≤ m) (h : r (at' p m) < r (at' p (m - 1))) : Dn r p (m + 1) := fun i j hij hj => by
  rcases Nat.lt_or_ge j m with z | z
  · exact u i j hij z
  · have : j = m := by omega
    subst this
    rcases Nat.lt_or_ge i (j - 1) with y | y
    · have := u i (j - 1) y (by omega)
      omega
    · have : i = j - 1 := by omega
      subst this
      exact h
theorem B.bubble {p : Array Nat} (b : B n p) (k d : Nat) : B n (PyProof.Rows.bubble p k d) :=
  ⟨by rw [← b.size]; exact bubble_size p k d, (Array.perm_iff_toList_perm.mp (bubble_perm p k d)).trans b.perm⟩
theorem at_bubble {p : Array Nat} {k l i : Nat} (hk : k < p.size) (hl : l ≤ k) : at' (bubble p k (k - l)) i = if i = l then at' p k else if l < i ∧ i ≤ k then at' p (i - 1) else at' p i := by
  rw [at_eq, getElem?_bubble hk (k - l) (by omega), show k - (k - l) = l by omega]
  by_cases h : i = l
  · rw [if_pos h, if_pos h, at_eq]
  · rw [if_neg h, if_neg h]
    by_cases h2 : l < i ∧ i ≤ k
    · rw [if_pos h2, if_pos h2, at_eq]
    · rw [if_neg h2, if_neg h2, at_eq]
theorem Up.insert {p : Array Nat} {k l : Nat} (u : Up r p k) (hk : k < p.size) (hl : l ≤ k) (h1 : ∀ i, i < l → r (at' p i) < r (at' p k)) (h2 : ∀ i, l ≤ i → i < k → r (at' p k) < r (at' p i)) : Up r (bubble p k (k - l)) (k + 1) := fun i j hij hj => by
  rw [at_bubble hk hl, at_bubble hk hl]
  by_cases e1 : i = l
  · rw [if_pos e1, if_neg (by omega), if_pos (by omega)]
    exact h2 _ (by omega) (by omega)
  · rw [if_neg e1]
    by_cases e2 : j = l
    · rw [if_pos e2, if_neg (by omega)]
      exact h1 _ (by omega)
    · rw [if_neg e2]
      by_cases e3 : l < i ∧ i ≤ k
      · rw [if_pos e3, if_pos (by omega)]
        exact u _ _ (by omega) (by omega)
      · rw [if_neg e3]
        by_cases e4 : l < j ∧ j ≤ k
        · rw [if_pos e4]
          exact u _ _ (by omega) (by omega)
        · rw [if_neg e4]
          exact u _ _ hij (by omega)
/-- what may be asked -/
structure Asks (n : Nat) (r : Nat → Int) (cmp : Nat → Nat → (Bool → Shared → Prop) → Shared → Prop) (s : Shared) : Prop where
  pos : 0 < n
  inj : ∀ i j, i < n → j < n → i ≠ j → r i ≠ r j
  ask : ∀ i j (C : Bool → Shared → Prop), i < n → j < n → i ≠ j → C (decide (r i < r j)) s → cmp i j C s
variable {cmp : Nat → Nat → (Bool → Shared → Prop) → Shared → Prop} {s : Shared}
end
end Srt

namespace Srt
open PySem PySem.W PyProof.Rows
section
open PySem.SeqAt
open PySem.AutoSeq1 (wpAny_loadPart')
open PySem.MeetsSeq PySem.MeetsSeq2 PySem.MeetsSeq3
end
section
variable {prog : Program} {w : World} {A : Around} {E : Value → Shared → Prop} {s : Shared}
end
end Srt

namespace L2
open PySem PySem.Spec PyProof.Rows
section
variable {prog : Program} {w : World} {A : Around} {E : Value → Shared → Prop} {s : Shared}
end
section
variable {X : Cx} {tg : Expr}
/-! ### list(reversed(xs)) -/
def tListRev (K : PySem.W.Frag) (ta : TA) : TE := fun σ H Q => ta σ H fun vs H1 => ∃ b xs, vs = [.ref b] ∧ SqL K H1 b xs ∧ ∀ l, H1 l = none → Q (.ref l) (upd H1 l (.lst xs.reverse))
/-! ### for x in reversed(xs) -/
/-- the list at a, of n, from its end on -/
def Itv (K : PySem.W.Frag) (a : Addr) (n : Nat) : It :=
  ⟨fun i H => ∃ xs, SqL K H a xs ∧ xs.length = n ∧ i < n, fun i H x H' => H' = H ∧ ∀ xs, SqL K H a xs → xs.reverse[i]? = some x, fun i _ => i = n⟩
def iRev (K : PySem.W.Frag) (ta : TA) : TI := fun σ H R => ta σ H fun vs H1 => ∃ a xs, vs = [.ref a] ∧ SqL K H1 a xs ∧ R (Itv K a xs.length) H1
/-! ### min of ints -/
/-! ### sorted of rows whose heads differ -/
theorem range_getD {α : Type} (l : List α) (d : α) : ((List.range l.length).map fun i => l.getD i d) = l := by
  refine List.ext_getElem? fun i => ?_
  by_cases hi : i < l.length
  · rw [List.getElem?_map, List.getElem?_range hi, List.getElem?_eq_getElem hi]
    show some (l.getD i d) = _
    rw [List.getD_eq_getElem?_getD, List.getElem?_eq_getElem hi]
    rfl
  · rw [List.getElem?_eq_none (by simp; omega), List.getElem?_eq_none (by omega)]
end
end L2

namespace L2
open PySem PySem.Spec PyProof.Rows
/-! ### comprehensions that read names of the def -/
def clOf (cells : List (Str × Addr)) : List (Str × NameKind) → List (Str × Addr) → List (Str × Addr)
  | [], acc => acc
  | (n, k) :: r, acc => clOf cells r (if k == .free then (n, (cells.lookup n).getD 0) :: acc else acc)
theorem closureFor_cl {scope : Scope} {env : Env} (h : ∀ y ∈ scope.names, y.2 = .free → ∃ c, env.cells.lookup y.1 = some c) : closureFor scope env = pure (clOf env.cells scope.names []) := by
  simp only [closureFor]
  generalize scope.names = names at h ⊢
  generalize ([] : List (Str × Addr)) = acc
  have key : ∀ (names : List (Str × NameKind)) (acc : List (Str × Addr)), (∀ y ∈ names, y.2 = .free → ∃ c, env.cells.lookup y.1 = some c) →
      (forIn names acc fun (x : Str × NameKind) (r : List (Str × Addr)) => match x with
        | (name, kind) => if (kind == NameKind.free) = true then (do let c ← cellOf env name; pure (ForInStep.yield ((name, c) :: r)) : Sem (ForInStep (List (Str × Addr)))) else pure (ForInStep.yield r)) = pure (clOf env.cells names acc) := by
    intro names
    induction names with
    | nil => intro acc _; rfl
    | cons y names ih =>
      obtain ⟨n, k⟩ := y
      intro acc h
      rw [List.forIn_cons]
      by_cases hk : k = .free
      · obtain ⟨c, hc⟩ := h (n, k) List.mem_cons_self hk
        subst hk
        have e1 : cellOf env n = pure c := by unfold cellOf; rw [hc]
        simp only [beq_self_eq_true, if_true, e1, pure_bind]
        rw [ih _ fun y hy => h y (List.mem_cons_of_mem _ hy)]
        show pure (clOf env.cells names ((n, c) :: acc)) = pure (clOf env.cells names (if (NameKind.free == NameKind.free) = true then (n, (env.cells.lookup n).getD 0) :: acc else acc))
        rw [hc]
        rfl
      · have hk' : (k == NameKind.free) = false := beq_eq_false_iff_ne.mpr hk
        simp only [hk', Bool.false_eq_true, if_false, pure_bind]
        rw [ih _ fun y hy => h y (List.mem_cons_of_mem _ hy)]
        show pure (clOf env.cells names acc) = pure (clOf env.cells names (if (k == NameKind.free) = true then _ else acc))
        rw [hk']
        rfl
  have := key names acc h
  simp only at this
  rw [this]
  rfl
theorem clOf_mem {cells : List (Str × Addr)} : ∀ {names : List (Str × NameKind)} {acc : List (Str × Addr)} {p : Str × Addr}, p ∈ clOf cells names acc → p ∈ acc ∨ ((p.1, NameKind.free) ∈ names ∧ p.2 = (cells.lookup p.1).getD 0)
  | [], _, _, h => .inl h
  | (n, k) :: r, acc, p, h => by
    have h' : p ∈ clOf cells r (if k == .free then (n, (cells.lookup n).getD 0) :: acc else acc) := h
    rcases clOf_mem h' with z | ⟨z1, z2⟩
    · by_cases hk : (k == NameKind.free) = true
      · rw [if_pos hk] at z
        rcases List.mem_cons.mp z with z | z
        · subst z
          have : k = .free := eq_of_beq hk
          subst this
          exact .inr ⟨List.mem_cons_self, rfl⟩
        · exact .inl z
      · rw [if_neg hk] at z
        exact .inl z
    · exact .inr ⟨List.mem_cons_of_mem _ z1, z2⟩
theorem clOf_has {cells : List (Str × Addr)} : ∀ {names : List (Str × NameKind)} {acc : List (Str × Addr)} {y : Str}, ((∃ c, (y, c) ∈ acc) ∨ (y, NameKind.free) ∈ names) → ∃ c, (y, c) ∈ clOf cells names acc
  | [], _, _, h => by
    rcases h with h | h
    · exact h
    · cases h
  | (n, k) :: r, acc, y, h => by
    show ∃ c, (y, c) ∈ clOf cells r (if k == .free then (n, (cells.lookup n).getD 0) :: acc else acc)
    refine clOf_has ?_
    rcases h with ⟨c, hc⟩ | h
    · refine .inl ⟨c, ?_⟩
      split
      · exact List.mem_cons_of_mem _ hc
      · exact hc
    · rcases List.mem_cons.mp h with z | z
      · injection z with z1 z2
        subst z1; subst z2
        exact .inl ⟨_, by rw [if_pos (by rfl)]; exact List.mem_cons_self⟩
      · exact .inr z
theorem lookup_of_mem {α : Type} : ∀ {l : List (Str × α)} {y : Str} {c : α}, (y, c) ∈ l → ∃ c', l.lookup y = some c'
  | (n, d) :: r, y, c, h => by
    rw [List.lookup_cons]
    cases e : y == n with
    | true => exact ⟨_, rfl⟩
    | false =>
      rcases List.mem_cons.mp h with z | z
      · injection z with z1 _
        subst z1
        rw [beq_self_eq_true] at e
        cases e
      · exact lookup_of_mem z
def capOk (X : Cx) (x : Str) (caps : List Nat) (scope : Scope) : Bool :=
  scope.names.all (fun y => y.2 != .cell && (y.2 != .local || scope.names.lookup y.1 == some .local) && (y.2 != .free || (scope.names.lookup y.1 == some .free && (X.env.scope.names.lookup y.1 == some .cell || X.env.scope.names.lookup y.1 == some .free))))
  && caps.all fun i => match X.N[i]? with
    | some y => scope.names.lookup y == some .free && (X.env.scope.names.lookup y == some .cell || X.env.scope.names.lookup y == some .free)
    | none => false
theorem Blk.capt {X : Cx} {x : Str} {caps : List Nat} {scope : Scope} (hk : scope.kind = .function) (h : capOk X x caps scope = true) (hx : scope.names.lookup x = some .local) (nd : (x :: caps.map fun i => X.N.getD i "").Nodup) (ok : X.Ok) :
    Blk X x caps scope (clOf X.env.cells scope.names []) := by
  unfold capOk at h
  rw [Bool.and_eq_true] at h
  obtain ⟨h1, h2⟩ := h
  have hy : ∀ y ∈ scope.names, y.2 ≠ .cell ∧ (y.2 = .local → scope.names.lookup y.1 = some .local) ∧ (y.2 = .free → scope.names.lookup y.1 = some .free ∧ (X.env.scope.names.lookup y.1 = some .cell ∨ X.env.scope.names.lookup y.1 = some .free)) := fun y hy => by
    have q := List.all_eq_true.mp h1 y hy
    rw [Bool.and_eq_true, Bool.and_eq_true] at q
    obtain ⟨⟨q1, q2⟩, q3⟩ := q
    refine ⟨fun e => by rw [e] at q1; simp at q1, fun e => by rw [e] at q2; simpa using q2, fun e => ?_⟩
    rw [e] at q3
    simpa using q3
  have hfree : ∀ y ∈ scope.names, y.2 = .free → ∃ c, X.env.cells.lookup y.1 = some c := fun y hm e => ok.has y.1 ((hy y hm).2.2 e).2
  refine ⟨closureFor_cl hfree, fun y hm => (hy y hm).1, hk, fun y hm => (hy y hm).2.1, hx, fun y c e => ?_, fun y e => ?_, fun y e => ?_, nd, fun i hi => ?_⟩
  · have hm := PySem.mem_of_lookup e
    rcases clOf_mem hm with z | ⟨z1, z2⟩
    · cases z
    · obtain ⟨c', hc'⟩ := hfree _ z1 rfl
      have z2' : c = (X.env.cells.lookup y).getD 0 := z2
      rw [z2', show X.env.cells.lookup y = some c' from hc']
      rfl
  · obtain ⟨c, hc⟩ := clOf_has (cells := X.env.cells) (acc := []) (.inr (PySem.mem_of_lookup e))
    exact lookup_of_mem hc
  · cases q : (clOf X.env.cells scope.names []).lookup y with
    | none => rfl
    | some c =>
      rcases clOf_mem (PySem.mem_of_lookup q) with z | ⟨z1, _⟩
      · cases z
      · have := ((hy _ z1).2.2 rfl).1
        have this' : scope.names.lookup y = some .free := this
        rw [e] at this'
        cases this'
  · have q := List.all_eq_true.mp h2 i hi
    cases e : X.N[i]? with
    | none => rw [e] at q; cases q
    | some y =>
      rw [e] at q
      refine ⟨y, rfl, ?_⟩
      simpa using q
/-- .. by closed lists of names -/
theorem Blk.captN {X : Cx} {x : Str} {caps : List Nat} {scope : Scope} (N : List Str) (sn : List (Str × NameKind)) (hN : X.N = N) (hn : X.env.scope.names = sn) (hk : scope.kind = .function)
    (h : (scope.names.all (fun y => y.2 != .cell && (y.2 != .local || scope.names.lookup y.1 == some .local) && (y.2 != .free || (scope.names.lookup y.1 == some .free && (sn.lookup y.1 == some .cell || sn.lookup y.1 == some .free))))
      && caps.all fun i => match N[i]? with
        | some y => scope.names.lookup y == some .free && (sn.lookup y == some .cell || sn.lookup y == some .free)
        | none => false) = true) (hx : scope.names.lookup x = some .local) (nd : (x :: caps.map fun i => N.getD i "").Nodup) (ok : X.Ok) :
    Blk X x caps scope (clOf X.env.cells scope.names []) := by
  subst hN hn
  exact Blk.capt hk h hx nd ok
end L2

namespace L2
open PySem PySem.Spec PyProof.Rows
section
variable {X : Cx}
/-! ### sorted(d): the keys of a dict, ints -/
theorem kv_keys : ∀ {kvs : List (Key × V)} {vs : List (Key × Value)}, KV kvs vs → vs.map (·.1) = kvs.map (·.1)
  | _, _, .nil => rfl
  | _, _, .cons h r => by rw [List.map_cons, List.map_cons, kv_keys r, h.1]
theorem call_sortedD (hc : X.calm = true) : CallR X (.builtin "sorted") (fun xs H Q => ∃ (d : Addr) (kvs : List (Key × V)) (ns : List Int), xs = [.ref d] ∧ H d = some (.dK kvs) ∧ kvs.map (·.1) = ns.map Sum.inl ∧ ns.length < 64 ∧
    ∀ (l : Addr) (ns' : List Int), H l = none → ns'.Perm ns → ns'.Pairwise (· ≤ ·) → Q (.ref l) (upd H l (.lst (ns'.map V.int)))) := by
  intro pins s σ H xs us Q I r h
  obtain ⟨d, kvs, ns, rfl, hd, hk, h64, q⟩ := h
  obtain ⟨u, rfl, ru⟩ := vals1 r
  cases ru
  obtain ⟨z, hsys, vs, rel, dd⟩ := dk_of I.hok hd
  obtain ⟨ep, hat⟩ := dd.dictAt
  have hkeys := kv_keys rel
  rw [hk] at hkeys
  have hlen : vs.length = ns.length := by
    have := congrArg List.length hkeys
    rw [List.length_map, List.length_map] at this
    exact this
  have hs : sizeLine = 16777216 := sizeLine_eq
  refine Calls.call_function_entry kind_sorted plain_sorted entry_sorted (args_sorted1 _) ?_
  unfold Builtin.«sorted»
  refine wpAny_bind (m := checkCount "sorted" 1 1 _) (wpAny_pure ?_)
  refine wpAny_bind (PySem.W.kdu_collect (PySem.W.kdl_dict (knd := mixKind X.prog X.w) (kvs := vs) (ep := ep) hsys) (I.ok.hd hc) hat (by omega) fun h' tk acc hkeep hacc => ?_)
  have hal : acc.toList.length = ns.length := by rw [Array.length_toList, hacc.1, hlen]
  have hI : IntsAre acc.toList ns := by
    refine intsAre_of ?_
    have key : ∀ (as : List Value) (ms : List Int), as.length = ms.length → (∀ (j : Nat) (v : Value) (m : Int), as[j]? = some v → ms[j]? = some m → ∃ t, v = .int m t) → Vals (ms.map V.int) as := by
      intro as
      induction as with
      | nil =>
        intro ms hl _
        cases ms with
        | nil => exact .nil
        | cons m ms => cases hl
      | cons a as ih =>
        intro ms hl hj
        cases ms with
        | nil => cases hl
        | cons m ms =>
          exact .cons (hj 0 a m rfl rfl) (ih ms (by simpa using hl) fun j v m e1 e2 => hj (j + 1) v m (by simpa using e1) (by simpa using e2))
    refine key _ _ hal fun j v m e1 e2 => ?_
    obtain ⟨k, x, e3, e4⟩ := hacc.2 j v (by rw [← Array.getElem?_toList]; exact e1)
    have e5 : (vs.map (·.1))[j]? = some k := by rw [List.getElem?_map, e3]; rfl
    rw [hkeys, List.getElem?_map, e2] at e5
    have e6 : (Sum.inl m : Key) = k := Option.some.inj e5
    subst e6
    obtain ⟨t, e7⟩ := Value.isInt_shape (k := m) (v := v) e4
    exact ⟨t, e7⟩
  refine wpAny_bind (wpAny_newList ?_ (by omega))
  have hoL : (h'.push (seqObj "list" acc.toList.toArray 0)).get? h'.objs.size = some (seqObj "list" acc.toList.toArray 0) := Heap.get?_push_size _ rfl
  show wpAny _ _ _ _ _ { s with heap := h'.push (seqObj "list" acc.toList.toArray 0), toks := tk }
  refine wpAny_bind (wpAny_holding (wpAny_call_entry slot_list_sort ⟨_, hoL, rfl⟩ entry_list_sort (list_sort_tree hoL hI (by omega) fun out ns' a1 a2 a3 => ⟨_, rfl, ?_⟩) (args_list_sort _)))
  obtain ⟨e, he⟩ := sortedHeap_at (out := out) hoL
  have I1 : Inv X pins σ H { s with heap := h', toks := tk } := I.kept hkeep
  refine wpAny_pure ⟨_, rfl, .ref h'.objs.size, _, I1.laid (t' := tk) (o := .lst (ns'.map V.int)) (fun b o zz => ?_) (Nat.le_refl _) ?_, rfl, q _ ns' (I1.hok.fresh (Nat.le_refl _)) a2 a3⟩
  · have zz' : h'.get? b = some o := zz
    have hb : b < h'.objs.size := Heap.lt_size zz'
    show (sortedHeap _ _ _ _).get? b = _
    rw [sortedHeap_old (Nat.ne_of_lt hb) (by rw [size_push']; exact Nat.lt_succ_of_lt hb), Heap.get?_push_ne _ _ _ (Nat.ne_of_lt hb)]
    exact zz'
  · refine ⟨?_, out.toList, e, vals_ints a1, ?_⟩
    · rw [List.length_map, a2.length_eq]; omega
    · have q' : (seqObj "list" out e : Obj) = { cls := .type "list", data := .seq out.toList.toArray e } := by simp [seqObj]
      rw [← q']; exact he

/-! ### len(set(xs)), xs ints -/
theorem firstMet_nodup (val : Nat → Int) : ∀ i, (firstMet val i).Nodup
  | 0 => List.nodup_nil
  | i + 1 => by
    rw [firstMet_succ]
    unfold step_dedup
    split
    · exact firstMet_nodup val i
    · rename_i h
      refine List.nodup_append.mpr ⟨firstMet_nodup val i, by simp, fun a ha b hb z => ?_⟩
      have : b = val i := by simpa using hb
      subst z
      exact h (List.any_eq_true.mpr ⟨a, ha, by rw [this]; simp⟩)
theorem firstMet_mem (ns : List Int) (z : Int) : z ∈ firstMet (fun i => ns.getD i 0) ns.length ↔ z ∈ ns := by
  have h := firstMet_any (fun i => ns.getD i 0) ns.length z
  rw [range_getD] at h
  rw [Bool.eq_iff_iff] at h
  simpa using h
def tLenSet (K : PySem.W.Frag) (ta : TA) : TE := fun σ H Q => ta σ H fun vs H1 => ∃ (b : Addr) (ns : List Int), vs = [.ref b] ∧ SqL K H1 b (ns.map V.int) ∧ ns.length ≤ 1000 ∧ ∀ D : List Int, D.Nodup → (∀ z, z ∈ D ↔ z ∈ ns) → Q (.int (D.length : Nat)) H1
theorem pe_lenSet {a : Expr} {ta : TA} {p p' pos pos' : Pos} (hc : X.calm = true) (hg : Gl X "len") (hm : X.mg "len" = none) (hg' : Gl X "set") (hm' : X.mg "set" = none) (ha : PA X [a] ta)
    (hs : starEach [a] X.env = [(false, eval a X.env)] := by rfl) (hs2 : starEach [.Call (.Name "set" p') [a] [] pos'] X.env = [(false, eval (.Call (.Name "set" p') [a] [] pos') X.env)] := by rfl) :
    PE X (.Call (.Name "len" p) [.Call (.Name "set" p') [a] [] pos'] [] pos) (tLenSet X.K ta) := by
  intro pins s σ H Q I h
  refine wpAny_Call_Name_kw (ld_blt I hg hm PySem.boot_len (PyProof.Rows.callWith_builtin1 ?_ hs2 rfl))
  rw [hs2]
  show wpAny _ _ (spliced ((false, eval (.Call (.Name "set" p') [a] [] pos') X.env) :: [])) _ _ s
  refine Calls.spliced_cons (Call_ (ld_blt I hg' hm' boot_set (PyProof.Rows.callWith_type1 (thn (ha pos' pins s σ H _ I h) fun us s1 ⟨vs, H1, I1, r1, q1⟩ => ?_) hs rfl)))
  obtain ⟨b, ns, e, hq, h1000, q⟩ := q1
  subst e
  obtain ⟨u, rfl, ru⟩ := vals1 r1
  cases ru
  obtain ⟨its, rv, pl, hz⟩ := I1.list hq
  have hi := intsAre_of rv
  have hlen : its.length = ns.length := hi.length
  have hsb : scanBound = 4096 := rfl
  refine call_set_list (items := its.toArray) (ns := ns) (I1.ok.hd hc) pl.isList (by simpa using hi) (by rw [List.size_toArray]; omega) fun h' tk hS hk => Calls.spliced_nil ?_
  obtain ⟨o, es, ep, t, ho, hex, hd, _, _, hsz, hf, hn⟩ := hS
  rw [show its.toArray.size = ns.length from hlen] at hn
  have hkeep : ∀ b o, s1.heap.get? b = some o → h'.get? b = some o := fun b o e => hk b o (Heap.lt_size e) e
  have I2 : Inv X pins σ H1 { s1 with heap := h', toks := tk } := I1.kept hkeep
  refine call_len_set (s := { s1 with heap := h', toks := tk }) ho hex hd hf (by omega) ⟨.int es.size, H1, I2.tok _, ⟨_, rfl⟩, ?_⟩
  rw [hn]
  exact q _ (firstMet_nodup _ _) (firstMet_mem ns)
/-! ### rows.count([..]) -/
def rowAt (H : Hp) (q : Addr) : List Int := match H q with
  | some (.lst xs) => xs.filterMap fun x => match x with
    | .int i => some i
    | _ => none
  | _ => []
theorem rowAt_eq {H : Hp} {q : Addr} {r : List Int} (h : H q = some (.lst (r.map V.int))) : rowAt H q = r := by
  have key : ∀ r : List Int, ((r.map V.int).filterMap fun x => match x with
    | .int i => some i
    | _ => none) = r := by
    intro r
    induction r with
    | nil => rfl
    | cons x r ih =>
      rw [List.map_cons, List.filterMap_cons]
      show x :: _ = _
      rw [ih]
  unfold rowAt
  rw [h]
  exact key r
theorem Rows.rowAt {H : Hp} {p : Addr} {ps : List Addr} {rs : List (List Int)} (R : Rows H p ps rs) : ps.map (L2.rowAt H) = rs := by
  refine List.ext_getElem? fun i => ?_
  rw [List.getElem?_map]
  cases e : ps[i]? with
  | none =>
    have : rs.length ≤ i := by rw [← R.len]; exact List.getElem?_eq_none_iff.mp e
    rw [List.getElem?_eq_none this]
    rfl
  | some q =>
    obtain ⟨r, hr, hH⟩ := R.at e
    rw [hr]
    show some (L2.rowAt H q) = _
    rw [rowAt_eq hH]
def rCountR : V → List V → Hp → VK → Prop := fun x vs H Q => ∃ (l a : Addr) (ps : List Addr) (rs : List (List Int)) (r : List Int), x = .ref l ∧ vs = [.ref a] ∧ Rows H l ps rs ∧ H a = some (.lst (r.map V.int)) ∧ Q (.int ((rs.filter fun t => decide (t = r)).length : Nat)) H
end
end L2

namespace L2
open PySem PySem.Spec PyProof.Rows
section
variable {X : Cx}
/-! ### y = [..], y a name of its own: stored ahead of letting the block's names go -/
theorem ps_setComp {i0 : Nat} {y : Str} {py spos : Pos} {elt iter : Expr} {x : Str} {px : Pos} {ifs : List Expr} {scope : Scope} {pos : Pos} {wi : TI} {tc : TT} {te : TE} {caps : List Nat} {cl : List (Str × Addr)}
    (hN : X.N.Nodup) (hyi : X.N[i0]? = some y) (hyx : Loc X.env.scope y) (hc : X.calm = true) (B0 : X.Ok → Blk X x caps scope cl) (hi : PI X (.Name x px) iter wi)
    (ht : ∀ C fp s H, PTs (X.blk x caps scope cl C fp s H) ifs tc) (he : ∀ C fp s H, PE (X.blk x caps scope cl C fp s H) elt te)
    (hsw : swapsWith (.ListComp elt [⟨.Name x px, iter, ifs, 0⟩] scope pos) (some (.Name y py)) spos.line X.env = pure true := by rfl)
    (hf : X.fn y = true ∨ X.env.scope.names.lookup y = some .local := by first | exact .inl rfl | exact .inr rfl | assumption)
    (hs : ∀ v, foldedSetIterable iter X.env v = pure v := by intro _; rfl) : PS X (.Assign [.Name y py] (.ListComp elt [⟨.Name x px, iter, ifs, 0⟩] scope pos) spos) (tAsg (tComp wi tc te caps) (gName i0)) := by
  intro pins s σ H D0 I h
  have B := B0 I.ok
  rw [exec_Assign_Name_used _ _ _ _ hsw]
  refine wpAny_bind (wpAny_standAt (wpAny_bind ?_))
  show wpAny _ X.A (do let _ ← comprehension (.ListComp elt [⟨.Name x px, iter, ifs, 0⟩] scope pos) scope X.env _ (newList []) false (eval iter X.env) (some (assign (.Name y py) X.env))) _ _ s
  refine wpAny_bind (wpAny_mono (wpAny_comprehension_free (use := some (assign (.Name y py) X.env)) (Q := fun _ s' => SP X pins D0 .next s') rfl hs B.clos B.kind B.names (thn (hi pins s σ H _ I h) fun v s1 h1 => thn h1 fun itv s2 h2 => ?_)) (fun _ s' hq => wpAny_pure (wpAny_pure hq)) fun _ _ e => e)
  obtain ⟨it, fp, tn, J, H2, rfl, I2, T, st2, f2, q2⟩ := h2
  obtain ⟨W, ⟨m0, w0⟩, turn⟩ := q2 s2.heap.objs.size (I2.hok.fresh (Nat.le_refl _))
  have hfl : ∀ b ∈ fp, b < s2.heap.objs.size := fun b hb => by
    obtain ⟨o, e, _⟩ := T.obj _ _ st2 b hb
    exact Heap.lt_size e
  refine wpAny_newObj_type (wpAny_newFunctionEnv B.nocell (by intro y hy; simp at hy) (fun h₁ hns₁ hsb₁ => ?_) B.kind)
  dsimp only at hns₁ hsb₁ ⊢
  generalize hH2 : s2.heap.push { cls := .type "list", dict := none, data := .seq ([] : List Value).toArray } = HP at hns₁ hsb₁ ⊢
  have hC : HP.objs.size = s2.heap.objs.size + 1 := by rw [← hH2, Heap.size_push]
  have hClt : s2.heap.objs.size < HP.objs.size := by rw [hC]; exact Nat.lt_succ_self _
  have old : ∀ b o, s2.heap.get? b = some o → h₁.get? b = some o := fun b o e =>
    hsb₁.extBut b o (Nat.ne_of_lt (Nat.lt_trans (Heap.lt_size e) hClt)) (Heap.get?_push_of_some _ (hH2 ▸ Heap.get?_push_of_some _ e))
  have hacc : h₁.get? s2.heap.objs.size = some { cls := .type "list", data := .seq #[] 0 } :=
    hsb₁.extBut _ _ (Nat.ne_of_lt hClt) (Heap.get?_push_of_some _ (hH2 ▸ Heap.get?_push_size _ rfl))
  have I3 := B.start (t := s2.toks + ([] : List (Str × Value)).length) I2 f2 hfl hClt old hns₁ hacc
  have st3 : tn 0 h₁ := T.keep _ _ _ st2 fun b hb o e => old b o e
  have stat : ∀ {H' : Hp}, (∀ b ∈ fp, H' b = none) → ∀ b ∈ fp, FpOk (X.blk x caps scope cl HP.objs.size fp s2 H2) [] H' b := fun hn b hb =>
    ⟨hn b hb, ((B.ok I2 f2 hfl (Nat.le_of_lt hClt)).exf b hb).1, (B.ok I2 f2 hfl (Nat.le_of_lt hClt)).exfs b hb, .inl hb, ((B.ok I2 f2 hfl (Nat.le_of_lt hClt)).exf b hb).2, fun p hp => absurd (show p ∈ ([] : List (Addr × Obj)) from hp) (by simp)⟩
  have fr3 : ∀ b ∈ fp, upd H2 s2.heap.objs.size (.lst []) b = none := fun b hb => by
    rw [upd_ne (Nat.ne_of_lt (hfl b hb))]
    exact (f2 b hb).1
  have nd : (X.blkN x caps)[0]? = some x := rfl
  have loop : ∀ s3 : Shared, s3 = { s2 with heap := h₁, toks := s2.toks + ([] : List (Str × Value)).length } →
      codeAny (model X.prog X.w) X.A (.compLoop (.ListComp elt [⟨.Name x px, iter, ifs, 0⟩] scope pos) 0 (.ref it) (.ref s2.heap.objs.size) (compEnvC scope cl HP.objs.size X.env))
        (compPost (model X.prog X.w) X.A X.xe (some (assign (.Name y py) X.env)) (fun _ s' => SP X pins D0 .next s') (.ref s2.heap.objs.size) HP.objs.size) s3 := by
    rintro s3 rfl
    refine codeAny_loop rfl (fun n s' => ∃ i σ' H', Inv (X.blk x caps scope cl HP.objs.size fp s2 H2) [] (σ' :: capSt σ caps) H' s' ∧ tn i s'.heap ∧ (∀ b ∈ fp, H' b = none) ∧ W i n H') (fun n s4 hI => ?_) m0 ⟨0, none, _, I3, st3, fr3, w0⟩
    obtain ⟨i, σ4, H4, I4, st4, fr4, w4⟩ := hI
    show wpAny _ X.A ((compTurn (.ListComp elt [⟨.Name x px, iter, ifs, 0⟩] scope pos) 0 (.ref it) (.ref s2.heap.objs.size) (compEnvC scope cl HP.objs.size X.env)).onRaise (fun x => do noteFrame x (compEnvC scope cl HP.objs.size X.env); theTreesLotGoes x)) _ _ s4
    refine wpAny_noted ?_
    rw [compTurn_list]
    refine wpAny_bind (wpAny_standAt (wpAny_bind ?_))
    rcases turn i n H4 w4 with ⟨stop, qn⟩ | ⟨go, N, hN, step⟩
    · refine thn (T.done (X.blk x caps scope cl HP.objs.size fp s2 H2) rfl rfl rfl hc i [] s4 (σ4 :: capSt σ caps) H4 _ I4 (stat fr4) st4 stop) fun r s5 ⟨hr, I5⟩ => ?_
      subst hr
      refine wpAny_pure ?_
      obtain ⟨m, hn, _⟩ := id I5.loc
      have hfr : H4 HP.objs.size = none := I5.free
      have fpC : FpOk X pins H4 HP.objs.size := I2.fpOk (Nat.le_of_lt hClt) hfr
      obtain ⟨g0, g1, _, g3, g4, g5⟩ := fpC
      have IX : Inv X pins σ H4 s5 := I2.call' (ch := fp) (s' := s5) I5.os I5.base I5.hok I5.bare fun b hb => by
        obtain ⟨f0, f1, f2', f3, f4, f5⟩ := f2 b hb
        exact ⟨f3, f1, f4, f5⟩
      refine wpAny_assign_Name (store_ok2 (v := .ref s2.heap.objs.size) IX hN hyi hyx rfl (fun s6 I6 ⟨a, sb6, ha⟩ => ?_) hf)
      have hCa : HP.objs.size ≠ a := by
        rcases ha with rfl | ha
        · exact g1
        · exact fun z => g4 _ _ ha z.symm
      exact ⟨m, hn.sameBut sb6 hCa, fun h' sb => ⟨_, H4, I6.turned (t' := s6.toks) (fun b o hb e => (sb.2 b hb).trans e) g0 g1 g3 g4 g5, qn⟩⟩
    · refine thn (T.item (X.blk x caps scope cl HP.objs.size fp s2 H2) rfl rfl rfl hc i [] s4 (σ4 :: capSt σ caps) H4 _ I4 (stat fr4) st4 go) fun r s5 ⟨u, hr, h5⟩ => ?_
      subst hr
      refine wpAny_bind (thn h5 fun _ s6 ⟨y, H6, I6, r6, y6, st6, fr6⟩ => ?_)
      have I6' := I6.pinned (stat fr6) (T.obj _ _ st6)
      have again : ∀ {σ7 : Option V} {H7 : Hp} {s7 : Shared}, Inv (X.blk x caps scope cl HP.objs.size fp s2 H2) ([] ++ pinsAt fp s6.heap) (σ7 :: capSt σ caps) H7 s7 → N H7 →
          ∃ m, m < n ∧ ∃ i σ' H', Inv (X.blk x caps scope cl HP.objs.size fp s2 H2) [] (σ' :: capSt σ caps) H' s7 ∧ tn i s7.heap ∧ (∀ b ∈ fp, H' b = none) ∧ W i m H' := fun {σ7 H7 s7} I7 n7 => by
        obtain ⟨m', hm, w7⟩ := hN H7 n7
        refine ⟨m', hm, i + 1, σ7, H7, I7.unpinned, T.keep _ _ _ st6 fun b hb o e => (I7.pin (b, o) (List.mem_append_right _ (List.mem_append_right _ (mem_pinsAt hb e)))).1, fun b hb => ?_, w7⟩
        obtain ⟨o, e, d⟩ := T.obj _ _ st6 b hb
        exact (I7.pin (b, o) (List.mem_append_right _ (List.mem_append_right _ (mem_pinsAt hb e)))).2.1
      have no : ∀ {E : Value → Shared → Prop} (e : Value) (s' : Shared), (X.blk x caps scope cl HP.objs.size fp s2 H2).xe e s' → E e s' := fun _ _ z => False.elim z
      refine wpAny_bind (wpAny_assign_Name (store_ok (X := X.blk x caps scope cl HP.objs.size fp s2 H2) (i := 0) I6' B.nd rfl (.inl (lookup_relabel_local B.loc)) r6 (fun s7 I7 => ?_) (.inr (lookup_relabel_local B.loc))))
      refine wpAny_bind (wpAny_mono (ht _ _ _ _ _ s7 (some y :: capSt σ caps) H6 _ I7 (step y H6 y6)) (fun ok s8 ⟨H8, I8, q8⟩ => ?_) no)
      cases ok with
      | false => exact wpAny_pure ⟨rfl, again I8 q8⟩
      | true =>
        refine wpAny_bind (wpAny_bind (wpAny_mono (he _ _ _ _ _ s8 (some y :: capSt σ caps) H8 _ I8 q8) (fun u s9 ⟨z, H9, I9, r9, ys, hD, hz, q9⟩ => ?_) no))
        refine wpAny_bind (wpAny_mono (mt_append (X := X.blk x caps scope cl HP.objs.size fp s2 H2) _ s9 (some y :: capSt σ caps) H9 (.ref s2.heap.objs.size) [z] (.ref s2.heap.objs.size) [u] (fun _ H10 => N H10) I9 rfl (.cons r9 .nil) ⟨_, ys, z, rfl, rfl, hD, hz, q9⟩) (fun _ s10 ⟨_, H10, I10, _, q10⟩ => ?_) no)
        exact wpAny_pure (wpAny_pure ⟨rfl, again I10 q10⟩)
  exact codeAny_compStart_list (loop _ rfl) (T.self _ _ _ _ _ st3 (loop _ rfl))
end
end L2

namespace L2
open PySem PySem.Spec PyProof.Rows
section
variable {X : Cx}
/-- a comprehension that reads names of the def, as an expression -/
theorem pe_compC {elt iter : Expr} {x : Str} {px : Pos} {ifs : List Expr} {scope : Scope} {pos : Pos} {wi : TI} {tc : TT} {te : TE} {caps : List Nat} {cl : List (Str × Addr)}
    (hc : X.calm = true) (B0 : X.Ok → Blk X x caps scope cl) (hi : PI X (.Name x px) iter wi)
    (ht : ∀ C fp s H, PTs (X.blk x caps scope cl C fp s H) ifs tc) (he : ∀ C fp s H, PE (X.blk x caps scope cl C fp s H) elt te)
    (hs : ∀ v, foldedSetIterable iter X.env v = pure v := by intro _; rfl) : PE X (.ListComp elt [⟨.Name x px, iter, ifs, 0⟩] scope pos) (tComp wi tc te caps) :=
  fun pins s σ H Q I h => pe_comp hc (B0 I.ok) hi ht he hs pins s σ H Q I h
end
end L2

namespace L2
open PySem PySem.Spec PyProof.Rows
section
variable {X : Cx}
/-- x not in a list of data -/
def rNotInD (K : PySem.W.Frag) : R2 := fun x y H Q => ∃ d ds, DatV K H x d ∧ DatV K H y (.list ds) ∧ d.canLay0 = true ∧ PyData.canLayAll0 ds = true ∧ d.depth ≤ 60 ∧ Q (.bl (!ds.any fun y => PyData.eqv y d)) H
end
end L2

namespace Ink
open PySem L2
def top (i : Nat) : Stmt := PySem.Challenge.pw_inkmap_k06_whole_sides.main.body.getD i (.Pass ⟨0, 0, 0, 0⟩)
abbrev sIsDrawing : Stmt := top 6
abbrev sRefuse : Stmt := top 7
abbrev sAllEnds : Stmt := top 8
abbrev sAcrossP : Stmt := top 9
abbrev sNextEnds : Stmt := top 10
abbrev sFaceFrom : Stmt := top 11
abbrev sFaces : Stmt := top 12
abbrev sPointsOf : Stmt := top 14
abbrev sPieceFrom : Stmt := top 15
abbrev sRefNoEnds : Stmt := top 17
abbrev sLeads : Stmt := top 18
abbrev sTwice : Stmt := top 19
abbrev sRefNoRing : Stmt := top 20
abbrev sOffRopes : Stmt := top 21
abbrev sSides : Stmt := top 22
abbrev sUpto : Stmt := top 24
abbrev sWhole : Stmt := top 25
abbrev sAt : Stmt := top 26
abbrev sAcross : Stmt := top 27
abbrev sNextIn : Stmt := top 28
abbrev sFaceOf : Stmt := top 29
abbrev sPut : Stmt := top 30
abbrev sDrawn : Stmt := top 31
abbrev sAreRows : Stmt := top 32
abbrev sCopies : Stmt := top 33
abbrev sFacesOf : Stmt := top 34
abbrev sGroups : Stmt := top 35
abbrev sPointL : Stmt := top 36
abbrev sRingFrom : Stmt := top 37
abbrev sNumberOf : Stmt := top 38
abbrev sSomeRing : Stmt := top 39
abbrev sLaw : Stmt := top 40
end Ink

namespace Ink
open PySem L2
theorem sz (k : Nat) (h : decide (k ≤ 16777216) = true := by rfl) : k ≤ sizeLine := by rw [sizeLine_eq]; exact of_decide_eq_true h
/-- Python's own names that the text calls: none of them is a name of the text -/
structure Txt (mg : Str → Option Value) : Prop where
  len : mg "len" = none
  range : mg "range" = none
  sum : mg "sum" = none
  list : mg "list" = none
  int : mg "int" = none
  bool : mg "bool" = none
  isi : mg "isinstance" = none
  sorted : mg "sorted" = none
  enum : mg "enumerate" = none
/-- a def of the text and its promise -/
structure Def (P : Program) (w : World) (K : PySem.W.Frag) (mg : Str → Option Value) (base : Heap) (x : Str) (k : Nat) (ps : List Str) (sp : Sp) : Prop where
  ex : ∃ f fd, FnOk P w K mg base CX0 k f fd ps sp ∧ mg x = some (.ref f) ∧ PySem.W.keepIn K (.ref f) = true ∧ Binds K fd ps []
theorem pcall {X : Cx} {x : Str} {k : Nat} {ps : List Str} {sp : Sp} {p pos : Pos} {e : Expr} {es : List Expr} {t : TA} (D : Def X.prog X.w X.K X.mg X.base x k ps sp) (hr : Room k X.A) (ha : PA X (e :: es) t) (hg : Gl X x := by rfl) (hdb : (x == ("__debug__" : Str)) = false := by decide)
    (he : starEach (e :: es) X.env = (false, eval e X.env) :: starEach es X.env := by rfl) (hpl : (backTo pos (starEach es X.env)).any (·.1) = false := by rfl) : PE X (.Call (.Name x p) (e :: es) [] pos) (tCall sp [] E0 t) := by
  obtain ⟨f, fd, F, m, kp, b⟩ := D.ex
  exact pe_call F hr hg m kp b .nil pass0 ha hdb he hpl

/-! ### the promises -/
def spUpto (K : PySem.W.Frag) : Sp := fun vs H Q _ => ∃ (a : Addr) (ns : List Int) (x y : Int), vs = [.ref a, .int x, .int y] ∧ SqL K H a (ns.map V.int) ∧ ns.length ≤ 63 ∧ Q (.int x) H
def spAt (K : PySem.W.Frag) : Sp := fun vs H Q _ => ∃ (a : Addr) (ns : List Int) (k : Nat), vs = [.ref a, .int k] ∧ SqL K H a (ns.map V.int) ∧ Q (.int (ns.getD k 0)) H
def spAcross : Sp := fun vs H Q _ => ∃ (e : Int), vs = [.int e] ∧ Q (.int (acr e)) H
def spNextIn : Sp := fun vs H Q _ => ∃ (p : Addr) (ps : List Addr) (rs : Rs) (e : Int), vs = [.ref p, .int e] ∧ Rows H p ps rs ∧ Q (.int (nextIn rs e)) H
section
variable {P : Program} {w : World} {K : PySem.W.Frag} {mg : Str → Option Value} {base : Heap}
theorem scUpto : FnScope ["_law_script", "_law_small", "_law_great"] ["_law_script", "_law_small", "_law_great"] (defScope sUpto) := ⟨rfl, rfl, rfl, by decide +kernel, rfl, by decide +kernel, by decide +kernel⟩
theorem ok_upto {f : Addr} {fd : FuncData} (F : Fun K "_law_upto" "_law_upto" sUpto f fd) (T : Txt mg) : FnOk P w K mg base CX0 1 f fd ["_law_script", "_law_small", "_law_great"] (spUpto K) := by
  refine F.ok scUpto (fun vs H Q E h => ?_) (fun cdv A outer s H vs Q E hr h => ?_)
  · obtain ⟨a, ns, x, y, rfl, _⟩ := h
    rfl
  · obtain ⟨a, ns, x, y, rfl, hS, hl, k⟩ := h
    refine ⟨_, pss_cons (ps_if (pt_cmpR op_gt (pe_callB call_len_seq (by rfl) T.len PySem.boot_len (pa_cons (pv 0) pa_nil)) pe_int (nomark _)) (pss_one (ps_ret (pv 2))) pss_nil) (pss_one (ps_ret (pv 1))), ?_⟩
    refine ⟨_, rfl, a, _, rfl, .inl hS, _, _, rfl, rfl, _, rfl, ?_⟩
    refine ite2 (fun h => ?_) (fun _ => ?_)
    · exfalso
      have h' := of_decide_eq_true h
      rw [List.length_map] at h'
      omega
    · exact ⟨_, rfl, k⟩
theorem scAt : FnScope ["_law_script", "_law_k"] ["_law_script", "_law_k"] (defScope sAt) := ⟨rfl, rfl, rfl, by decide +kernel, rfl, by decide +kernel, by decide +kernel⟩
theorem ok_at {f : Addr} {fd : FuncData} (F : Fun K "_law_at" "_law_at" sAt f fd) (T : Txt mg) : FnOk P w K mg base CX0 1 f fd ["_law_script", "_law_k"] (spAt K) := by
  refine F.ok scAt (fun vs H Q E h => ?_) (fun cdv A outer s H vs Q E hr h => ?_)
  · obtain ⟨a, ns, x, rfl, _⟩ := h
    rfl
  · obtain ⟨a, ns, x, rfl, hS, k⟩ := h
    refine ⟨_, pss_cons (ps_if (pt_cmpR op_lt (pv 1) (pe_callB call_len_seq (by rfl) T.len PySem.boot_len (pa_cons (pv 0) pa_nil)) (nomark _)) (pss_one (ps_ret (pe_ix ix_list (pv 0) (pv 1) (fun _ _ => rfl)))) pss_nil) (pss_one (ps_ret pe_int)), ?_⟩
    refine ⟨_, rfl, _, rfl, a, _, rfl, .inl hS, _, _, rfl, rfl, _, rfl, ?_⟩
    refine ite2 (fun h => ?_) (fun h => ?_)
    · have h' := of_decide_eq_true h
      rw [List.length_map] at h'
      have hx : x < ns.length := by omega
      refine ⟨_, rfl, _, rfl, a, _, _, _, rfl, rfl, hS, atI_nat (j := x) (v := V.int (ns.getD x 0)) ?_, k⟩
      rw [List.getElem?_map, List.getElem?_eq_getElem hx, List.getD_eq_getElem?_getD, List.getElem?_eq_getElem hx]
      rfl
    · have h' : ¬ ((x : Int) < ((ns.map V.int).length : Int)) := fun z => h (decide_eq_true z)
      rw [List.length_map] at h'
      have e : ns.getD x 0 = 0 := by rw [List.getD_eq_getElem?_getD, List.getElem?_eq_none (by omega)]; rfl
      rw [e] at k
      exact k
theorem scAcross : FnScope ["_law_end"] ["_law_end"] (defScope sAcross) := ⟨rfl, rfl, rfl, by decide +kernel, rfl, by decide +kernel, by decide +kernel⟩
theorem ok_across {f : Addr} {fd : FuncData} (F : Fun K "_law_across" "_law_across" sAcross f fd) : FnOk P w K mg base CX0 1 f fd ["_law_end"] spAcross := by
  refine F.ok scAcross (fun vs H Q E h => ?_) (fun cdv A outer s H vs Q E hr h => ?_)
  · obtain ⟨e, rfl, _⟩ := h
    rfl
  · obtain ⟨e, rfl, k⟩ := h
    refine ⟨_, pss_one (ps_ret (pe_op op_sub (pe_op op_add (pv 0) pe_int) (pe_op op_mul pe_int (pe_op op_mod (pv 0) pe_int)))), ?_⟩
    refine ⟨_, rfl, _, _, rfl, rfl, _, rfl, _, _, rfl, rfl, (by show (0 : Int) < 2; decide), _, _, rfl, rfl, .inl ⟨by decide, by decide⟩, _, _, rfl, rfl, k⟩

theorem in_ints (e : Int) : ∀ r : List Int, inV (.int e) (r.map V.int) = decide (e ∈ r)
  | [] => rfl
  | x :: r => by
    have ih := in_ints e r
    have e1 : inV (.int e) ((x :: r).map V.int) = ((x == e) || inV (.int e) (r.map V.int)) := rfl
    rw [e1, ih]
    by_cases h : e ∈ r
    · rw [decide_eq_true h, Bool.or_true, decide_eq_true (List.mem_cons_of_mem _ h)]
    · rw [decide_eq_false h, Bool.or_false]
      by_cases hx : x = e
      · subst hx
        rw [decide_eq_true List.mem_cons_self]
        exact beq_self_eq_true x
      · rw [decide_eq_false fun z => (List.mem_cons.mp z).elim (fun q => hx q.symm) h]
        exact beq_eq_false_iff_ne.mpr hx
theorem flat_ints : ∀ r : List Int, (r.map V.int).all flatV = true
  | [] => rfl
  | x :: r => by rw [List.map_cons, List.all_cons, flat_ints r]; rfl
theorem ref_at {ps : List Addr} {i : Nat} {y : V} (h : (ps.map V.ref)[i]? = some y) : ∃ q, ps[i]? = some q ∧ y = .ref q := by
  rw [List.getElem?_map] at h
  cases e : ps[i]? with
  | none => rw [e] at h; cases h
  | some q => rw [e] at h; exact ⟨q, rfl, (Option.some.inj h).symm⟩
theorem drop_at {α : Type} {l : List α} {i : Nat} {r : α} (h : l[i]? = some r) : l.drop i = r :: l.drop (i + 1) := by
  obtain ⟨hi, e⟩ := List.getElem?_eq_some_iff.mp h
  rw [List.drop_eq_getElem_cons hi, e]
theorem take_at {α : Type} {l : List α} {i : Nat} {r : α} (h : l[i]? = some r) : l.take (i + 1) = l.take i ++ [r] := by
  rw [List.take_add_one, h]; rfl
theorem behind_ix {r : List Int} {e : Int} (h : e ∈ r) : atI (r.map V.int) ((((r.idxOf e : Nat) : Int) + 1) % (((r.map V.int).length : Nat) : Int)) = some (V.int (behind r e)) := by
  have hl : 0 < r.length := List.length_pos_of_mem h
  have hk : (r.idxOf e + 1) % r.length < r.length := Nat.mod_lt _ hl
  have e1 : (((r.idxOf e : Nat) : Int) + 1) % (((r.map V.int).length : Nat) : Int) = (((r.idxOf e + 1) % r.length : Nat) : Int) := by
    rw [List.length_map, Int.natCast_emod]; rfl
  rw [e1]
  refine atI_nat ?_
  rw [List.getElem?_map, List.getElem?_eq_getElem hk]
  unfold behind
  rw [List.getD_eq_getElem?_getD, List.getElem?_eq_getElem hk]
  rfl
theorem nextIn_pos {r : List Int} {rs : Rs} {e : Int} (h : e ∈ r) : nextIn (r :: rs) e = behind r e := if_pos h
theorem nextIn_neg {r : List Int} {rs : Rs} {e : Int} (h : ¬ e ∈ r) : nextIn (r :: rs) e = nextIn rs e := if_neg h
theorem scNextIn : FnScope ["_law_rounds", "_law_end", "_law_row"] ["_law_rounds", "_law_end"] (defScope sNextIn) := ⟨rfl, rfl, rfl, by decide +kernel, rfl, by decide +kernel, by decide +kernel⟩
theorem ok_nextIn {f : Addr} {fd : FuncData} (F : Fun K "_law_next_in" "_law_next_in" sNextIn f fd) (T : Txt mg) : FnOk P w K mg base CX0 1 f fd ["_law_rounds", "_law_end"] spNextIn := by
  refine F.ok scNextIn (fun vs H Q E h => ?_) (fun cdv A outer s H vs Q E hr h => ?_)
  · obtain ⟨p, ps, rs, e, rfl, _⟩ := h
    rfl
  · obtain ⟨p, ps, rs, e, rfl, R, k⟩ := h
    refine ⟨_, pss_cons (ps_for PassesOwn.never rfl (pi_list (pv 0)) (pg_name (i := 2) scNextIn.nd rfl (Or.inl rfl))
      (pss_one (ps_if (pt_cmpR op_in_seq (pv 1) (pv 2) rfl) (pss_one (ps_ret (pe_ix ix_list (pv 2) (pe_op op_mod (pe_op op_add (pe_bm PySem.F.plainAttrs_list PySem.F.slot_list_index PySem.F.type_list_index mt_index (pv 2) (pa_cons (pv 1) pa_nil)) pe_int)
        (pe_callB call_len_seq (by rfl) T.len PySem.boot_len (pa_cons (pv 2) pa_nil))) (fun _ _ => rfl)))) pss_nil)))
      (pss_one (ps_ret (pv 1))), ?_⟩
    refine ⟨_, rfl, p, rfl, ⟨_, .of R.out⟩, for_list (K := K) (a := p) (xs := ps.map V.ref) (fun i σ H2 => H2 = H ∧ ∃ v, σ = [some (.ref p), some (.int e), v] ∧ nextIn rs e = nextIn (rs.drop i) e) ⟨rfl, none, rfl, rfl⟩
      (fun i σ H2 _ hh => by obtain ⟨e2, _⟩ := hh; rw [e2]; exact .of R.out) ?_ ?_⟩
    · rintro i y σ H2 hi ⟨rfl, v, rfl, hn⟩
      obtain ⟨q, hq, rfl⟩ := ref_at hi
      obtain ⟨r, hr', hH⟩ := R.at hq
      rw [drop_at hr'] at hn
      refine ⟨_, rfl, _, rfl, q, _, rfl, .inl (.of hH), rfl, flat_ints r, _, rfl, ?_⟩
      rw [in_ints]
      refine ite2 (fun h => ?_) (fun h => ?_)
      · have hm : e ∈ r := of_decide_eq_true h
        have hl : 0 < r.length := List.length_pos_of_mem hm
        rw [nextIn_pos hm] at hn
        rw [hn] at k
        exact ⟨_, rfl, _, rfl, .inl ⟨rfl, _, .of hH⟩, _, rfl, q, r, e, rfl, rfl, .of hH, hm, _, _, rfl, rfl, _, rfl, q, _, rfl, .inl (.of hH), _, _, rfl, rfl, (by rw [List.length_map]; omega), q, _, _, _, rfl, rfl, .of hH, behind_ix hm, k⟩
      · have hm : ¬ e ∈ r := fun z => h (decide_eq_true z)
        rw [nextIn_neg hm] at hn
        exact ⟨rfl, _, rfl, hn⟩
    · rintro σ H2 ⟨rfl, v, rfl, hn⟩
      rw [List.length_map, R.len, List.drop_length] at hn
      refine ⟨_, rfl, ?_⟩
      rw [hn] at k
      exact k

/-- a new list of a face, all else as it was -/
def spFaceOf : Sp := fun vs H Q _ => ∃ (p : Addr) (ps : List Addr) (rs : Rs) (n : Nat) (e : Int), vs = [.ref p, .int e] ∧ Rows H p ps rs ∧ Dr rs n ∧ n ≤ 1000 ∧ 0 ≤ e ∧ e < n ∧
  ∀ (q : Addr) (row : List Int) (H' : Hp), IsFace (stp rs) e row → H q = none → H' q = some (.lst (row.map V.int)) → Same H H' → Q (.ref q) H'
theorem scFaceOf : FnScope ["_law_rounds", "_law_end", "_law_row", "_law_here"] ["_law_rounds", "_law_end"] (defScope sFaceOf) := ⟨rfl, rfl, rfl, by decide +kernel, rfl, by decide +kernel, by decide +kernel⟩
theorem ok_faceOf {f : Addr} {fd : FuncData} (F : Fun K "_law_face_of" "_law_face_of" sFaceOf f fd) (DA : Def P w K mg base "_law_across" 1 ["_law_end"] spAcross) (DN : Def P w K mg base "_law_next_in" 1 ["_law_rounds", "_law_end"] spNextIn) :
    FnOk P w K mg base CX0 2 f fd ["_law_rounds", "_law_end"] spFaceOf := by
  refine F.ok scFaceOf (fun vs H Q E h => ?_) (fun cdv A outer s H vs Q E hr h => ?_)
  · obtain ⟨p, ps, rs, n, e, rfl, _⟩ := h
    rfl
  · obtain ⟨p, ps, rs, n, e, rfl, R, D, hn, e0, e1, k⟩ := h
    have hs : sizeLine = 16777216 := sizeLine_eq
    refine ⟨_, pss_cons (ps_set (i := 2) scFaceOf.nd rfl (Or.inl rfl) (pe_lst (pa_cons (pv 1) pa_nil)))
      (pss_cons (ps_set (i := 3) scFaceOf.nd rfl (Or.inl rfl) (pcall DN hr (pa_cons (pv 0) (pa_cons (pcall DA hr (pa_cons (pv 1) pa_nil)) pa_nil))))
      (pss_cons (ps_while PassesOwn.never (pt_cmpR op_ne (pv 3) (pv 1) (nomark _)) (pss_cons (ps_expr (pe_bm PySem.F.plainAttrs_list PySem.F.slot_list_append PySem.F.type_list_append mt_append (pv 2) (pa_cons (pv 3) pa_nil)))
        (pss_one (ps_set (i := 3) scFaceOf.nd rfl (Or.inl rfl) (pcall DN hr (pa_cons (pv 0) (pa_cons (pcall DA hr (pa_cons (pv 3) pa_nil)) pa_nil)))))))
      (pss_one (ps_ret (pv 2))))), ?_⟩
    refine ⟨_, rfl, (sz 1), fun l hl => ?_⟩
    have s0 : Same H (L2.upd H l (.lst [.int e])) := (Same.refl H).put hl
    refine ⟨_, rfl, _, rfl, e, rfl, p, ps, rs, acr e, rfl, R.same s0, ?_⟩
    obtain ⟨per, hp0, hp1, hp2⟩ := go_round (f := stp rs) (n := n) (fun x h => D.stp_mem h.1 h.2) (fun x y hx hy h => D.stp_inj hx hy h) ⟨e0, e1⟩
    refine ⟨fun m σ H2 => ∃ j, σ = [some (.ref p), some (.int e), some (.ref l), some (.int (itr (stp rs) (j + 1) e))] ∧ H2 l = some (.lst ((orb (stp rs) e j).map V.int)) ∧ Same H H2 ∧ j + 1 ≤ per ∧ (∀ i, 0 < i → i ≤ j → itr (stp rs) i e ≠ e) ∧ m = per - j,
      ⟨per, 0, rfl, upd_same, s0, hp0, fun i h1 h2 => absurd h1 (by omega), rfl⟩, ?_⟩
    rintro m σ H2 ⟨j, rfl, hL, s2, hj, hno, rfl⟩
    refine ⟨_, rfl, _, rfl, rfl, _, rfl, ?_⟩
    refine ite2 (fun h => ?_) (fun h => ?_)
    · have hne : itr (stp rs) (j + 1) e ≠ e := by
        intro z
        rw [z] at h
        simp at h
      have hlt : j + 1 < per := by
        rcases Nat.lt_or_ge (j + 1) per with z | z
        · exact z
        · have : j + 1 = per := by omega
          rw [this] at hne
          exact absurd hp2 hne
      have s3 : Same H (L2.upd H2 l (.lst ((orb (stp rs) e j).map V.int ++ [.int (itr (stp rs) (j + 1) e)]))) := s2.put hl
      refine ⟨fun σ' H' => σ' = [some (.ref p), some (.int e), some (.ref l), some (.int (itr (stp rs) (j + 2) e))] ∧ H' l = some (.lst ((orb (stp rs) e (j + 1)).map V.int)) ∧ Same H H',
        fun σ' H' ⟨a, b, c⟩ => ⟨per - (j + 1), by omega, j + 1, a, b, c, by omega, fun i h1 h2 => ?_, rfl⟩, ?_⟩
      · rcases Nat.lt_or_ge j i with z | z
        · have : i = j + 1 := by omega
          rw [this]; exact hne
        · exact hno i h1 z
      · refine ⟨_, rfl, .inl ⟨rfl, _, .of hL⟩, _, rfl, l, _, _, rfl, rfl, hL, (by rw [List.length_map, orb_length]; omega), ?_⟩
        refine ⟨_, rfl, _, rfl, _, rfl, p, ps, rs, acr (itr (stp rs) (j + 1) e), rfl, R.same s3, rfl, ?_, s3⟩
        rw [upd_same, orb_succ, List.map_append]
        rfl
    · have heq : itr (stp rs) (j + 1) e = e := by
        by_cases z : itr (stp rs) (j + 1) e = e
        · exact z
        · exact absurd (by simp [z]) h
      exact ⟨_, rfl, k l _ H2 ⟨j, rfl, heq, hno⟩ hl hL s2⟩

/-- the rows that hold b get e behind it; all else stays -/
def spPut : Sp := fun vs H Q _ => ∃ (p : Addr) (ps : List Addr) (rs : Rs) (b e : Int), vs = [.ref p, .int b, .int e] ∧ Rows H p ps rs ∧ (∀ r ∈ rs, r.length ≤ 1000) ∧
  ∀ (H' : Hp), Rows H' p ps (putIn rs b e) → (∀ c o, H c = some o → c ∉ ps → H' c = some o) → Q .non H'
theorem scPut : FnScope ["_law_rounds", "_law_behind", "_law_end", "_law_row"] ["_law_rounds", "_law_behind", "_law_end"] (defScope sPut) := ⟨rfl, rfl, rfl, by decide +kernel, rfl, by decide +kernel, by decide +kernel⟩
def mix (g : List Int → List Int) (rs : Rs) (i : Nat) : Rs := (rs.take i).map g ++ rs.drop i
theorem mix_at {g : List Int → List Int} {rs : Rs} {i : Nat} {r : List Int} (h : rs[i]? = some r) : (mix g rs i)[i]? = some r := by
  have hi : i < rs.length := (List.getElem?_eq_some_iff.mp h).1
  unfold mix
  rw [List.getElem?_append_right (by rw [List.length_map, List.length_take]; omega), List.length_map, List.length_take, Nat.min_eq_left (by omega), Nat.sub_self, drop_at h]
  rfl
theorem mix_set {g : List Int → List Int} {rs : Rs} {i : Nat} {r : List Int} (h : rs[i]? = some r) : (mix g rs i).set i (g r) = mix g rs (i + 1) := by
  have hi : i < rs.length := (List.getElem?_eq_some_iff.mp h).1
  unfold mix
  have hl : ((rs.take i).map g).length = i := by rw [List.length_map, List.length_take]; omega
  rw [List.set_append_right _ _ (by rw [hl]; exact Nat.le_refl _), hl, Nat.sub_self, drop_at h, take_at h, List.map_append]
  simp
theorem mix_same {g : List Int → List Int} {rs : Rs} {i : Nat} {r : List Int} (h : rs[i]? = some r) (e : g r = r) : mix g rs (i + 1) = mix g rs i := by
  unfold mix
  rw [take_at h, drop_at h, List.map_append]
  simp [e]
theorem mix_all {g : List Int → List Int} {rs : Rs} {n : Nat} (h : rs.length ≤ n) : mix g rs n = rs.map g := by
  unfold mix
  rw [List.take_of_length_le h, List.drop_of_length_le h, List.append_nil]
theorem ok_put {f : Addr} {fd : FuncData} (F : Fun K "_law_put" "_law_put" sPut f fd) : FnOk P w K mg base CX0 1 f fd ["_law_rounds", "_law_behind", "_law_end"] spPut := by
  refine F.ok scPut (fun vs H Q E h => ?_) (fun cdv A outer s H vs Q E hr h => ?_)
  · obtain ⟨p, ps, rs, b, e, rfl, _⟩ := h
    rfl
  · obtain ⟨p, ps, rs, b, e, rfl, R, hsz, k⟩ := h
    have hs : sizeLine = 16777216 := sizeLine_eq
    refine ⟨_, pss_one (ps_for PassesOwn.never rfl (pi_list (pv 0)) (pg_name (i := 3) scPut.nd rfl (Or.inl rfl))
      (pss_one (ps_if (pt_cmpR op_in_seq (pv 1) (pv 3) rfl) (pss_one (ps_expr (pe_bm PySem.F.plainAttrs_list PySem.F.slot_list_insert PySem.F.type_list_insert mt_insert (pv 3)
        (pa_cons (pe_op op_add (pe_bm PySem.F.plainAttrs_list PySem.F.slot_list_index PySem.F.type_list_index mt_index (pv 3) (pa_cons (pv 1) pa_nil)) pe_int) (pa_cons (pv 2) pa_nil))))) pss_nil))), ?_⟩
    refine ⟨_, rfl, p, rfl, ⟨_, .of R.out⟩, for_list (K := K) (a := p) (xs := ps.map V.ref) (fun i σ H2 => ∃ v, σ = [some (.ref p), some (.int b), some (.int e), v] ∧ Rows H2 p ps (mix (putRow b e) rs i) ∧ ∀ c o, H c = some o → c ∉ ps → H2 c = some o) ⟨none, rfl, R, fun _ _ z _ => z⟩
      (fun i σ H2 _ hh => by obtain ⟨_, _, R2, _⟩ := hh; exact .of R2.out) ?_ ?_⟩
    · rintro i y σ H2 hi ⟨v, rfl, R2, kp⟩
      obtain ⟨q, hq, rfl⟩ := ref_at hi
      obtain ⟨r, hr', _⟩ := R.at hq
      have hH := R2.row i q r hq (mix_at hr')
      refine ⟨_, rfl, _, rfl, q, _, rfl, .inl (.of hH), rfl, flat_ints r, _, rfl, ?_⟩
      rw [in_ints]
      refine ite2 (fun h => ?_) (fun h => ?_)
      · have hm : b ∈ r := of_decide_eq_true h
        have hl : r.idxOf b < r.length := List.idxOf_lt_length_iff.mpr hm
        have hz := hsz r (List.mem_of_getElem? hr')
        refine ⟨_, rfl, .inl ⟨rfl, _, .of hH⟩, _, rfl, .inl ⟨rfl, _, .of hH⟩, _, rfl, q, r, b, rfl, rfl, .of hH, hm, _, _, rfl, rfl, _, rfl, q, _, _, _, rfl, rfl, hH, by omega, (by rw [List.length_map]; omega), (by rw [List.length_map]; omega), ?_⟩
        have e1 : (r.map V.int).take (((r.idxOf b : Nat) : Int) + 1).toNat ++ V.int e :: (r.map V.int).drop (((r.idxOf b : Nat) : Int) + 1).toNat = (putRow b e r).map V.int := by
          have e2 : (((r.idxOf b : Nat) : Int) + 1).toNat = r.idxOf b + 1 := by omega
          unfold putRow insAt
          rw [if_pos hm, e2, List.map_append, List.map_cons, List.map_take, List.map_drop]
        rw [e1]
        refine ⟨_, rfl, ?_, fun c o z hc => ?_⟩
        · have := R2.set hq (putRow b e r)
          rw [mix_set hr'] at this
          exact this
        · have ncq : c ≠ q := fun z' => hc (z' ▸ List.mem_of_getElem? hq)
          rw [upd_ne ncq]
          exact kp c o z hc
      · have hm : ¬ b ∈ r := fun z => h (decide_eq_true z)
        refine ⟨_, rfl, ?_, kp⟩
        rw [mix_same hr' (putRow_no hm)]
        exact R2
    · rintro σ H2 ⟨v, rfl, R2, kp⟩
      rw [List.length_map, R.len, mix_all (Nat.le_refl _)] at R2
      exact k H2 R2 kp
end
end Ink

namespace Ink
open PySem L2

/-- a drawing that the law has made, new behind H -/
structure Dn (any : Prop) (H H2 : Hp) (p : Addr) (ps : List Addr) (rs : Rs) (n : Nat) : Prop where
  made : Made any rs n
  rows : Rows H2 p ps rs
  same : Same H H2
  fp : H p = none
  fr : ∀ q ∈ ps, H q = none
theorem row_le {rs : Rs} {n : Nat} (d : Dr rs n) {r : List Int} (h : r ∈ rs) : r.length ≤ n := by
  have := d.len
  have q : r.length ≤ rs.flatten.length := by
    obtain ⟨a, b, rfl⟩ := List.append_of_mem h
    simp
    omega
  omega
theorem sum_lens : ∀ rs : Rs, (rs.map fun r => (r.length : Int)).sum = (rs.flatten.length : Int)
  | [] => rfl
  | r :: rs => by
    rw [List.map_cons, List.sum_cons, sum_lens rs, List.flatten_cons, List.length_append]
    omega
/-- the law's drawings: behind at most c cells -/
def spDrawn (K : PySem.W.Frag) : Sp := fun vs H Q _ => ∃ (a : Addr) (cs : List Int) (mode : Int), vs = [.ref a, .int mode] ∧ SqL K H a (cs.map V.int) ∧ cs.length ≤ 100 ∧
  ∀ (p : Addr) (ps : List Addr) (rs : Rs) (n : Nat) (H' : Hp), Dn (mode = 2) H H' p ps rs n → n ≤ 2 + cs.length → rs.length ≤ 2 + cs.length → Q (.ref p) H'
section
variable {P : Program} {w : World} {K : PySem.W.Frag} {mg : Str → Option Value} {base : Heap}
theorem scDrawn : FnScope ["_law_cells", "_law_mode", "_law_rounds", "_law_ends", "_law_k", "_law_way", "_law_here", "_law_row", "_law_there"] ["_law_cells", "_law_mode"] (defScope sDrawn) := ⟨rfl, rfl, rfl, by decide +kernel, rfl, by decide +kernel, by decide +kernel⟩
theorem int_at {cs : List Int} {i : Nat} {z : Int} (h : i < cs.length) (e : z = (i : Int)) : atI (cs.map V.int) z = some (V.int (cs.getD i 0)) := by
  subst e
  refine atI_nat ?_
  rw [List.getElem?_map, List.getElem?_eq_getElem h, List.getD_eq_getElem?_getD, List.getElem?_eq_getElem h]
  rfl
abbrev tLen (K : PySem.W.Frag) (i : Nat) : TE := tCB (fun xs H Q => ∃ p ys, xs = [.ref p] ∧ (SqL K H p ys ∨ SqT K H p ys) ∧ Q (.int ys.length) H) (tCons (tVar i) tNil)
theorem yes_go {te : TE} {σ : St} {H : Hp} {k : V → Hp → Prop} {N : Hp → Prop} (h : te σ H k) : tYes σ H fun b H3 => if b = true then te σ H3 k else N H3 := iteT (A := te σ H k) (B := N H) h
theorem lens_comp {K : PySem.W.Frag} {p D : Addr} {ps : List Addr} {rs : Rs} {H : Hp} {Qd : Hp → Prop} {cσ : St} (R : Rows H p ps rs) (hD : H D = none) (hsz : rs.length ≤ 1000)
    (q : ∀ H', Same H H' → H' D = some (.lst (rs.map fun r => V.int (r.length : Int))) → Qd H') :
    ∃ W : Nat → Nat → Hp → Prop, (∃ m, W 0 m (upd H D (.lst []))) ∧ ∀ i m H, W i m H →
      ((Itl K p).stop i H ∧ Qd H) ∨ ((Itl K p).go i H ∧ ∃ N : Hp → Prop, (∀ H', N H' → ∃ m', m' < m ∧ W (i + 1) m' H') ∧ ∀ x H', (Itl K p).yld i H x H' →
        tYes (some x :: cσ) H' fun b H3 => if b = true then tLen K 0 (some x :: cσ) H3 fun y H4 => ∃ ys, H4 D = some (.lst ys) ∧ ys.length < sizeLine ∧ N (upd H4 D (.lst (ys ++ [y]))) else N H3) := by
  have hs : sizeLine = 16777216 := sizeLine_eq
  refine comp_list (xs := ps.map V.ref) (fun i H2 => Same H H2 ∧ H2 D = some (.lst ((rs.take i).map fun r => V.int (r.length : Int)))) ⟨(Same.refl H).put hD, upd_same⟩ (fun i H2 _ hh => by obtain ⟨s, _⟩ := hh; exact .of (s _ _ R.out)) ?_ ?_
  · rintro i y H2 hi ⟨s, hd⟩
    obtain ⟨a, ha, rfl⟩ := ref_at hi
    obtain ⟨r, hr, hH⟩ := R.at ha
    refine yes_go ⟨_, rfl, a, _, rfl, .inl (.of (s _ _ hH)), _, hd, ?_, s.put hD, ?_⟩
    · rw [List.length_map, List.length_take]; omega
    · rw [upd_same, take_at hr, List.map_append, List.length_map]; rfl
  · rintro H2 ⟨s, hd⟩
    rw [List.length_map, R.len, List.take_length] at hd
    exact q H2 s hd

/-- ends = sum([len(row) for row in rounds]) -/
abbrev tEnds (K : PySem.W.Frag) : TS := tAsg (tCB (fun xs H Q => ∃ (p : Addr) (ns : List Int), xs = [.ref p] ∧ SqL K H p (ns.map V.int) ∧ Q (.int ns.sum) H) (tCons (tComp (iList K (tVar 2)) tYes (tLen K 0) []) tNil)) (gName 3)
theorem ends_ok {K : PySem.W.Frag} {any : Prop} {H H3 : Hp} {p : Addr} {ps : List Addr} {rs : Rs} {n : Nat} {D : Ends} {v0 v1 v3 v4 v5 v6 v7 v8 : Option V} (d : Dn any H H3 p ps rs n) (hsz : rs.length ≤ 1000)
    (q : ∀ H4, Dn any H H4 p ps rs n → D.nx [v0, v1, some (.ref p), some (.int n), v4, v5, v6, v7, v8] H4) : tEnds K D [v0, v1, some (.ref p), v3, v4, v5, v6, v7, v8] H3 := by
  refine ⟨_, rfl, p, rfl, ⟨_, .of d.rows.out⟩, fun D hD => lens_comp d.rows hD hsz fun H4 s hd => ?_⟩
  refine ⟨D, rs.map fun r => (r.length : Int), rfl, .of (by rw [List.map_map]; exact hd), ?_⟩
  rw [sum_lens, d.made.dr.len]
  exact q H4 ⟨d.made, d.rows.same s, d.same.trans s, d.fp, d.fr⟩
theorem if_and {t u : TS} {D : Ends} {σ : St} {H : Hp} {c1 c2 : TT} (b1 b2 : Bool) (h1 : ∀ Q : Bool → Hp → Prop, Q b1 H → c1 σ H Q) (h2 : ∀ Q : Bool → Hp → Prop, Q b2 H → c2 σ H Q) (hT : b1 = true → b2 = true → t D σ H) (hF : (b1 && b2) = false → u D σ H) : tIfS (tAnd c1 c2) t u D σ H := by
  refine h1 _ ?_
  cases b1 with
  | false => exact hF rfl
  | true =>
    refine h2 _ ?_
    cases b2 with
    | false => exact hF rfl
    | true => exact hT rfl rfl
theorem _root_.L2.Rows.app2 {H H' : Hp} {p p' p2 : Addr} {ps qs : List Addr} {rs ts : List (List Int)} (h : Rows H p ps rs) (s : Same H H') (g : Rows H' p2 qs ts) (dj : ∀ q ∈ qs, q ∉ ps) (ho : H' p' = some (.lst ((ps ++ qs).map V.ref))) : Rows H' p' (ps ++ qs) (rs ++ ts) :=
  h.app (fun q _ o e => s q o e) g.len g.row g.nd dj ho
theorem _root_.L2.Same.off {H H2 H3 : Hp} {ps : List Addr} (s : Same H H2) (hf : ∀ q ∈ ps, H q = none) (kp : ∀ c o, H2 c = some o → c ∉ ps → H3 c = some o) : Same H H3 := fun c o e =>
  kp c o (s c o e) fun z => by rw [hf c z] at e; cases e
theorem mem_ne {H2 : Hp} {p : Addr} {ps : List Addr} {rs : Rs} {q : Addr} (h : Rows H2 p ps rs) (hq : H2 q = none) : q ∉ ps := fun z => by
  obtain ⟨r, _, e⟩ := h.mem z
  rw [hq] at e
  cases e
theorem at_any {row : List Int} {i : Int} (h0 : -(row.length : Int) ≤ i) (h1 : i < row.length) : ∃ z, z ∈ row ∧ atI (row.map V.int) i = some (V.int z) := by
  by_cases hi : 0 ≤ i
  · have hk : i.toNat < row.length := by omega
    refine ⟨row[i.toNat], List.getElem_mem hk, ?_⟩
    have e : atI (row.map V.int) ((i.toNat : Nat) : Int) = some (V.int row[i.toNat]) := atI_nat (by rw [List.getElem?_map, List.getElem?_eq_getElem hk]; rfl)
    rw [show ((i.toNat : Nat) : Int) = i by omega] at e
    exact e
  · have hk : (i + row.length).toNat < row.length := by omega
    refine ⟨row[(i + row.length).toNat], List.getElem_mem hk, ?_⟩
    unfold atI ixN
    rw [if_neg hi, List.length_map, if_pos h0]
    show (row.map V.int)[(i + row.length).toNat]? = _
    rw [List.getElem?_map, List.getElem?_eq_getElem hk]
    rfl
theorem putIn_le {rs : Rs} {n : Nat} {b e : Int} (d : ∀ r ∈ rs, r.length ≤ n) : ∀ r ∈ putIn rs b e, r.length ≤ n + 1 := by
  intro r hr
  obtain ⟨t, ht, rfl⟩ := List.mem_map.mp hr
  have := d t ht
  unfold putRow
  split
  · rw [(insAt_perm t b e).length_eq, List.length_cons]; omega
  · omega
/-- two statements by what holds between them -/
theorem seq_via {t U : TS} {D : Ends} {σ : St} {H : Hp} (R : St → Hp → Prop) (hU : ∀ σ H, R σ H → U D σ H) (ht : ∀ Kn : St → Hp → Prop, (∀ σ H, R σ H → Kn σ H) → t { D with nx := Kn } σ H) : tSeq t U D σ H := ht (U D) hU
theorem ok_drawn {f : Addr} {fd : FuncData} (F : Fun K "_law_drawn" "_law_drawn" sDrawn f fd) (T : Txt mg) (DA : Def P w K mg base "_law_across" 1 ["_law_end"] spAcross) (DN : Def P w K mg base "_law_next_in" 1 ["_law_rounds", "_law_end"] spNextIn)
    (DF : Def P w K mg base "_law_face_of" 2 ["_law_rounds", "_law_end"] spFaceOf) (DP : Def P w K mg base "_law_put" 1 ["_law_rounds", "_law_behind", "_law_end"] spPut) : FnOk P w K mg base CX0 3 f fd ["_law_cells", "_law_mode"] (spDrawn K) := by
  refine F.ok scDrawn (fun vs H Q E h => ?_) (fun cdv A outer s H vs Q E hr h => ?_)
  · obtain ⟨a, cs, mode, rfl, _⟩ := h
    rfl
  · obtain ⟨a, cs, mode, rfl, hS, hcs, k⟩ := h
    have hs : sizeLine = 16777216 := sizeLine_eq
    have hr1 : Room 1 _ := hr.mono (by decide)
    have nd := scDrawn.nd
    refine ⟨_, pss_cons (ps_set (i := 2) nd rfl (Or.inl rfl) (pe_lst (pa_cons (pe_lst (pa_cons pe_int pa_nil)) (pa_cons (pe_lst (pa_cons pe_int pa_nil)) pa_nil))))
      (pss_cons (ps_if (pt_cmpR op_eq (pe_op op_mod (pe_callB call_len_seq (by rfl) T.len PySem.boot_len (pa_cons (pv 0) pa_nil)) pe_int) pe_int (nomark _)) (pss_one (ps_set (i := 2) nd rfl (Or.inl rfl) (pe_lst (pa_cons (pe_lst (pa_cons pe_int (pa_cons pe_int pa_nil))) pa_nil)))) (pss_nil))
      (pss_cons (ps_set (i := 3) nd rfl (Or.inl rfl) pe_int)
      (pss_cons (ps_for PassesOwn.never rfl (pi_range3 (by rfl) T.range (pa_cons pe_int (pa_cons (pe_op op_sub (pe_callB call_len_seq (by rfl) T.len PySem.boot_len (pa_cons (pv 0) pa_nil)) pe_int) (pa_cons pe_int pa_nil)))) (pg_name (i := 4) nd rfl (Or.inl rfl)) (pss_cons (ps_set (i := 5) nd rfl (Or.inl rfl) (pe_op op_mod (pe_ix ix_list (pv 0) (pv 4) (fun _ _ => rfl)) pe_int))
      (pss_cons (ps_set (i := 6) nd rfl (Or.inl rfl) (pe_op op_mod (pe_ix ix_list (pv 0) (pe_op op_add (pv 4) pe_int) (fun _ _ => rfl)) (pv 3)))
      (pss_cons (ps_if (pw_and (pt_cmpR op_eq (pv 5) pe_int (nomark _)) (pw_and1 (pt_cmpR op_gt (pv 1) pe_int (nomark _)))).pt (pss_one (ps_set (i := 2) nd rfl (Or.inl rfl) (pe_op op_cat (pv 2) (pe_lst (pa_cons (pe_lst (pa_cons (pv 3) pa_nil)) (pa_cons (pe_lst (pa_cons (pe_op op_add (pv 3) pe_int) pa_nil)) pa_nil)))))) (pss_one (ps_if (pw_and (pt_cmpR op_eq (pv 5) pe_int (nomark _)) (pw_and1 (pt_cmpR op_gt (pv 1) pe_int (nomark _)))).pt (pss_one (ps_expr (pe_bm PySem.F.plainAttrs_list PySem.F.slot_list_append PySem.F.type_list_append mt_append (pv 2) (pa_cons (pe_lst pa_nil) pa_nil)))) (pss_one (ps_if (pt_cmpR op_lt (pv 5) pe_int (nomark _)) (pss_cons (ps_expr (pcall DP hr1 (pa_cons (pv 2) (pa_cons (pv 6) (pa_cons (pv 3) pa_nil)))))
      (pss_one (ps_expr (pe_bm PySem.F.plainAttrs_list PySem.F.slot_list_append PySem.F.type_list_append mt_append (pv 2) (pa_cons (pe_lst (pa_cons (pe_op op_add (pv 3) pe_int) pa_nil)) pa_nil))))) (pss_cons (ps_set (i := 7) nd rfl (Or.inl rfl) (pcall DF hr (pa_cons (pv 2) (pa_cons (pcall DN hr1 (pa_cons (pv 2) (pa_cons (pv 6) pa_nil))) pa_nil))))
      (pss_cons (ps_set (i := 8) nd rfl (Or.inl rfl) (pcall DA hr1 (pa_cons (pe_ix ix_list (pv 7) (pe_op op_sub (pe_op op_mod (pe_op op_fdiv (pe_ix ix_list (pv 0) (pv 4) (fun _ _ => rfl)) pe_int) (pe_callB call_len_seq (by rfl) T.len PySem.boot_len (pa_cons (pv 7) pa_nil))) pe_int) (fun _ _ => rfl)) pa_nil)))
      (pss_cons (ps_if (pt_cmpR op_eq (pv 1) pe_int (nomark _)) (pss_one (ps_set (i := 8) nd rfl (Or.inl rfl) (pe_op op_mod (pe_op op_fdiv (pe_ix ix_list (pv 0) (pv 4) (fun _ _ => rfl)) pe_int) (pv 3)))) (pss_nil))
      (pss_cons (ps_expr (pcall DP hr1 (pa_cons (pv 2) (pa_cons (pv 6) (pa_cons (pv 3) pa_nil)))))
      (pss_one (ps_expr (pcall DP hr1 (pa_cons (pv 2) (pa_cons (pv 8) (pa_cons (pe_op op_add (pv 3) pe_int) pa_nil)))))))))))))))
      (pss_one (ps_set (i := 3) nd rfl (Or.inl rfl) (pe_callB (call_sum rfl) (by rfl) T.sum PyProof.Rows.boot_sum (pa_cons (pe_comp (te := tLen K 0) rfl (Blk.plain rfl (by decide +kernel) (by decide +kernel)) (pi_list (pv 2)) (fun _ _ _ _ => pts_nil) (fun _ _ _ _ => (pe_callB call_len_seq (by rfl) T.len PySem.boot_len (pa_cons (pv 0) pa_nil)))) pa_nil))))))))
      (pss_one (ps_ret (pv 2)))))), ?_⟩
    -- rounds = [[0], [1]]
    refine ⟨(sz 1), fun l1 h1 => ⟨(sz 1), fun l2 h2 => ⟨(sz 2), fun p0 h3 => ?_⟩⟩⟩
    obtain ⟨n21, h2'⟩ := upd_none h2
    obtain ⟨n32, h3'⟩ := upd_none h3
    obtain ⟨n31, h3''⟩ := upd_none h3'
    have s0 : Same H (L2.upd (L2.upd (L2.upd H l1 (.lst [.int 0])) l2 (.lst [.int 1])) p0 (.lst [.ref l1, .ref l2])) := (((Same.refl H).put h1).put h2').put h3''
    dsimp only [gName]
    with_reducible refine seq_via (fun σ' H' => ∃ p ps rs, σ' = [some (.ref a), some (.int mode), some (.ref p), none, none, none, none, none, none] ∧ Dn (mode = 2) H H' p ps rs 2 ∧ rs.length ≤ 2) ?loop (fun Kn hK => ?ini)
    case ini =>
      refine ⟨_, rfl, a, _, rfl, .inl (s0.seq hS), _, _, rfl, rfl, (by show (0 : Int) < 5; decide), rfl, _, rfl, ?_⟩
      refine ite2 (fun h => ?_) (fun h => ?_)
      · refine ⟨(sz 2), fun l3 h4 => ⟨(sz 1), fun p1 h5 => ?_⟩⟩
        obtain ⟨n53, h5'⟩ := upd_none h5
        have f4 := s0.free h4
        have f5 := s0.free h5'
        refine hK _ _ ⟨p1, [l3], [[0, 1]], rfl, ⟨.one, Rows.one upd_same (by rw [upd_ne (Ne.symm n53), upd_same]; rfl), (s0.put f4).put f5, f5, fun q hq => ?_⟩, by decide⟩
        have : q = l3 := by simpa using hq
        subst this
        exact f4
      · refine hK _ _ ⟨p0, [l1, l2], [[0], [1]], rfl, ⟨.two, Rows.two upd_same (Ne.symm n21) (by rw [upd_ne (Ne.symm n31), upd_ne (Ne.symm n21), upd_same]; rfl) (by rw [upd_ne (Ne.symm n32), upd_same]; rfl), s0, h3'', fun q hq => ?_⟩, by decide⟩
        rcases List.mem_cons.mp hq with rfl | hq
        · exact h1
        · have : q = l2 := by simpa using hq
          subst this
          exact h2'
    case loop =>
      rintro σ H2 ⟨p, ps, rs, rfl, d, hl⟩
      refine ⟨_, rfl, a, _, rfl, .inl (d.same.seq hS), _, _, rfl, rfl, _, _, _, rfl, ⟨by decide, by decide, by rw [List.length_map]; omega, by rw [List.length_map]; omega, by decide, by decide⟩,
        for_rangeS (fun i σ H2 => ∃ p ps rs n v4 v5 v6 v7 v8, σ = [some (.ref a), some (.int mode), some (.ref p), some (.int (n : Nat)), v4, v5, v6, v7, v8] ∧ Dn (mode = 2) H H2 p ps rs n ∧ n ≤ 2 + 2 * i ∧ rs.length ≤ 2 + 2 * i) ⟨p, ps, rs, 2, _, _, _, _, _, rfl, d, by omega, by omega⟩ ?_ ?_⟩
      · rintro i σ H3 hi ⟨p, ps, rs, n, v4, v5, v6, v7, v8, rfl, d, hn, hrs⟩
        have hi2 : 2 * i + 1 < cs.length := by
          rw [List.length_map] at hi
          unfold Builtin.Range.rangeSize at hi
          split at hi <;> split at hi <;> omega
        have hS3 : SqL K H3 a (cs.map V.int) := d.same.seq hS
        have h2n := d.made.le2
        have hn' : n ≤ 300 := by omega
        have hsz : ∀ r ∈ rs, r.length ≤ 300 := fun r hr => Nat.le_trans (row_le d.made.dr hr) hn'
        have hout := d.rows.out
        have hlen := d.rows.len
        refine ⟨_, rfl, _, rfl, a, _, _, _, rfl, rfl, hS3, int_at (i := 2 * i) (by omega) (by omega), _, _, rfl, rfl, (by show (0 : Int) < 8; decide), ?_⟩
        refine ⟨_, rfl, _, rfl, _, _, rfl, rfl, a, _, _, _, rfl, rfl, hS3, int_at (i := 2 * i + 1) (by omega) (by omega), _, rfl, _, _, rfl, rfl, (by show (0 : Int) < (n : Int); omega), ?_⟩
        have here0 : 0 ≤ cs.getD (2 * i + 1) 0 % (n : Int) ∧ cs.getD (2 * i + 1) 0 % (n : Int) < n := ⟨Int.emod_nonneg _ (by omega), Int.emod_lt_of_pos _ (by omega)⟩
        dsimp only [gName]
        generalize cs.getD (2 * i + 1) 0 % (n : Int) = here at here0 ⊢
        generalize cs.getD (2 * i) 0 % (8 : Int) = way
        with_reducible refine seq_via (fun σ' H' => ∃ p' ps' rs' n' w7 w8, σ' = [some (.ref a), some (.int mode), some (.ref p'), some (.int (n : Nat)), some (.int (0 + i * 2)), some (.int way), some (.int here), w7, w8] ∧ Dn (mode = 2) H H' p' ps' rs' n' ∧ n' ≤ n + 2 ∧ rs'.length ≤ rs.length + 2) ?_ (fun Kn hK => ?_)
        · rintro σ' H4 ⟨p', ps', rs', n', w7, w8, rfl, d', hn2, hrs'⟩
          exact ends_ok d' (by omega) fun H5 d5 => ⟨p', ps', rs', n', _, _, _, _, _, rfl, d5, by omega, by omega⟩
        · refine if_and _ _ (fun Q q => ⟨_, rfl, rfl, _, rfl, q⟩) (fun Q q => ⟨_, rfl, _, _, rfl, rfl, _, rfl, q⟩) (fun _ _ => ?_) (fun _ => ?_)
          · -- two points of their own
            refine ⟨_, rfl, _, rfl, (sz 1), fun l1 h1 => ⟨_, rfl, _, _, rfl, rfl, (sz 1), fun l2 h2 => ⟨(sz 2), fun l3 h3 => ?_⟩⟩⟩
            obtain ⟨n21, h2'⟩ := upd_none h2
            obtain ⟨n32, h3'⟩ := upd_none h3
            obtain ⟨n31, h3c⟩ := upd_none h3'
            have s3 : Same H3 (L2.upd (L2.upd (L2.upd H3 l1 (.lst [.int n])) l2 (.lst [.int (n + 1)])) l3 (.lst [.ref l1, .ref l2])) := (((Same.refl H3).put h1).put h2').put h3c
            refine ⟨p, l3, _, _, rfl, rfl, s3 _ _ hout, upd_same, (by rw [List.length_map]; show ps.length + 2 ≤ sizeLine; omega), fun l4 h4 => ?_⟩
            obtain ⟨n43, h4'⟩ := upd_none h4
            obtain ⟨n42, h4c⟩ := upd_none h4'
            obtain ⟨n41, h4d⟩ := upd_none h4c
            refine hK _ _ ⟨l4, ps ++ [l1, l2], rs ++ [[(n : Int)], [(n : Int) + 1]], n + 2, _, _, rfl, ⟨d.made.apart, ?_, d.same.trans (s3.put h4d), d.same.free h4d, fun q hq => ?_⟩, Nat.le_refl _, by rw [List.length_append]; exact Nat.le_refl _⟩
            · refine Rows.app2 (p2 := l3) d.rows (s3.put h4d) (Rows.two ?_ (Ne.symm n21) ?_ ?_) (fun q hq => ?_) ?_
              · rw [upd_ne (Ne.symm n43), upd_same]
              · rw [upd_ne (Ne.symm n41), upd_ne (Ne.symm n31), upd_ne (Ne.symm n21), upd_same]; rfl
              · rw [upd_ne (Ne.symm n42), upd_ne (Ne.symm n32), upd_same]; rfl
              · rcases List.mem_cons.mp hq with rfl | hq
                · exact mem_ne d.rows h1
                · have : q = l2 := by simpa using hq
                  subst this
                  exact mem_ne d.rows h2'
              · rw [upd_same, List.map_append]; rfl
            · rcases List.mem_append.mp hq with z | z
              · exact d.fr q z
              · rcases List.mem_cons.mp z with rfl | z
                · exact d.same.free h1
                · have : q = l2 := by simpa using z
                  subst this
                  exact d.same.free h2'
          · refine if_and _ _ (fun Q q => ⟨_, rfl, rfl, _, rfl, q⟩) (fun Q q => ⟨_, rfl, _, _, rfl, rfl, _, rfl, q⟩) (fun _ _ => ?_) (fun _ => ?_)
            · -- a point alone
              refine ⟨_, rfl, .inl ⟨rfl, _, .of hout⟩, (sz 0), fun l1 h1 => ?_⟩
              have s1 : Same H3 (L2.upd H3 l1 (.lst [])) := (Same.refl H3).put h1
              have n1p : l1 ≠ p := fun z => by rw [z, hout] at h1; cases h1
              refine ⟨p, _, _, rfl, rfl, s1 _ _ hout, (by rw [List.length_map]; omega), ?_⟩
              refine hK _ _ ⟨p, ps ++ [l1], rs ++ [[]], n, _, _, rfl, ⟨d.made.alone, (d.rows.same s1).snoc (r := []) upd_same (mem_ne d.rows h1) n1p, (d.same.trans s1).put d.fp, d.fp, fun q hq => ?_⟩, by omega, by rw [List.length_append]; show rs.length + 1 ≤ _; omega⟩
              rcases List.mem_append.mp hq with z | z
              · exact d.fr q z
              · have : q = l1 := by simpa using z
                subst this
                exact d.same.free h1
            · refine ⟨_, rfl, _, _, rfl, rfl, _, rfl, ?_⟩
              refine ite2 (fun _ => ?_) (fun _ => ?_)
              · -- a rope to a new point
                refine ⟨_, rfl, _, rfl, _, rfl, p, ps, rs, here, n, rfl, d.rows, fun r hr => Nat.le_trans (hsz r hr) (by decide), fun H4 R4 kp => ?_⟩
                have s4 : Same H H4 := d.same.off d.fr kp
                have hout4 := R4.out
                refine ⟨_, rfl, .inl ⟨rfl, _, .of hout4⟩, _, rfl, _, _, rfl, rfl, (sz 1), fun l1 h1 => ?_⟩
                have s5 : Same H4 (L2.upd H4 l1 (.lst [.int ((n : Int) + 1)])) := (Same.refl H4).put h1
                have n1p : l1 ≠ p := fun z => by rw [z, hout4] at h1; cases h1
                refine ⟨p, _, _, rfl, rfl, s5 _ _ hout4, (by rw [List.length_map]; omega), ?_⟩
                refine hK _ _ ⟨p, ps ++ [l1], putIn rs here n ++ [[(n : Int) + 1]], n + 2, _, _, rfl, ⟨d.made.leaf here0, (R4.same s5).snoc (r := [(n : Int) + 1]) upd_same (mem_ne R4 h1) n1p, (s4.trans s5).put d.fp, d.fp, fun q hq => ?_⟩, by omega, by rw [List.length_append, putIn_length]; show rs.length + 1 ≤ _; omega⟩
                rcases List.mem_append.mp hq with z | z
                · exact d.fr q z
                · have : q = l1 := by simpa using z
                  subst this
                  exact s4.free h1
              · -- a rope between two spots
                have nx0 : 0 ≤ nextIn rs here ∧ nextIn rs here < n := (d.made.dr.mem _).mp (nextIn_mem ((d.made.dr.mem _).mpr here0))
                refine ⟨_, rfl, _, rfl, _, rfl, p, ps, rs, here, rfl, d.rows, p, ps, rs, n, nextIn rs here, rfl, d.rows, d.made.dr, by omega, nx0.1, nx0.2, fun q row H4 hf hq hL s4 => ?_⟩
                have hpos := hf.pos
                have hmem := hf.mem (n := n) (fun x h => d.made.dr.stp_mem h.1 h.2) nx0
                have hS4 : SqL K H4 a (cs.map V.int) := s4.seq hS3
                have m0 : 0 ≤ cs.getD (2 * i) 0 / 8 % (((row.map V.int).length : Nat) : Int) ∧ cs.getD (2 * i) 0 / 8 % (((row.map V.int).length : Nat) : Int) < (((row.map V.int).length : Nat) : Int) := ⟨Int.emod_nonneg _ (by rw [List.length_map]; omega), Int.emod_lt_of_pos _ (by rw [List.length_map]; omega)⟩
                obtain ⟨z, hz, hat⟩ := at_any (row := row) (i := cs.getD (2 * i) 0 / 8 % (((row.map V.int).length : Nat) : Int) - 1) (by rw [List.length_map] at m0 ⊢; omega) (by rw [List.length_map] at m0 ⊢; omega)
                refine ⟨_, rfl, _, rfl, _, rfl, a, _, _, _, rfl, rfl, hS4, int_at (i := 2 * i) (by omega) (by omega), _, _, rfl, rfl, ⟨by decide, by decide⟩, _, rfl, q, _, rfl, .inl (.of hL), _, _, rfl, rfl, (by rw [List.length_map]; omega), _, _, rfl, rfl, q, _, _, _, rfl, rfl, .of hL, hat, z, rfl, ?_⟩
                dsimp only [gName]
                with_reducible refine seq_via (fun σ' H' => ∃ t, σ' = [some (.ref a), some (.int mode), some (.ref p), some (.int (n : Nat)), some (.int (0 + i * 2)), some (.int way), some (.int here), some (.ref q), some (.int t)] ∧ H' = H4 ∧ (0 ≤ t ∧ t < n) ∧ (mode = 2 ∨ ∃ row z, IsFace (stp rs) (nextIn rs here) row ∧ z ∈ row ∧ t = acr z)) ?_ (fun Kn2 hK2 => ?_)
                · rintro σ' H5 ⟨t, rfl, rfl, t0, hany⟩
                  refine ⟨_, rfl, _, rfl, _, rfl, p, ps, rs, here, n, rfl, d.rows.same s4, fun r hr => Nat.le_trans (hsz r hr) (by decide), fun H6 R6 kp6 => ?_⟩
                  refine ⟨_, rfl, _, rfl, _, rfl, _, _, rfl, rfl, p, ps, putIn rs here n, t, n + 1, rfl, R6, fun r hr => Nat.le_trans (putIn_le hsz r hr) (by decide), fun H7 R7 kp7 => ?_⟩
                  refine hK _ _ ⟨p, ps, putIn (putIn rs here n) t ((n : Int) + 1), n + 2, _, _, rfl, ⟨d.made.tie here0 t0 hany, R7, ((d.same.trans s4).off d.fr kp6).off d.fr kp7, d.fp, d.fr⟩, Nat.le_refl _, by rw [putIn_length, putIn_length]; omega⟩
                · refine ⟨_, rfl, rfl, _, rfl, ?_⟩
                  refine ite2 (fun hm => ?_) (fun hm => ?_)
                  · have hm2 : mode = 2 := by
                      have := of_decide_eq_true hm
                      injection this
                    refine ⟨_, rfl, _, rfl, a, _, _, _, rfl, rfl, hS4, int_at (i := 2 * i) (by omega) (by omega), _, _, rfl, rfl, ⟨by decide, by decide⟩, _, rfl, _, _, rfl, rfl, (by show (0 : Int) < (n : Int); omega), ?_⟩
                    exact hK2 _ _ ⟨_, rfl, rfl, ⟨Int.emod_nonneg _ (by omega), Int.emod_lt_of_pos _ (by omega)⟩, .inl hm2⟩
                  · exact hK2 _ _ ⟨_, rfl, rfl, acr_lt d.made.dr.even (hmem z hz).1 (hmem z hz).2, .inr ⟨row, z, hf, hz, rfl⟩⟩
      · rintro σ H3 ⟨p, ps, rs, n, v4, v5, v6, v7, v8, rfl, d, hn, hrs⟩
        have hN : 2 * (Builtin.Range.rangeSize 0 (((cs.map V.int).length : Int) - 1) 2).toNat ≤ cs.length := by
          rw [List.length_map]
          unfold Builtin.Range.rangeSize
          split <;> split <;> omega
        exact ⟨_, rfl, k p ps rs n H3 d (by omega) (by omega)⟩
end
end Ink

namespace Ink
open PySem L2

/-! ### rows as data, copies, whole numbers -/
def spWhole : Sp := fun vs H Q _ => ∃ (i : Int), vs = [.int i] ∧ Q (.bl true) H
def spAreRows : Sp := fun vs H Q _ => ∃ (p : Addr) (ps : List Addr) (rs : Rs), vs = [.ref p] ∧ Rows H p ps rs ∧ Q (.bl true) H
def spCopies : Sp := fun vs H Q _ => ∃ (p : Addr) (ps : List Addr) (rs : Rs), vs = [.ref p] ∧ Rows H p ps rs ∧ rs.length ≤ 1000 ∧
  ∀ (p' : Addr) (ps' : List Addr) (H' : Hp), Rows H' p' ps' rs → Same H H' → H p' = none → (∀ q ∈ ps', H q = none) → Q (.ref p') H'
def spAllEnds : Sp := fun vs H Q _ => ∃ (p : Addr) (ps : List Addr) (rs : Rs), vs = [.ref p] ∧ Rows H p ps rs ∧ rs.flatten.length ≤ 1000 ∧
  ∀ (l : Addr) (H' : Hp), H l = none → H' l = some (.lst (rs.flatten.map V.int)) → Same H H' → Q (.ref l) H'
/-- what is_drawing tells -/
def upTo (n : Nat) : List Int := (List.range n).map fun (i : Nat) => (i : Int)
def told (l : List Int) : Bool := decide (l.length % 2 = 0 ∧ l.Perm (upTo l.length))
def spIsDrawing : Sp := fun vs H Q _ => ∃ (p : Addr) (ps : List Addr) (rs : Rs), vs = [.ref p] ∧ Rows H p ps rs ∧ rs.flatten.length < 64 ∧ ∀ (H' : Hp), Same H H' → Q (.bl (told rs.flatten)) H'

theorem sorted_same : ∀ {a b : List Int}, a.Perm b → a.Pairwise (· ≤ ·) → b.Pairwise (· ≤ ·) → a = b
  | [], b, h, _, _ => by rw [List.nil_perm.mp h]
  | x :: a, [], h, _, _ => by cases List.perm_nil.mp h
  | x :: a, y :: b, h, ha, hb => by
    obtain ⟨a1, a2⟩ := List.pairwise_cons.mp ha
    obtain ⟨b1, b2⟩ := List.pairwise_cons.mp hb
    have hx : x ∈ y :: b := h.mem_iff.mp List.mem_cons_self
    have hy : y ∈ x :: a := h.mem_iff.mpr List.mem_cons_self
    have e : x = y := by
      rcases List.mem_cons.mp hx with z | z
      · exact z
      · rcases List.mem_cons.mp hy with z' | z'
        · exact z'.symm
        · have := b1 x z
          have := a1 y z'
          omega
    subst e
    rw [sorted_same (List.perm_cons x |>.mp h) a2 b2]
theorem upTo_sorted (n : Nat) : (upTo n).Pairwise (· ≤ ·) := by
  unfold upTo
  rw [List.pairwise_map]
  exact List.Pairwise.imp (fun h => by omega) (List.pairwise_lt_range (n := n))
/-- the sorted ends against all numbers -/
theorem sorted_told {l l' : List Int} (h : l'.Perm l) (hs : l'.Pairwise (· ≤ ·)) : (l' = upTo l.length) ↔ l.Perm (upTo l.length) :=
  ⟨fun e => e ▸ h.symm, fun e => sorted_same (h.trans e) hs (upTo_sorted _)⟩
section
variable {P : Program} {w : World} {K : PySem.W.Frag} {mg : Str → Option Value} {base : Heap}
theorem scWhole : FnScope ["_law_found"] ["_law_found"] (defScope sWhole) := ⟨rfl, rfl, rfl, by decide +kernel, rfl, by decide +kernel, by decide +kernel⟩
theorem ok_whole {f : Addr} {fd : FuncData} (F : Fun K "_law_whole" "_law_whole" sWhole f fd) (T : Txt mg) : FnOk P w K mg base CX0 1 f fd ["_law_found"] spWhole := by
  refine F.ok scWhole (fun vs H Q E h => ?_) (fun cdv A outer s H vs Q E hr h => ?_)
  · obtain ⟨i, rfl, _⟩ := h
    rfl
  · obtain ⟨i, rfl, k⟩ := h
    refine ⟨_, pss_one (ps_ret (pe_and (pe_callB call_isi (by rfl) T.isi PyProof.Rows.boot_isinstance (pa_cons (pv 0) (pa_cons (pe_bltn (v := .ty "int") (by rfl) T.int PyProof.Rows.boot_int rfl) pa_nil)))
      (pe_one (pe_not (pe_callB call_isi (by rfl) T.isi PyProof.Rows.boot_isinstance (pa_cons (pv 0) (pa_cons (pe_bltn (v := .ty "bool") (by rfl) T.bool PyProof.Rows.boot_bool rfl) pa_nil))))))), ?_⟩
    exact ⟨_, rfl, _, _, _, rfl, .ii i, _, rfl, iteT ⟨_, rfl, _, _, _, rfl, .ib i, _, rfl, k⟩⟩
theorem scAreRows : FnScope ["_law_found", "_law_row", "_law_one"] ["_law_found"] (defScope sAreRows) := ⟨rfl, rfl, rfl, by decide +kernel, rfl, by decide +kernel, by decide +kernel⟩
theorem ok_areRows {f : Addr} {fd : FuncData} (F : Fun K "_law_are_rows" "_law_are_rows" sAreRows f fd) (T : Txt mg) (DW : Def P w K mg base "_law_whole" 1 ["_law_found"] spWhole) : FnOk P w K mg base CX0 2 f fd ["_law_found"] spAreRows := by
  refine F.ok scAreRows (fun vs H Q E h => ?_) (fun cdv A outer s H vs Q E hr h => ?_)
  · obtain ⟨p, ps, rs, rfl, _⟩ := h
    rfl
  · obtain ⟨p, ps, rs, rfl, R, k⟩ := h
    have nd := scAreRows.nd
    refine ⟨_, pss_cons (ps_if (pt_not (pt_val (pe_callB call_isi (by rfl) T.isi PyProof.Rows.boot_isinstance (pa_cons (pv 0) (pa_cons (pe_bltn (v := .ty "list") (by rfl) T.list PyProof.Rows.boot_list rfl) pa_nil))))) (pss_one (ps_ret pe_bl)) pss_nil)
      (pss_cons (ps_for PassesOwn.never rfl (pi_list (pv 0)) (pg_name (i := 1) nd rfl (Or.inl rfl))
        (pss_cons (ps_if (pt_not (pt_val (pe_callB call_isi (by rfl) T.isi PyProof.Rows.boot_isinstance (pa_cons (pv 1) (pa_cons (pe_bltn (v := .ty "list") (by rfl) T.list PyProof.Rows.boot_list rfl) pa_nil))))) (pss_one (ps_ret pe_bl)) pss_nil)
        (pss_one (ps_for PassesOwn.never rfl (pi_list (pv 1)) (pg_name (i := 2) nd rfl (Or.inl rfl))
          (pss_one (ps_if (pt_not (pt_val (pcall DW hr (pa_cons (pv 2) pa_nil)))) (pss_one (ps_ret pe_bl)) pss_nil))))))
      (pss_one (ps_ret pe_bl))), ?_⟩
    refine ⟨_, rfl, _, _, _, rfl, .ll (.of R.out), _, rfl, iteF ?_⟩
    refine ⟨_, rfl, p, rfl, ⟨_, .of R.out⟩, for_list (K := K) (a := p) (xs := ps.map V.ref) (fun i σ H2 => H2 = H ∧ ∃ v u, σ = [some (.ref p), v, u]) ⟨rfl, none, none, rfl⟩ (fun i σ H2 _ hh => by obtain ⟨e2, _⟩ := hh; rw [e2]; exact .of R.out) ?_ ?_⟩
    · rintro i y σ H2 hi ⟨rfl, v, u, rfl⟩
      obtain ⟨q, hq, rfl⟩ := ref_at hi
      obtain ⟨r, hr', hH⟩ := R.at hq
      refine ⟨_, rfl, _, _, _, rfl, .ll (.of hH), _, rfl, iteF ?_⟩
      refine ⟨_, rfl, q, rfl, ⟨_, .of hH⟩, for_list (K := K) (a := q) (xs := r.map V.int) (fun i σ H3 => H3 = H2 ∧ ∃ u, σ = [some (.ref p), some (.ref q), u]) ⟨rfl, u, rfl⟩ (fun i σ H3 _ hh => by obtain ⟨e2, _⟩ := hh; rw [e2]; exact .of hH) ?_ ?_⟩
      · rintro j z σ H3 hj ⟨rfl, u, rfl⟩
        obtain ⟨t, rfl⟩ : ∃ t, z = V.int t := by
          rw [List.getElem?_map] at hj
          cases e : r[j]? with
          | none => rw [e] at hj; cases hj
          | some t => rw [e] at hj; exact ⟨t, (Option.some.inj hj).symm⟩
        exact ⟨_, rfl, t, rfl, _, rfl, iteF ⟨rfl, _, rfl⟩⟩
      · rintro σ H3 ⟨rfl, u, rfl⟩
        exact ⟨rfl, _, _, rfl⟩
    · rintro σ H2 ⟨rfl, v, u, rfl⟩
      exact k
abbrev tListOf (K : PySem.W.Frag) (i : Nat) : TE := tCB (fun xs H Q => ∃ p ys, xs = [.ref p] ∧ (SqL K H p ys ∨ SqT K H p ys) ∧ ∀ l, H l = none → Q (.ref l) (upd H l (.lst ys))) (tCons (tVar i) tNil)
theorem scCopies : FnScope ["_law_rounds"] ["_law_rounds"] (defScope sCopies) := ⟨rfl, rfl, rfl, by decide +kernel, rfl, by decide +kernel, by decide +kernel⟩
theorem ok_copies {f : Addr} {fd : FuncData} (F : Fun K "_law_copies" "_law_copies" sCopies f fd) (T : Txt mg) : FnOk P w K mg base CX0 1 f fd ["_law_rounds"] spCopies := by
  refine F.ok scCopies (fun vs H Q E h => ?_) (fun cdv A outer s H vs Q E hr h => ?_)
  · obtain ⟨p, ps, rs, rfl, _⟩ := h
    rfl
  · obtain ⟨p, ps, rs, rfl, R, hsz, k⟩ := h
    have hs : sizeLine = 16777216 := sizeLine_eq
    refine ⟨_, pss_one (ps_ret (pe_comp (te := tListOf K 0) rfl (Blk.plain rfl (by decide +kernel) (by decide +kernel)) (pi_list (pv 0)) (fun _ _ _ _ => pts_nil) (fun _ _ _ _ => pe_callTy call_list_of (by rfl) T.list PyProof.Rows.boot_list (pa_cons (pv 0) pa_nil)))), ?_⟩
    refine ⟨_, rfl, p, rfl, ⟨_, .of R.out⟩, fun D hD => comp_list (xs := ps.map V.ref) (fun i H2 => ∃ qs : List Addr, Same H H2 ∧ qs.length = i ∧ i ≤ rs.length ∧ H2 D = some (.lst (qs.map V.ref)) ∧ qs.Nodup ∧ (∀ q ∈ qs, H q = none ∧ q ≠ D) ∧ ∀ (j : Nat) (q : Addr) (r : List Int), qs[j]? = some q → rs[j]? = some r → H2 q = some (.lst (r.map V.int)))
      ⟨[], (Same.refl H).put hD, rfl, Nat.zero_le _, upd_same, List.nodup_nil, (fun q hq => by cases hq), (fun j q r e => by simp at e)⟩ (fun i H2 _ hh => by obtain ⟨_, s2, _⟩ := hh; exact .of (s2 _ _ R.out)) ?_ ?_⟩
    · rintro i y H2 hi ⟨qs, s2, hl, hle, hd, nd, hn, hrow⟩
      obtain ⟨q, hq, rfl⟩ := ref_at hi
      obtain ⟨r, hr', hH⟩ := R.at hq
      have hir : i < rs.length := (List.getElem?_eq_some_iff.mp hr').1
      refine yes_go ⟨_, rfl, q, _, rfl, .inl (.of (s2 _ _ hH)), fun l hl' => ⟨qs.map V.ref, ?_, ?_, qs ++ [l], ?_, ?_, ?_, ?_, ?_, ?_, ?_⟩⟩
      · rw [upd_ne (ne_of_none hd hl')]; exact hd
      · rw [List.length_map]; omega
      · exact ((s2.put (s2.free hl')).put hD)
      · rw [List.length_append, hl]; rfl
      · omega
      · rw [upd_same, List.map_append]; rfl
      · refine List.nodup_append.mpr ⟨nd, by simp, fun a ha b hb z => ?_⟩
        have : b = l := by simpa using hb
        subst this; subst z
        obtain ⟨j, hj⟩ := List.mem_iff_getElem?.mp ha
        have hjl : j < qs.length := (List.getElem?_eq_some_iff.mp hj).1
        have hjr : j < rs.length := by omega
        have := hrow j _ _ hj (List.getElem?_eq_getElem hjr)
        rw [hl'] at this
        cases this
      · intro a ha
        rcases List.mem_append.mp ha with z | z
        · exact hn a z
        · have : a = l := by simpa using z
          subst this
          exact ⟨s2.free hl', fun e => by rw [e, hd] at hl'; cases hl'⟩
      · intro j a t e1 e2
        have key : a ≠ D := by
          rcases Nat.lt_or_ge j qs.length with z | z
          · rw [List.getElem?_append_left z] at e1
            exact (hn a (List.mem_of_getElem? e1)).2
          · rw [List.getElem?_append_right z] at e1
            have : a = l := by
              cases q' : j - qs.length with
              | zero => rw [q'] at e1; simpa using e1.symm
              | succ m => rw [q'] at e1; simp at e1
            subst this
            exact fun e => by rw [e, hd] at hl'; cases hl'
        rw [upd_ne key]
        rcases Nat.lt_or_ge j qs.length with z | z
        · rw [List.getElem?_append_left z] at e1
          have h2 := hrow j a t e1 e2
          rw [upd_ne (ne_of_none h2 hl')]
          exact h2
        · rw [List.getElem?_append_right z] at e1
          have hj : j = qs.length := by
            cases q' : j - qs.length with
            | zero => omega
            | succ m => rw [q'] at e1; simp at e1
          subst hj
          have : l = a := by simpa using e1
          subst this
          rw [hl, hr'] at e2
          cases e2
          exact upd_same
    · rintro H2 ⟨qs, s2, hl, hle, hd, nd, hn, hrow⟩
      rw [List.length_map, R.len] at hl
      exact k D qs H2 ⟨hd, nd, hl, hrow⟩ s2 hD fun q hq => (hn q hq).1

theorem scAllEnds : FnScope ["rounds", "ends", "standing"] ["rounds"] (defScope sAllEnds) := ⟨rfl, rfl, rfl, by decide +kernel, rfl, by decide +kernel, by decide +kernel⟩
theorem flat_take {rs : Rs} {i : Nat} {r : List Int} (h : rs[i]? = some r) : (rs.take (i + 1)).flatten = (rs.take i).flatten ++ r := by
  rw [take_at h, List.flatten_append]
  simp
theorem flat_take_le (rs : Rs) (i : Nat) : (rs.take i).flatten.length ≤ rs.flatten.length := by
  have e : rs.flatten = (rs.take i).flatten ++ (rs.drop i).flatten := by rw [← List.flatten_append, List.take_append_drop]
  rw [e, List.length_append]
  omega
theorem ok_allEnds {f : Addr} {fd : FuncData} (F : Fun K "all_ends" "all_ends" sAllEnds f fd) : FnOk P w K mg base CX0 1 f fd ["rounds"] spAllEnds := by
  refine F.ok scAllEnds (fun vs H Q E h => ?_) (fun cdv A outer s H vs Q E hr h => ?_)
  · obtain ⟨p, ps, rs, rfl, _⟩ := h
    rfl
  · obtain ⟨p, ps, rs, rfl, R, hsz, k⟩ := h
    have hs : sizeLine = 16777216 := sizeLine_eq
    have nd := scAllEnds.nd
    refine ⟨_, pss_cons (ps_set (i := 1) nd rfl (Or.inl rfl) (pe_lst pa_nil))
      (pss_cons (ps_for PassesOwn.never rfl (pi_list (pv 0)) (pg_name (i := 2) nd rfl (Or.inl rfl))
        (pss_one (ps_expr (pe_bm PySem.F.plainAttrs_list PySem.F.slot_list_extend PySem.F.type_list_extend mt_extend (pv 1) (pa_cons (pv 2) pa_nil)))))
      (pss_one (ps_ret (pv 1)))), ?_⟩
    refine ⟨(sz 0), fun l hl => ?_⟩
    refine ⟨_, rfl, p, rfl, ⟨_, .of (((Same.refl H).put hl) _ _ R.out)⟩, for_list (K := K) (a := p) (xs := ps.map V.ref) (fun i σ H2 => ∃ v, σ = [some (.ref p), some (.ref l), v] ∧ Same H H2 ∧ H2 l = some (.lst ((rs.take i).flatten.map V.int))) ⟨none, rfl, (Same.refl H).put hl, upd_same⟩
      (fun i σ H2 _ hh => by obtain ⟨_, _, s2, _⟩ := hh; exact .of (s2 _ _ R.out)) ?_ ?_⟩
    · rintro i y σ H2 hi ⟨v, rfl, s2, hL⟩
      obtain ⟨q, hq, rfl⟩ := ref_at hi
      obtain ⟨r, hr', hH⟩ := R.at hq
      have e1 := flat_take hr'
      have e2 := flat_take_le rs (i + 1)
      rw [e1, List.length_append] at e2
      refine ⟨_, rfl, .inl ⟨rfl, _, .of hL⟩, _, rfl, l, q, _, _, rfl, rfl, hL, s2 _ _ hH, (by rw [List.length_map, List.length_map]; omega), _, rfl, s2.put hl, ?_⟩
      rw [upd_same, e1, List.map_append]
    · rintro σ H2 ⟨v, rfl, s2, hL⟩
      rw [List.length_map, R.len, List.take_length] at hL
      exact ⟨_, rfl, k l H2 hl hL s2⟩
theorem scIsDrawing : FnScope ["rounds", "ends"] ["rounds"] (defScope sIsDrawing) := ⟨rfl, rfl, rfl, by decide +kernel, rfl, by decide +kernel, by decide +kernel⟩
theorem map_upTo (n : Nat) : ((List.range n).map fun (i : Nat) => V.int (i : Int)) = (upTo n).map V.int := by
  unfold upTo
  rw [List.map_map]
  rfl
theorem ok_isDrawing {f : Addr} {fd : FuncData} (F : Fun K "is_drawing" "is_drawing" sIsDrawing f fd) (T : Txt mg) (DE : Def P w K mg base "all_ends" 1 ["rounds"] spAllEnds) : FnOk P w K mg base CX0 2 f fd ["rounds"] spIsDrawing := by
  refine F.ok scIsDrawing (fun vs H Q E h => ?_) (fun cdv A outer s H vs Q E hr h => ?_)
  · obtain ⟨p, ps, rs, rfl, _⟩ := h
    rfl
  · obtain ⟨p, ps, rs, rfl, R, hsz, k⟩ := h
    have hs : sizeLine = 16777216 := sizeLine_eq
    have nd := scIsDrawing.nd
    refine ⟨_, pss_cons (ps_set (i := 1) nd rfl (Or.inl rfl) (pcall DE hr (pa_cons (pv 0) pa_nil)))
      (pss_one (ps_ret (pe_and (pe_cmpR op_eq (pe_op op_mod (pe_callB call_len_seq (by rfl) T.len PySem.boot_len (pa_cons (pv 1) pa_nil)) pe_int) pe_int (nomark _))
        (pe_one (pe_cmpR (op_eqD hr.units) (pe_callB call_sorted (by rfl) T.sorted PyProof.Rows.boot_sorted (pa_cons (pv 1) pa_nil))
          (pe_callTy (call_list_rng rfl) (by rfl) T.list PyProof.Rows.boot_list (pa_cons (pe_callTy call_range1 (by rfl) T.range PyProof.Rows.boot_range (pa_cons (pe_callB call_len_seq (by rfl) T.len PySem.boot_len (pa_cons (pv 1) pa_nil)) pa_nil)) pa_nil)) (nomark _)))))), ?_⟩
    refine ⟨_, rfl, p, ps, rs, rfl, R, by omega, fun l H1 hl hL s1 => ?_⟩
    refine ⟨_, rfl, l, _, rfl, .inl (.of hL), _, _, rfl, rfl, (by show (0 : Int) < 2; decide), rfl, _, rfl, ?_⟩
    refine ite2 (fun h => ?_) (fun h => ?_)
    · have he : rs.flatten.length % 2 = 0 := by
        have h' := of_decide_eq_true h
        injection h' with h'
        rw [List.length_map] at h'
        omega
      refine ⟨_, rfl, l, rs.flatten, rfl, .of hL, hsz, fun l2 ns' h2 hp hw => ?_⟩
      refine ⟨_, rfl, l, _, rfl, .inl (.of (by rw [upd_ne (ne_of_none hL h2)]; exact hL)), _, rfl, fun l3 h3 => ?_⟩
      obtain ⟨n32, h3'⟩ := upd_none h3
      refine ⟨l3, (rs.flatten.map V.int).length, rfl, upd_same, (by rw [List.length_map]; omega), fun l4 h4 => ?_⟩
      obtain ⟨n43, h4'⟩ := upd_none h4
      obtain ⟨n42, h4''⟩ := upd_none h4'
      refine ⟨intsD ns', intsD (upTo (rs.flatten.map V.int).length), .ints (.of ?_), .ints (.of ?_), lay_ints _, lay_ints _, Nat.le_trans (depth_ints _) (by decide), ?_⟩
      · rw [upd_ne (Ne.symm n42), upd_ne (Ne.symm n32), upd_same]
      · rw [upd_same, map_upTo]
      · rw [eqv_ints, List.length_map]
        have e : (decide (ns' = upTo rs.flatten.length)) = told rs.flatten := by
          unfold told
          rw [Bool.eq_iff_iff, decide_eq_true_iff, decide_eq_true_iff, sorted_told hp hw]
          exact ⟨fun z => ⟨he, z⟩, fun z => z.2⟩
        rw [e]
        exact k _ (((s1.put (s1.free h2)).put (s1.free h3')).put (s1.free h4''))
    · have he : ¬ rs.flatten.length % 2 = 0 := fun z => by
        have e0 : (((rs.flatten.map V.int).length : Nat) : Int) % 2 = 0 := by rw [List.length_map]; omega
        exact h (decide_eq_true (congrArg V.int e0))
      have e : told rs.flatten = false := by
        unfold told
        exact decide_eq_false fun z => he z.1
      rw [e] at k
      exact k _ s1
end
end Ink

namespace Ink
open PySem L2

theorem row_nodup {rs : Rs} (nd : rs.flatten.Nodup) {r : List Int} (h : r ∈ rs) : r.Nodup := by
  obtain ⟨a, b, rfl⟩ := List.append_of_mem h
  rw [List.flatten_append, List.flatten_cons] at nd
  exact (List.nodup_append.mp (List.nodup_append.mp nd).2.1).1
theorem perm_of : ∀ {a b : List Int}, a.Nodup → b.Nodup → (∀ z, z ∈ a ↔ z ∈ b) → a.Perm b
  | [], b, _, _, h => by
    cases b with
    | nil => exact .nil
    | cons y b => exact absurd ((h y).mpr List.mem_cons_self) (by simp)
  | x :: a, b, ha, hb, h => by
    obtain ⟨h1, h2⟩ := List.nodup_cons.mp ha
    have hx : x ∈ b := (h x).mp List.mem_cons_self
    refine ((perm_of h2 (hb.erase x) fun z => ?_).cons x).trans (List.perm_cons_erase hx).symm
    rw [hb.mem_erase_iff]
    constructor
    · intro hz
      exact ⟨fun e => h1 (e ▸ hz), (h z).mp (List.mem_cons_of_mem _ hz)⟩
    · rintro ⟨hne, hz⟩
      exact (List.mem_cons.mp ((h z).mpr hz)).resolve_left hne
/-! ### tables: an end and the end behind it -/
def tab (f : Int → Int) (l : List Int) : List (Key × V) := l.map fun e => ((Sum.inl e : Key), V.int (f e))
theorem tab_append (f : Int → Int) (l m : List Int) : tab f (l ++ m) = tab f l ++ tab f m := List.map_append
theorem tab_val {f : Int → Int} : ∀ {l : List Int} {e : Int}, e ∈ l → valV (tab f l) (Sum.inl e : Key) = some (V.int (f e))
  | [], _, h => by cases h
  | x :: l, e, h => by
    by_cases hx : x = e
    · subst hx
      exact valV_pos (p := ((Sum.inl x : Key), V.int (f x))) rfl
    · have h' : e ∈ l := (List.mem_cons.mp h).resolve_left fun z => hx z.symm
      refine Eq.trans (valV_neg (p := ((Sum.inl x : Key), V.int (f x))) fun z => hx (Sum.inl.inj z)) (tab_val h')
theorem tab_no {f : Int → Int} : ∀ {l : List Int} {e : Int}, e ∉ l → valV (tab f l) (Sum.inl e : Key) = none
  | [], _, _ => rfl
  | x :: l, e, h => by
    have hx : x ≠ e := fun z => h (z ▸ List.mem_cons_self)
    exact Eq.trans (valV_neg (p := ((Sum.inl x : Key), V.int (f x))) fun z => hx (Sum.inl.inj z)) (tab_no fun z => h (List.mem_cons_of_mem _ z))
theorem tab_put {f : Int → Int} {l : List Int} {e : Int} {v : Int} (h : e ∉ l) (hv : v = f e) : putK (tab f l) (Sum.inl e : Key) (V.int v) = tab f (l ++ [e]) := by
  rw [putK_new _ (tab_no h), tab_append, hv]
  rfl
theorem tab_length (f : Int → Int) (l : List Int) : (tab f l).length = l.length := List.length_map _
/-- a dict that tells the end behind each of the ends below n -/
structure TabOf (H : Hp) (d : Addr) (g : Int → Int) (n : Nat) : Prop where
  ex : ∃ kvs : List (Key × V), H d = some (.dK kvs) ∧ kvs.length = n ∧ ∀ e : Int, 0 ≤ e ∧ e < n → valV kvs (Sum.inl e : Key) = some (V.int (g e))
theorem TabOf.same {H H' : Hp} {d : Addr} {g : Int → Int} {n : Nat} (t : TabOf H d g n) (s : Same H H') : TabOf H' d g n := let ⟨kvs, a, b, c⟩ := t.ex; ⟨kvs, s _ _ a, b, c⟩
theorem TabOf.get {H : Hp} {d : Addr} {g : Int → Int} {n : Nat} (t : TabOf H d g n) {e : Int} (he : 0 ≤ e ∧ e < (n : Int)) : DGet H d (.int e) (some (V.int (g e))) := by
  obtain ⟨kvs, a, b, c⟩ := t.ex
  have := DGet.k (k := (Sum.inl e : Key)) a
  rw [c e he] at this
  exact this
/-- a dict whose keys are just these -/
structure SeenOf (H : Hp) (d : Addr) (l : List Int) (m : Nat) : Prop where
  ex : ∃ kvs : List (Key × V), H d = some (.dK kvs) ∧ kvs.length ≤ m ∧ ∀ e : Int, (valV kvs (Sum.inl e : Key)).isSome = decide (e ∈ l)
theorem SeenOf.same {H H' : Hp} {d : Addr} {l : List Int} {m : Nat} (t : SeenOf H d l m) (s : H' d = H d) : SeenOf H' d l m := let ⟨kvs, a, b, c⟩ := t.ex; ⟨kvs, s.trans a, b, c⟩
theorem SeenOf.new {H : Hp} {d : Addr} (h : H d = some (.dK [])) : SeenOf H d [] 0 := ⟨[], h, Nat.le_refl _, fun e => by simp [valV_nil]⟩
theorem SeenOf.put {H : Hp} {d : Addr} {l : List Int} {m : Nat} (t : SeenOf H d l m) (hm : m < 1000000) (e : Int) (v : V) : ∃ H', DPut H d (.int e) v H' ∧ SeenOf H' d (l ++ [e]) (m + 1) ∧ ∃ o, H' = L2.upd H d o := by
  obtain ⟨kvs, a, b, c⟩ := t.ex
  refine ⟨_, DPut.k (k := (Sum.inl e : Key)) a (by have : sizeLine = 16777216 := sizeLine_eq; omega), ⟨_, upd_same, ?_, fun z => ?_⟩, _, rfl⟩
  · have := length_putK kvs (Sum.inl e : Key) v
    omega
  · rw [valV_put]
    by_cases hz : z = e
    · subst hz
      rw [if_pos rfl]
      simp
    · rw [if_neg fun q => hz (Sum.inl.inj q), c z, Bool.eq_iff_iff]
      simp [hz]
section
variable {P : Program} {w : World} {K : PySem.W.Frag} {mg : Str → Option Value} {base : Heap}
/-! ### the program's own: across, next_ends, face_from, faces -/
theorem scAcrossP : FnScope ["end"] ["end"] (defScope sAcrossP) := ⟨rfl, rfl, rfl, by decide +kernel, rfl, by decide +kernel, by decide +kernel⟩
theorem ok_acrossP {f : Addr} {fd : FuncData} (F : Fun K "across" "across" sAcrossP f fd) : FnOk P w K mg base CX0 1 f fd ["end"] spAcross := by
  refine F.ok scAcrossP (fun vs H Q E h => ?_) (fun cdv A outer s H vs Q E hr h => ?_)
  · obtain ⟨e, rfl, _⟩ := h
    rfl
  · obtain ⟨e, rfl, k⟩ := h
    refine ⟨_, pss_one (ps_ret (pe_ifExp (pt_cmpR op_eq (pe_op op_mod (pv 0) pe_int) pe_int (nomark _)) (pe_op op_add (pv 0) pe_int) (pe_op op_sub (pv 0) pe_int))), ?_⟩
    refine ⟨_, rfl, _, _, rfl, rfl, (by show (0 : Int) < 2; decide), rfl, _, rfl, ?_⟩
    refine ite2 (fun h => ?_) (fun h => ?_)
    · have h' := of_decide_eq_true h
      injection h' with h'
      refine ⟨_, rfl, _, _, rfl, rfl, ?_⟩
      rw [show acr e = e + 1 by unfold acr; omega] at k
      exact k
    · have h' : ¬ e % 2 = 0 := fun z => h (decide_eq_true (congrArg V.int z))
      refine ⟨_, rfl, _, _, rfl, rfl, ?_⟩
      rw [show acr e = e - 1 by unfold acr; omega] at k
      exact k
def spNextEnds : Sp := fun vs H Q _ => ∃ (p : Addr) (ps : List Addr) (rs : Rs) (n : Nat), vs = [.ref p] ∧ Rows H p ps rs ∧ Dr rs n ∧ n ≤ 1000 ∧
  ∀ (d : Addr) (H' : Hp), H d = none → TabOf H' d (nextIn rs) n → Same H H' → Q (.ref d) H'
theorem scNextEnds : FnScope ["rounds", "behind", "ends", "place", "end"] ["rounds"] (defScope sNextEnds) := ⟨rfl, rfl, rfl, by decide +kernel, rfl, by decide +kernel, by decide +kernel⟩
theorem ok_nextEnds {f : Addr} {fd : FuncData} (F : Fun K "next_ends" "next_ends" sNextEnds f fd) (T : Txt mg) : FnOk P w K mg base CX0 1 f fd ["rounds"] spNextEnds := by
  refine F.ok scNextEnds (fun vs H Q E h => ?_) (fun cdv A outer s H vs Q E hr h => ?_)
  · obtain ⟨p, ps, rs, n, rfl, _⟩ := h
    rfl
  · obtain ⟨p, ps, rs, n, rfl, R, D, hn, k⟩ := h
    have hs : sizeLine = 16777216 := sizeLine_eq
    have nd := scNextEnds.nd
    have hu1 := hu_of hr
    refine ⟨_, pss_cons (ps_set (i := 1) nd rfl (Or.inl rfl) pe_dnewK)
      (pss_cons (ps_for PassesOwn.never rfl (pi_list (pv 0)) (pg_name (i := 2) nd rfl (Or.inl rfl)) (pss_one (ps_for PassesOwn.never rfl (pi_enum (by rfl) T.enum (pa_cons (pv 2) pa_nil)) (pg_tup rfl (pgs_cons (pg_name (i := 3) nd rfl (Or.inl rfl)) (pgs_cons (pg_name (i := 4) nd rfl (Or.inl rfl)) pgs_nil))) (pss_one (ps_dput hu1 (pv 1) (pv 4) (pe_ix ix_list (pv 2) (pe_op op_mod (pe_op op_add (pv 3) pe_int) (pe_callB call_len_seq (by rfl) T.len PySem.boot_len (pa_cons (pv 2) pa_nil))) (fun _ _ => rfl)) rfl)))))
      (pss_one (ps_ret (pv 1)))), ?_⟩
    intro d hd
    have s0 : Same H (L2.upd H d (.dK [])) := (Same.refl H).put hd
    refine ⟨_, rfl, p, rfl, ⟨_, .of (s0 _ _ R.out)⟩, for_list (K := K) (a := p) (xs := ps.map V.ref) (fun i σ H2 => ∃ v2 v3 v4, σ = [some (.ref p), some (.ref d), v2, v3, v4] ∧ Same H H2 ∧ H2 d = some (.dK (tab (nextIn rs) (rs.take i).flatten))) ⟨none, none, none, rfl, s0, upd_same⟩
      (fun i σ H2 _ hh => by obtain ⟨_, _, _, _, s2, _⟩ := hh; exact .of (s2 _ _ R.out)) ?_ ?_⟩
    · rintro i y σ H2 hi ⟨v2, v3, v4, rfl, s2, hL⟩
      obtain ⟨q, hq, rfl⟩ := ref_at hi
      obtain ⟨r, hr', hH⟩ := R.at hq
      have hrow : r.length ≤ n := row_le D (List.mem_of_getElem? hr')
      have hfl := flat_take_le rs i
      rw [D.len] at hfl
      refine ⟨_, rfl, q, rfl, ⟨_, .of (s2 _ _ hH)⟩, for_enum (K := K) (a := q) (xs := r.map V.int) (fun j σ H3 => ∃ v3 v4, σ = [some (.ref p), some (.ref d), some (.ref q), v3, v4] ∧ Same H H3 ∧ H3 d = some (.dK (tab (nextIn rs) ((rs.take i).flatten ++ r.take j)))) ⟨v3, v4, rfl, s2, by rw [List.take_zero, List.append_nil]; exact hL⟩
        (fun j σ H3 _ hh => by obtain ⟨_, _, _, s3, _⟩ := hh; exact .of (s3 _ _ hH)) ?_ ?_⟩
      · rintro j z σ H3 t hj ⟨v3, v4, rfl, s3, hL3⟩ ht
        obtain ⟨e, he, rfl⟩ : ∃ e, r[j]? = some e ∧ z = V.int e := by
          rw [List.getElem?_map] at hj
          cases e : r[j]? with
          | none => rw [e] at hj; cases hj
          | some t => rw [e] at hj; exact ⟨t, rfl, (Option.some.inj hj).symm⟩
        have hjl : j < r.length := (List.getElem?_eq_some_iff.mp he).1
        have f3 := s3.free ht
        have s4 : Same H (L2.upd H3 t (.tup [.int (j : Int), .int e])) := s3.put f3
        have hL4 : (L2.upd H3 t (.tup [.int (j : Int), .int e])) d = some (.dK (tab (nextIn rs) ((rs.take i).flatten ++ r.take j))) := by rw [upd_ne (ne_of_none hL3 ht)]; exact hL3
        have hmod : ((j : Int) + 1) % (((r.map V.int).length : Nat) : Int) = (((j + 1) % r.length : Nat) : Int) := by rw [List.length_map, Int.natCast_emod]; rfl
        have hlt : (j + 1) % r.length < r.length := Nat.mod_lt _ (by omega)
        have hnew : e ∉ (rs.take i).flatten ++ r.take j := fun z => by
          rcases List.mem_append.mp z with z | z
          · exact later_new D.nd hr' he z
          · obtain ⟨j', hj'⟩ := List.mem_iff_getElem?.mp z
            obtain ⟨l1, e1⟩ := List.getElem?_eq_some_iff.mp hj'
            rw [List.length_take] at l1
            rw [List.getElem_take] at e1
            obtain ⟨l2, e2⟩ := List.getElem?_eq_some_iff.mp he
            have ndr : r.Nodup := row_nodup D.nd (List.mem_of_getElem? hr')
            have := (List.getElem_inj ndr).mp (e1.trans e2.symm)
            omega
        have hval : r.getD ((j + 1) % r.length) 0 = nextIn rs e := by
          rw [nextIn_at D.nd hr' he, List.getD_eq_getElem?_getD, List.getD_eq_getElem?_getD, List.getElem?_eq_getElem hlt]
          rfl
        refine ⟨t, _, rfl, .of upd_same, rfl, _, _, rfl, _, _, rfl, rfl, ?_⟩
        refine ⟨_, rfl, _, rfl, _, _, rfl, rfl, _, rfl, q, _, rfl, .inl (.of (s4 _ _ hH)), _, _, rfl, rfl, (by rw [List.length_map]; omega), q, _, _, _, rfl, rfl, .of (s4 _ _ hH), int_at hlt hmod, _, rfl, _, rfl, d, _, rfl, DPut.k (k := (Sum.inl e : Key)) hL4 (by rw [tab_length, List.length_append, List.length_take]; omega), _, _, rfl, s4.put hd, ?_⟩
        rw [upd_same, tab_put hnew hval, List.append_assoc, take_at he]
      · rintro σ H3 ⟨v3, v4, rfl, s3, hL3⟩
        rw [List.length_map, List.take_length] at hL3
        exact ⟨_, _, _, rfl, s3, by rw [flat_take hr']; exact hL3⟩
    · rintro σ H2 ⟨v2, v3, v4, rfl, s2, hL⟩
      rw [List.length_map, R.len, List.take_length] at hL
      exact ⟨_, rfl, k d H2 hd ⟨_, hL, by rw [tab_length, D.len], fun e he => tab_val ((D.mem e).mpr he)⟩ s2⟩
end
end Ink

namespace Ink
open PySem L2
/-- the walk goes round below n -/
structure Goes (g : Int → Int) (n : Nat) : Prop where
  mem : ∀ x : Int, 0 ≤ x ∧ x < n → 0 ≤ g (acr x) ∧ g (acr x) < n
  inj : ∀ x y : Int, 0 ≤ x ∧ x < n → 0 ≤ y ∧ y < n → g (acr x) = g (acr y) → x = y
  even : n % 2 = 0
theorem Dr.goes {rs : Rs} {n : Nat} (d : Dr rs n) : Goes (nextIn rs) n := ⟨fun x h => d.stp_mem h.1 h.2, fun x y hx hy h => d.stp_inj hx hy h, d.even⟩
abbrev fc (g : Int → Int) (x : Int) : Int := g (acr x)
section
variable {P : Program} {w : World} {K : PySem.W.Frag} {mg : Str → Option Value} {base : Heap}
def spFaceFrom : Sp := fun vs H Q _ => ∃ (d : Addr) (g : Int → Int) (n : Nat) (e : Int), vs = [.ref d, .int e] ∧ TabOf H d g n ∧ Goes g n ∧ n ≤ 1000 ∧ 0 ≤ e ∧ e < n ∧
  ∀ (q : Addr) (row : List Int) (H' : Hp), IsFace (fc g) e row → H q = none → H' q = some (.lst (row.map V.int)) → Same H H' → Q (.ref q) H'
theorem scFaceFrom : FnScope ["behind", "start", "face", "end"] ["behind", "start"] (defScope sFaceFrom) := ⟨rfl, rfl, rfl, by decide +kernel, rfl, by decide +kernel, by decide +kernel⟩
theorem ok_faceFrom {f : Addr} {fd : FuncData} (F : Fun K "face_from" "face_from" sFaceFrom f fd) (DA : Def P w K mg base "across" 1 ["end"] spAcross) : FnOk P w K mg base CX0 2 f fd ["behind", "start"] spFaceFrom := by
  refine F.ok scFaceFrom (fun vs H Q E h => ?_) (fun cdv A outer s H vs Q E hr h => ?_)
  · obtain ⟨d, g, n, e, rfl, _⟩ := h
    rfl
  · obtain ⟨d, g, n, e, rfl, TB, G, hn, e0, e1, k⟩ := h
    have hs : sizeLine = 16777216 := sizeLine_eq
    have nd := scFaceFrom.nd
    have hu1 := hu_of hr
    refine ⟨_, pss_cons (ps_set (i := 2) nd rfl (Or.inl rfl) (pe_lst (pa_cons (pv 1) pa_nil)))
      (pss_cons (ps_set (i := 3) nd rfl (Or.inl rfl) (pe_dget hu1 (pv 0) (pcall DA hr (pa_cons (pv 1) pa_nil)) (fun _ _ => rfl)))
      (pss_cons (ps_while PassesOwn.never (pt_cmpR op_ne (pv 3) (pv 1) (nomark _)) (pss_cons (ps_expr (pe_bm PySem.F.plainAttrs_list PySem.F.slot_list_append PySem.F.type_list_append mt_append (pv 2) (pa_cons (pv 3) pa_nil)))
      (pss_one (ps_set (i := 3) nd rfl (Or.inl rfl) (pe_dget hu1 (pv 0) (pcall DA hr (pa_cons (pv 3) pa_nil)) (fun _ _ => rfl))))))
      (pss_one (ps_ret (pv 2))))), ?_⟩
    refine ⟨_, rfl, (sz 1), fun l hl => ?_⟩
    have s0 : Same H (L2.upd H l (.lst [.int e])) := (Same.refl H).put hl
    have a0 := acr_lt G.even e0 e1
    refine ⟨_, rfl, _, rfl, e, rfl, d, _, rfl, (TB.same s0).get a0, ?_⟩
    obtain ⟨per, hp0, hp1, hp2⟩ := go_round (f := fc g) (n := n) G.mem G.inj ⟨e0, e1⟩
    refine ⟨fun m σ H2 => ∃ j, σ = [some (.ref d), some (.int e), some (.ref l), some (.int (itr (fc g) (j + 1) e))] ∧ H2 l = some (.lst ((orb (fc g) e j).map V.int)) ∧ Same H H2 ∧ j + 1 ≤ per ∧ (∀ i, 0 < i → i ≤ j → itr (fc g) i e ≠ e) ∧ m = per - j,
      ⟨per, 0, rfl, upd_same, s0, hp0, fun i h1 h2 => absurd h1 (by omega), rfl⟩, ?_⟩
    rintro m σ H2 ⟨j, rfl, hL, s2, hj, hno, rfl⟩
    refine ⟨_, rfl, _, rfl, rfl, _, rfl, ?_⟩
    refine ite2 (fun h => ?_) (fun h => ?_)
    · have hne : itr (fc g) (j + 1) e ≠ e := by
        intro z
        rw [z] at h
        simp at h
      have hlt : j + 1 < per := by
        rcases Nat.lt_or_ge (j + 1) per with z | z
        · exact z
        · have : j + 1 = per := by omega
          rw [this] at hne
          exact absurd hp2 hne
      have s3 : Same H (L2.upd H2 l (.lst ((orb (fc g) e j).map V.int ++ [.int (itr (fc g) (j + 1) e)]))) := s2.put hl
      have hin := itr_in (f := fc g) (n := n) G.mem ⟨e0, e1⟩ (j + 1)
      refine ⟨fun σ' H' => σ' = [some (.ref d), some (.int e), some (.ref l), some (.int (itr (fc g) (j + 2) e))] ∧ H' l = some (.lst ((orb (fc g) e (j + 1)).map V.int)) ∧ Same H H',
        fun σ' H' ⟨a, b, c⟩ => ⟨per - (j + 1), by omega, j + 1, a, b, c, by omega, fun i h1 h2 => ?_, rfl⟩, ?_⟩
      · rcases Nat.lt_or_ge j i with z | z
        · have : i = j + 1 := by omega
          rw [this]; exact hne
        · exact hno i h1 z
      · refine ⟨_, rfl, .inl ⟨rfl, _, .of hL⟩, _, rfl, l, _, _, rfl, rfl, hL, (by rw [List.length_map, orb_length]; omega), ?_⟩
        refine ⟨_, rfl, _, rfl, _, rfl, d, _, rfl, (TB.same s3).get (acr_lt G.even hin.1 hin.2), rfl, ?_, s3⟩
        rw [upd_same, orb_succ, List.map_append]
        rfl
    · have heq : itr (fc g) (j + 1) e = e := by
        by_cases z : itr (fc g) (j + 1) e = e
        · exact z
        · exact absurd (by simp [z]) h
      exact ⟨_, rfl, k l _ H2 ⟨j, rfl, heq, hno⟩ hl hL s2⟩

/-- nothing comes back: the rounds are a drawing -/
def spRefuse : Sp := fun vs H Q _ => ∃ (p : Addr) (ps : List Addr) (rs : Rs) (n : Nat), vs = [.ref p] ∧ Rows H p ps rs ∧ Dr rs n ∧ n < 64 ∧ ∀ (H' : Hp), Same H H' → Q .non H'
theorem Dr.told {rs : Rs} {n : Nat} (d : Dr rs n) : told rs.flatten = true := by
  unfold Ink.told
  rw [d.len]
  refine decide_eq_true ⟨d.even, ?_⟩
  have hn : (upTo n).Nodup := by
    unfold upTo
    rw [List.nodup_iff_pairwise_ne, List.pairwise_map]
    exact List.Pairwise.imp (fun h => by omega) (List.pairwise_lt_range (n := n))
  refine perm_of d.nd hn (fun z => ?_) 
  rw [d.mem]
  unfold upTo
  rw [List.mem_map]
  constructor
  · intro h
    exact ⟨z.toNat, List.mem_range.mpr (by omega), by omega⟩
  · rintro ⟨i, hi, rfl⟩
    have := List.mem_range.mp hi
    omega
theorem scRefuse : FnScope ["rounds"] ["rounds"] (defScope sRefuse) := ⟨rfl, rfl, rfl, by decide +kernel, rfl, by decide +kernel, by decide +kernel⟩
theorem ok_refuse {f : Addr} {fd : FuncData} (F : Fun K "refuse_no_drawing" "refuse_no_drawing" sRefuse f fd) (DI : Def P w K mg base "is_drawing" 2 ["rounds"] spIsDrawing) : FnOk P w K mg base CX0 3 f fd ["rounds"] spRefuse := by
  refine F.ok scRefuse (fun vs H Q E h => ?_) (fun cdv A outer s H vs Q E hr h => ?_)
  · obtain ⟨p, ps, rs, n, rfl, _⟩ := h
    rfl
  · obtain ⟨p, ps, rs, n, rfl, R, D, hn, k⟩ := h
    refine ⟨_, pss_one (ps_if (pt_not (pt_val (pcall DI hr (pa_cons (pv 0) pa_nil)))) (pss_never) (pss_nil)), ?_⟩
    refine ⟨_, rfl, p, ps, rs, rfl, R, by rw [D.len]; exact hn, fun H' s' => ⟨_, rfl, ?_⟩⟩
    rw [D.told]
    exact iteF (k H' s')
/-- all faces, in lists of their own -/
def spFaces : Sp := fun vs H Q _ => ∃ (p : Addr) (ps : List Addr) (rs : Rs) (n : Nat), vs = [.ref p] ∧ Rows H p ps rs ∧ Dr rs n ∧ n < 64 ∧
  ∀ (p' : Addr) (ps' : List Addr) (fs : Rs) (H' : Hp), Fcs (stp rs) n fs → Rows H' p' ps' fs → Same H H' → H p' = none → (∀ q ∈ ps', H q = none) → Q (.ref p') H'
theorem scFaces : FnScope ["rounds", "behind", "found", "seen", "start", "face", "end"] ["rounds"] (defScope sFaces) := ⟨rfl, rfl, rfl, by decide +kernel, rfl, by decide +kernel, by decide +kernel⟩
theorem ok_faces {f : Addr} {fd : FuncData} (F : Fun K "faces" "faces" sFaces f fd) (T : Txt mg) (DR : Def P w K mg base "refuse_no_drawing" 3 ["rounds"] spRefuse) (DN : Def P w K mg base "next_ends" 1 ["rounds"] spNextEnds)
    (DF : Def P w K mg base "face_from" 2 ["behind", "start"] spFaceFrom) : FnOk P w K mg base CX0 4 f fd ["rounds"] spFaces := by
  refine F.ok scFaces (fun vs H Q E h => ?_) (fun cdv A outer s H vs Q E hr h => ?_)
  · obtain ⟨p, ps, rs, n, rfl, _⟩ := h
    rfl
  · obtain ⟨p, ps, rs, n, rfl, R, D, hn, k⟩ := h
    have hs : sizeLine = 16777216 := sizeLine_eq
    have nd := scFaces.nd
    have hu1 := hu_of hr
    have hr1 : Room 1 _ := hr.mono (by decide)
    have hr2 : Room 2 _ := hr.mono (by decide)
    refine ⟨_, pss_cons (ps_expr (pcall DR hr (pa_cons (pv 0) pa_nil)))
      (pss_cons (ps_set (i := 1) nd rfl (Or.inl rfl) (pcall DN hr1 (pa_cons (pv 0) pa_nil)))
      (pss_cons (ps_set (i := 2) nd rfl (Or.inl rfl) (pe_lst pa_nil))
      (pss_cons (ps_set (i := 3) nd rfl (Or.inl rfl) pe_dnewK)
      (pss_cons (ps_for PassesOwn.never rfl (pi_range1 (by rfl) T.range (pa_cons (pe_callB call_lenD (by rfl) T.len PySem.boot_len (pa_cons (pv 1) pa_nil)) pa_nil)) (pg_name (i := 4) nd rfl (Or.inl rfl)) (pss_one (ps_if (pt_cmp (pc_dnotin hu1 (pv 4) (pv 3))) (pss_cons (ps_set (i := 5) nd rfl (Or.inl rfl) (pcall DF hr2 (pa_cons (pv 1) (pa_cons (pv 4) pa_nil))))
      (pss_cons (ps_expr (pe_bm PySem.F.plainAttrs_list PySem.F.slot_list_append PySem.F.type_list_append mt_append (pv 2) (pa_cons (pv 5) pa_nil)))
      (pss_one (ps_for PassesOwn.never rfl (pi_list (pv 5)) (pg_name (i := 6) nd rfl (Or.inl rfl)) (pss_one (ps_dput hu1 (pv 3) (pv 6) pe_bl rfl)))))) (pss_nil))))
      (pss_one (ps_ret (pv 2))))))), ?_⟩
    refine ⟨_, rfl, p, ps, rs, n, rfl, R, D, hn, fun H1 s1 => ?_⟩
    refine ⟨_, rfl, p, ps, rs, n, rfl, R.same s1, D, by omega, fun d H2 hd TB s2 => ?_⟩
    refine ⟨(sz 0), fun l hl => ?_⟩
    intro sd hsd
    obtain ⟨nsl, hsd'⟩ := upd_none hsd
    have s12 := s1.trans s2
    have s3 : Same H2 (L2.upd (L2.upd H2 l (.lst [])) sd (.dK [])) := ((Same.refl H2).put hl).put hsd'
    have fl : H l = none := s12.free hl
    have fsd : H sd = none := s12.free hsd'
    obtain ⟨kvs, tb1, tb2, tb3⟩ := (TB.same s3).ex
    have DG := D.goes
    refine ⟨_, rfl, d, kvs, rfl, tb1, _, rfl, by omega, by omega, ?_⟩
    rw [tb2, Int.toNat_natCast]
    refine for_range (fun i σ H3 => ∃ ps' fs v4 v5 v6, σ = [some (.ref p), some (.ref d), some (.ref l), some (.ref sd), v4, v5, v6] ∧ Same H2 H3 ∧ Fcs (stp rs) i fs ∧ Rows H3 l ps' fs ∧ SeenOf H3 sd fs.flatten (i * n) ∧ ∀ q ∈ ps', H q = none ∧ H2 q = none)
      ⟨[], [], _, _, _, rfl, s3, .zero, ⟨by rw [upd_ne (Ne.symm nsl), upd_same]; rfl, List.nodup_nil, rfl, fun i q r e => by simp at e⟩, by rw [Nat.zero_mul]; exact SeenOf.new upd_same, fun q hq => by cases hq⟩ ?_ ?_
    · rintro i σ H3 hi ⟨ps', fs, v4, v5, v6, rfl, s4, hF, R3, S3, hfr⟩
      have hb := hF.bound (n := n) (fun x h => D.stp_mem h.1 h.2) (fun x y hx hy h => D.stp_inj hx hy h) (by omega)
      obtain ⟨skv, sk1, sk2, sk3⟩ := id S3.ex
      refine ⟨_, rfl, _, rfl, sd, _, rfl, DGet.k (k := (Sum.inl ((0 : Int) + (i : Int)) : Key)) sk1, _, rfl, ?_⟩
      rw [sk3, show (0 : Int) + (i : Int) = (i : Int) by omega]
      by_cases hm : (i : Int) ∈ fs.flatten
      · rw [decide_eq_true hm]
        refine iteF ⟨ps', fs, _, _, _, rfl, s4, .skip hF hm, R3, ?_, hfr⟩
        obtain ⟨a, b, c, e⟩ := S3.ex
        exact ⟨a, b, by rw [Nat.succ_mul]; omega, e⟩
      · rw [decide_eq_false hm]
        refine iteT ?_
        refine ⟨_, rfl, _, rfl, d, nextIn rs, n, (i : Int), rfl, TB.same s4, DG, by omega, by omega, by omega, fun q row H4 hface hq hL s5 => ?_⟩
        have hrl := hface.len (n := n) DG.mem DG.inj ⟨by omega, by omega⟩
        have hq2 : H2 q = none := s4.free hq
        have hqn : q ∉ ps' := mem_ne R3 hq
        have hql : q ≠ l := fun z => by rw [z, R3.out] at hq; cases hq
        have hqsd : q ≠ sd := fun z => by rw [z, sk1] at hq; cases hq
        have R4 := R3.same s5
        refine ⟨_, rfl, .inl ⟨rfl, _, .of R4.out⟩, _, rfl, l, _, _, rfl, rfl, R4.out, (by rw [List.length_map, R4.len]; omega), ?_⟩
        have R5 := R4.snoc (r := row) hL hqn hql
        have s6 : Same H2 (L2.upd H4 l (.lst (ps'.map V.ref ++ [.ref q]))) := (s4.trans s5).put hl
        have hL6 : (L2.upd H4 l (.lst (ps'.map V.ref ++ [.ref q]))) q = some (.lst (row.map V.int)) := by rw [upd_ne hql]; exact hL
        have S6 : SeenOf (L2.upd H4 l (.lst (ps'.map V.ref ++ [.ref q]))) sd fs.flatten (i * n) := by
          refine ⟨skv, ?_, sk2, sk3⟩
          rw [upd_ne nsl]
          exact s5 _ _ sk1
        refine ⟨_, rfl, q, rfl, ⟨_, .of hL6⟩, for_list (K := K) (a := q) (xs := row.map V.int) (fun j σ H7 => ∃ v6, σ = [some (.ref p), some (.ref d), some (.ref l), some (.ref sd), some (.int (i : Int)), some (.ref q), v6] ∧ (∀ c, c ≠ sd → H7 c = (L2.upd H4 l (.lst (ps'.map V.ref ++ [.ref q]))) c) ∧ SeenOf H7 sd (fs.flatten ++ row.take j) (i * n + j))
          ⟨v6, rfl, fun _ _ => rfl, by rw [List.take_zero, List.append_nil]; exact S6⟩ (fun j σ H7 _ hh => by obtain ⟨_, _, eq, _⟩ := hh; exact .of (by rw [eq q hqsd]; exact hL6)) ?_ ?_⟩
        · rintro j z σ H7 hj ⟨v6, rfl, eq, S7⟩
          obtain ⟨e, he, rfl⟩ : ∃ e, row[j]? = some e ∧ z = V.int e := by
            rw [List.getElem?_map] at hj
            cases e : row[j]? with
            | none => rw [e] at hj; cases hj
            | some t => rw [e] at hj; exact ⟨t, rfl, (Option.some.inj hj).symm⟩
          have hjl : j < row.length := (List.getElem?_eq_some_iff.mp he).1
          have hbn : i * n ≤ 64 * 64 := Nat.mul_le_mul (by omega) (by omega)
          obtain ⟨H8, dp, S8, o, rfl⟩ := S7.put (by omega) e (.bl true)
          refine ⟨_, rfl, _, rfl, sd, _, rfl, dp, _, rfl, fun c hc => by rw [upd_ne hc]; exact eq c hc, ?_⟩
          rw [List.append_assoc, ← take_at he] at S8
          exact S8
        · rintro σ H7 ⟨v6, rfl, eq, S7⟩
          rw [List.length_map, List.take_length] at S7
          have s7 : Same H2 H7 := fun c o e => by
            have hc : c ≠ sd := fun z => by rw [z, hsd'] at e; cases e
            rw [eq c hc]
            exact s6 c o e
          have eqR : ∀ c ∈ ps' ++ [q], c ≠ sd := fun c hc z => by
            rcases List.mem_append.mp hc with z' | z'
            · obtain ⟨r, _, e⟩ := R3.mem z'
              rw [z, sk1] at e
              cases e
            · have : c = q := by simpa using z'
              exact hqsd (this ▸ z)
          refine ⟨ps' ++ [q], fs ++ [row], _, _, _, rfl, s7, .add hF hm hface, ⟨by rw [eq l (Ne.symm nsl)]; exact R5.out, R5.nd, R5.len, fun a c r e1 e2 => by rw [eq c (eqR c (List.mem_of_getElem? e1))]; exact R5.row a c r e1 e2⟩, ?_, fun c hc => ?_⟩
          · obtain ⟨a, b, c, e⟩ := S7.ex
            refine ⟨a, b, by rw [Nat.succ_mul]; omega, fun z => ?_⟩
            rw [e z, List.flatten_append]
            simp
          · rcases List.mem_append.mp hc with z | z
            · exact hfr c z
            · have : c = q := by simpa using z
              subst this
              exact ⟨s12.free hq2, hq2⟩
    · rintro σ H3 ⟨ps', fs, v4, v5, v6, rfl, s4, hF, R3, S3, hfr⟩
      exact ⟨_, rfl, k l ps' fs H3 hF R3 (s12.trans s4) fl fun q hq => (hfr q hq).1⟩
end
end Ink

namespace Ink
open PySem L2
theorem pre_at {r : List Int} {k : Nat} (h : k < r.length) : atI (r.map V.int) ((k : Int) - 1) = some (V.int (r.getD (pre r.length k) 0)) := by
  have hp := pre_lt (n := r.length) (k := k) (by omega)
  have hg : (r.map V.int)[pre r.length k]? = some (V.int (r.getD (pre r.length k) 0)) := by rw [List.getElem?_map, getD_pre h]; rfl
  cases k with
  | zero =>
    rw [pre_zero h] at hg ⊢
    unfold atI ixN
    rw [if_neg (by decide), List.length_map, if_pos (by omega)]
    show (r.map V.int)[(((0 : Nat) : Int) - 1 + (r.length : Nat)).toNat]? = _
    rw [show (((0 : Nat) : Int) - 1 + (r.length : Nat)).toNat = r.length - 1 by omega]
    exact hg
  | succ k =>
    rw [pre_succ h] at hg ⊢
    rw [show (((k + 1 : Nat) : Nat) : Int) - 1 = ((k : Nat) : Int) by omega]
    exact atI_nat hg
section
variable {P : Program} {w : World} {K : PySem.W.Frag} {mg : Str → Option Value} {base : Heap}
theorem scFacesOf : FnScope ["_law_rounds", "_law_after", "_law_row", "_law_k", "_law_found", "_law_gone", "_law_end", "_law_here", "_law_one"] ["_law_rounds"] (defScope sFacesOf) := ⟨rfl, rfl, rfl, by decide +kernel, rfl, by decide +kernel, by decide +kernel⟩
theorem ok_facesOf {f : Addr} {fd : FuncData} (F : Fun K "_law_faces_of" "_law_faces_of" sFacesOf f fd) (T : Txt mg) (DA : Def P w K mg base "_law_across" 1 ["_law_end"] spAcross) : FnOk P w K mg base CX0 2 f fd ["_law_rounds"] spFaces := by
  refine F.ok scFacesOf (fun vs H Q E h => ?_) (fun cdv A outer s H vs Q E hr h => ?_)
  · obtain ⟨p, ps, rs, n, rfl, _⟩ := h
    rfl
  · obtain ⟨p, ps, rs, n, rfl, R, D, hn, k⟩ := h
    have hs : sizeLine = 16777216 := sizeLine_eq
    have nd := scFacesOf.nd
    have hu1 := hu_of hr
    have DG := D.goes
    refine ⟨_, pss_cons (ps_set (i := 1) nd rfl (Or.inl rfl) pe_dnewK)
      (pss_cons (ps_for PassesOwn.never rfl (pi_list (pv 0)) (pg_name (i := 2) nd rfl (Or.inl rfl)) (pss_one (ps_for PassesOwn.never rfl (pi_range1 (by rfl) T.range (pa_cons (pe_callB call_len_seq (by rfl) T.len PySem.boot_len (pa_cons (pv 2) pa_nil)) pa_nil)) (pg_name (i := 3) nd rfl (Or.inl rfl)) (pss_one (ps_dput hu1 (pv 1) (pe_ix ix_list (pv 2) (pe_op op_sub (pv 3) pe_int) (fun _ _ => rfl)) (pe_ix ix_list (pv 2) (pv 3) (fun _ _ => rfl)) rfl)))))
      (pss_cons (ps_set (i := 4) nd rfl (Or.inl rfl) (pe_lst pa_nil))
      (pss_cons (ps_set (i := 5) nd rfl (Or.inl rfl) pe_dnewK)
      (pss_cons (ps_for PassesOwn.never rfl (pi_range1 (by rfl) T.range (pa_cons (pe_callB call_lenD (by rfl) T.len PySem.boot_len (pa_cons (pv 1) pa_nil)) pa_nil)) (pg_name (i := 6) nd rfl (Or.inl rfl)) (pss_one (ps_if (pt_cmp (pc_dnotin hu1 (pv 6) (pv 5))) (pss_cons (ps_set (i := 2) nd rfl (Or.inl rfl) (pe_lst (pa_cons (pv 6) pa_nil)))
      (pss_cons (ps_set (i := 7) nd rfl (Or.inl rfl) (pe_dget hu1 (pv 1) (pcall DA hr (pa_cons (pv 6) pa_nil)) (fun _ _ => rfl)))
      (pss_cons (ps_while PassesOwn.never (pt_cmpR op_ne (pv 7) (pv 6) (nomark _)) (pss_cons (ps_expr (pe_bm PySem.F.plainAttrs_list PySem.F.slot_list_append PySem.F.type_list_append mt_append (pv 2) (pa_cons (pv 7) pa_nil)))
      (pss_one (ps_set (i := 7) nd rfl (Or.inl rfl) (pe_dget hu1 (pv 1) (pcall DA hr (pa_cons (pv 7) pa_nil)) (fun _ _ => rfl))))))
      (pss_cons (ps_for PassesOwn.never rfl (pi_list (pv 2)) (pg_name (i := 8) nd rfl (Or.inl rfl)) (pss_one (ps_dput hu1 (pv 5) (pv 8) pe_bl rfl)))
      (pss_one (ps_expr (pe_bm PySem.F.plainAttrs_list PySem.F.slot_list_append PySem.F.type_list_append mt_append (pv 4) (pa_cons (pv 2) pa_nil)))))))) (pss_nil))))
      (pss_one (ps_ret (pv 4))))))), ?_⟩
    intro d hd
    have s0 : Same H (L2.upd H d (.dK [])) := (Same.refl H).put hd
    dsimp only [gName]
    with_reducible refine seq_via (fun σ' H' => ∃ v2 v3, σ' = [some (.ref p), some (.ref d), v2, v3, none, none, none, none, none] ∧ Same H H' ∧ TabOf H' d (nextIn rs) n) ?_ (fun Kn hK => ?_)
    rotate_left
    · refine ⟨_, rfl, p, rfl, ⟨_, .of (s0 _ _ R.out)⟩, for_list (K := K) (a := p) (xs := ps.map V.ref) (fun i σ H2 => ∃ v2 v3, σ = [some (.ref p), some (.ref d), v2, v3, none, none, none, none, none] ∧ Same H H2 ∧ H2 d = some (.dK (tab (nextIn rs) (rots rs i)))) ⟨none, none, rfl, s0, upd_same⟩
        (fun i σ H2 _ hh => by obtain ⟨_, _, _, s2, _⟩ := hh; exact .of (s2 _ _ R.out)) ?_ ?_⟩
      · rintro i y σ H2 hi ⟨v2, v3, rfl, s2, hL⟩
        obtain ⟨q, hq, rfl⟩ := ref_at hi
        obtain ⟨r, hr', hH⟩ := R.at hq
        have hrow : r.length ≤ n := row_le D (List.mem_of_getElem? hr')
        have ndr : r.Nodup := row_nodup D.nd (List.mem_of_getElem? hr')
        refine ⟨_, rfl, q, _, rfl, .inl (.of (s2 _ _ hH)), _, rfl, by rw [List.length_map]; omega, by rw [List.length_map]; omega, ?_⟩
        rw [List.length_map, Int.toNat_natCast]
        refine for_range (fun j σ H3 => ∃ v3, σ = [some (.ref p), some (.ref d), some (.ref q), v3, none, none, none, none, none] ∧ Same H H3 ∧ H3 d = some (.dK (tab (nextIn rs) (rots rs i ++ rot r j)))) ⟨v3, rfl, s2, by rw [show rot r 0 = [] from rfl, List.append_nil]; exact hL⟩ ?_ ?_
        · rintro j σ H3 hj ⟨v3, rfl, s3, hL3⟩
          have hH3 := s3 _ _ hH
          have hg := getD_pre hj
          have hnew : r.getD (pre r.length j) 0 ∉ rots rs i ++ rot r j := fun z => by
            rcases List.mem_append.mp z with z | z
            · exact later_new D.nd hr' hg (rots_mem _ z)
            · exact rot_new ndr hj z
          have hval : r.getD j 0 = nextIn rs (r.getD (pre r.length j) 0) := by
            rw [nextIn_at D.nd hr' hg, pre_next hj, List.getD_eq_getElem?_getD, List.getD_eq_getElem?_getD, List.getElem?_eq_getElem hj]
            rfl
          have hpa := pre_at hj
          rw [show ((j : Int) - 1) = 0 + (j : Int) - 1 by omega] at hpa
          refine ⟨_, rfl, _, rfl, q, _, _, _, rfl, rfl, .of hH3, int_at (i := j) hj (by omega), _, rfl, _, rfl, _, rfl, _, _, rfl, rfl, q, _, _, _, rfl, rfl, .of hH3, hpa, d, _, rfl, DPut.k (k := (Sum.inl (r.getD (pre r.length j) 0) : Key)) hL3 ?_, _, rfl, s3.put hd, ?_⟩
          · have h1 : (rots rs i).length ≤ n := by
              have h2 := rots_length (rs.take i)
              have h3 : rots (rs.take i) (rs.take i).length = rots rs i := by
                unfold rots
                rw [List.take_length]
              rw [h3] at h2
              have h4 := flat_take_le rs i
              rw [D.len] at h4
              omega
            rw [tab_length, List.length_append, rot_length]
            omega
          · rw [upd_same, tab_put hnew hval, List.append_assoc, ← rot_succ]
        · rintro σ H3 ⟨v3, rfl, s3, hL3⟩
          exact ⟨_, _, rfl, s3, by rw [rots_succ hr']; exact hL3⟩
      · rintro σ H2 ⟨v2, v3, rfl, s2, hL⟩
        rw [List.length_map, R.len] at hL
        exact hK _ _ ⟨_, _, rfl, s2, ⟨_, hL, by rw [tab_length, rots_length, D.len], fun e he => tab_val (rots_all e ((D.mem e).mpr he))⟩⟩
    · rintro σ H2 ⟨v2, v3, rfl, s2, TB⟩
      refine ⟨(sz 0), fun l hl => ?_⟩
      intro sd hsd
      obtain ⟨nsl, hsd'⟩ := upd_none hsd
      have s3 : Same H2 (L2.upd (L2.upd H2 l (.lst [])) sd (.dK [])) := ((Same.refl H2).put hl).put hsd'
      have fl : H l = none := s2.free hl
      have fsd : H sd = none := s2.free hsd'
      obtain ⟨kvs, tb1, tb2, tb3⟩ := (TB.same s3).ex
      refine ⟨_, rfl, d, kvs, rfl, tb1, _, rfl, by omega, by omega, ?_⟩
      rw [tb2, Int.toNat_natCast]
      refine for_range (fun i σ H3 => ∃ ps' fs w2 w3 v6 v7 v8, σ = [some (.ref p), some (.ref d), w2, w3, some (.ref l), some (.ref sd), v6, v7, v8] ∧ Same H2 H3 ∧ Fcs (stp rs) i fs ∧ Rows H3 l ps' fs ∧ SeenOf H3 sd fs.flatten (i * n) ∧ ∀ q ∈ ps', H2 q = none)
        ⟨[], [], _, _, _, _, _, rfl, s3, .zero, ⟨by rw [upd_ne (Ne.symm nsl), upd_same]; rfl, List.nodup_nil, rfl, fun i q r e => by simp at e⟩, by rw [Nat.zero_mul]; exact SeenOf.new upd_same, fun q hq => by cases hq⟩ ?_ ?_
      · rintro i σ H3 hi ⟨ps', fs, w2, w3, v6, v7, v8, rfl, s4, hF, R3, S3, hfr⟩
        have hb := hF.bound (n := n) (fun x h => D.stp_mem h.1 h.2) (fun x y hx hy h => D.stp_inj hx hy h) (by omega)
        obtain ⟨skv, sk1, sk2, sk3⟩ := id S3.ex
        refine ⟨_, rfl, _, rfl, sd, _, rfl, DGet.k (k := (Sum.inl ((0 : Int) + (i : Int)) : Key)) sk1, _, rfl, ?_⟩
        rw [sk3, show (0 : Int) + (i : Int) = (i : Int) by omega]
        by_cases hm : (i : Int) ∈ fs.flatten
        · rw [decide_eq_true hm]
          refine iteF ⟨ps', fs, _, _, _, _, _, rfl, s4, .skip hF hm, R3, ?_, hfr⟩
          obtain ⟨a, b, c, e⟩ := S3.ex
          exact ⟨a, b, by rw [Nat.succ_mul]; omega, e⟩
        · rw [decide_eq_false hm]
          refine iteT ?_
          -- row = [end]; here = after[across(end)]
          have e0 : (0 : Int) ≤ (i : Int) := by omega
          have e1 : (i : Int) < (n : Int) := by omega
          refine ⟨_, rfl, (sz 1), fun q hq => ?_⟩
          have t0 : Same H3 (L2.upd H3 q (.lst [.int (i : Int)])) := (Same.refl H3).put hq
          refine ⟨_, rfl, _, rfl, (i : Int), rfl, d, _, rfl, (TB.same (s4.trans t0)).get (acr_lt D.even e0 e1), ?_⟩
          dsimp only [gName]
          with_reducible refine seq_via (fun σ' H' => ∃ row v7, σ' = [some (.ref p), some (.ref d), some (.ref q), w3, some (.ref l), some (.ref sd), some (.int (i : Int)), v7, v8] ∧ IsFace (fc (nextIn rs)) (i : Int) row ∧ H' q = some (.lst (row.map V.int)) ∧ Same H3 H') ?_ (fun Kn hK => ?_)
          rotate_left
          · obtain ⟨per, hp0, hp1, hp2⟩ := go_round (f := fc (nextIn rs)) (n := n) DG.mem DG.inj ⟨e0, e1⟩
            refine ⟨fun m σ H5 => ∃ j, σ = [some (.ref p), some (.ref d), some (.ref q), w3, some (.ref l), some (.ref sd), some (.int (i : Int)), some (.int (itr (fc (nextIn rs)) (j + 1) (i : Int))), v8] ∧ H5 q = some (.lst ((orb (fc (nextIn rs)) (i : Int) j).map V.int)) ∧ Same H3 H5 ∧ j + 1 ≤ per ∧ (∀ a, 0 < a → a ≤ j → itr (fc (nextIn rs)) a (i : Int) ≠ (i : Int)) ∧ m = per - j,
              ⟨per, 0, rfl, upd_same, t0, hp0, fun i h1 h2 => absurd h1 (by omega), rfl⟩, ?_⟩
            rintro m σ H5 ⟨j, rfl, hL, t5, hj, hno, rfl⟩
            refine ⟨_, rfl, _, rfl, rfl, _, rfl, ?_⟩
            refine ite2 (fun h => ?_) (fun h => ?_)
            · have hne : itr (fc (nextIn rs)) (j + 1) (i : Int) ≠ (i : Int) := by
                intro z
                rw [z] at h
                simp at h
              have hlt : j + 1 < per := by
                rcases Nat.lt_or_ge (j + 1) per with z | z
                · exact z
                · have : j + 1 = per := by omega
                  rw [this] at hne
                  exact absurd hp2 hne
              have t6 : Same H3 (L2.upd H5 q (.lst ((orb (fc (nextIn rs)) (i : Int) j).map V.int ++ [.int (itr (fc (nextIn rs)) (j + 1) (i : Int))]))) := t5.put hq
              have hin := itr_in (f := fc (nextIn rs)) (n := n) DG.mem ⟨e0, e1⟩ (j + 1)
              refine ⟨fun σ' H' => σ' = [some (.ref p), some (.ref d), some (.ref q), w3, some (.ref l), some (.ref sd), some (.int (i : Int)), some (.int (itr (fc (nextIn rs)) (j + 2) (i : Int))), v8] ∧ H' q = some (.lst ((orb (fc (nextIn rs)) (i : Int) (j + 1)).map V.int)) ∧ Same H3 H',
                fun σ' H' ⟨a, b, c⟩ => ⟨per - (j + 1), by omega, j + 1, a, b, c, by omega, fun a h1 h2 => ?_, rfl⟩, ?_⟩
              · rcases Nat.lt_or_ge j a with z | z
                · have : a = j + 1 := by omega
                  rw [this]; exact hne
                · exact hno a h1 z
              · refine ⟨_, rfl, .inl ⟨rfl, _, .of hL⟩, _, rfl, q, _, _, rfl, rfl, hL, (by rw [List.length_map, orb_length]; omega), ?_⟩
                refine ⟨_, rfl, _, rfl, _, rfl, d, _, rfl, (TB.same (s4.trans t6)).get (acr_lt D.even hin.1 hin.2), rfl, ?_, t6⟩
                rw [upd_same, orb_succ, List.map_append]
                rfl
            · have heq : itr (fc (nextIn rs)) (j + 1) (i : Int) = (i : Int) := by
                by_cases z : itr (fc (nextIn rs)) (j + 1) (i : Int) = (i : Int)
                · exact z
                · exact absurd (by simp [z]) h
              exact hK _ _ ⟨_, _, rfl, ⟨j, rfl, heq, hno⟩, hL, t5⟩
          · rintro σ' H4 ⟨row, w7, rfl, hface, hL, s5⟩
            have hrl := hface.len (n := n) DG.mem DG.inj ⟨e0, e1⟩
            have hq2 : H2 q = none := s4.free hq
            have hqn : q ∉ ps' := mem_ne R3 hq
            have hql : q ≠ l := fun z => by rw [z, R3.out] at hq; cases hq
            have hqsd : q ≠ sd := fun z => by rw [z, sk1] at hq; cases hq
            have R4 := R3.same s5
            have S4 : SeenOf H4 sd fs.flatten (i * n) := ⟨skv, s5 _ _ sk1, sk2, sk3⟩
            refine ⟨_, rfl, q, rfl, ⟨_, .of hL⟩, for_list (K := K) (a := q) (xs := row.map V.int) (fun j σ H7 => ∃ v8, σ = [some (.ref p), some (.ref d), some (.ref q), w3, some (.ref l), some (.ref sd), some (.int (i : Int)), w7, v8] ∧ (∀ c, c ≠ sd → H7 c = H4 c) ∧ SeenOf H7 sd (fs.flatten ++ row.take j) (i * n + j))
              ⟨v8, rfl, fun _ _ => rfl, by rw [List.take_zero, List.append_nil]; exact S4⟩ (fun j σ H7 _ hh => by obtain ⟨_, _, eq, _⟩ := hh; exact .of (by rw [eq q hqsd]; exact hL)) ?_ ?_⟩
            · rintro j z σ H7 hj ⟨v8, rfl, eq, S7⟩
              obtain ⟨e, he, rfl⟩ : ∃ e, row[j]? = some e ∧ z = V.int e := by
                rw [List.getElem?_map] at hj
                cases e : row[j]? with
                | none => rw [e] at hj; cases hj
                | some t => rw [e] at hj; exact ⟨t, rfl, (Option.some.inj hj).symm⟩
              have hjl : j < row.length := (List.getElem?_eq_some_iff.mp he).1
              have hbn : i * n ≤ 64 * 64 := Nat.mul_le_mul (by omega) (by omega)
              obtain ⟨H8, dp, S8, o, rfl⟩ := S7.put (by omega) e (.bl true)
              refine ⟨_, rfl, _, rfl, sd, _, rfl, dp, _, rfl, fun c hc => by rw [upd_ne hc]; exact eq c hc, ?_⟩
              rw [List.append_assoc, ← take_at he] at S8
              exact S8
            · rintro σ H7 ⟨v8, rfl, eq, S7⟩
              rw [List.length_map, List.take_length] at S7
              have eqR : ∀ c ∈ ps', c ≠ sd := fun c hc z => by
                obtain ⟨r, _, e⟩ := R3.mem hc
                rw [z, sk1] at e
                cases e
              have R7 : Rows H7 l ps' fs := ⟨by rw [eq l (Ne.symm nsl)]; exact R4.out, R4.nd, R4.len, fun a c r e1 e2 => by rw [eq c (eqR c (List.mem_of_getElem? e1))]; exact R4.row a c r e1 e2⟩
              have hL7 : H7 q = some (.lst (row.map V.int)) := by rw [eq q hqsd]; exact hL
              have s7 : Same H2 H7 := fun c o e => by
                have hc : c ≠ sd := fun z => by rw [z, hsd'] at e; cases e
                rw [eq c hc]
                exact (s4.trans s5) c o e
              refine ⟨_, rfl, .inl ⟨rfl, _, .of R7.out⟩, _, rfl, l, _, _, rfl, rfl, R7.out, (by rw [List.length_map, R7.len]; omega), ?_⟩
              refine ⟨ps' ++ [q], fs ++ [row], _, _, _, _, _, rfl, s7.put hl, .add hF hm hface, R7.snoc (r := row) hL7 hqn hql, ?_, fun c hc => ?_⟩
              · obtain ⟨a, b, c, e⟩ := S7.ex
                refine ⟨a, by rw [upd_ne nsl]; exact b, by rw [Nat.succ_mul]; omega, fun z => ?_⟩
                rw [e z, List.flatten_append]
                simp
              · rcases List.mem_append.mp hc with z | z
                · exact hfr c z
                · have : c = q := by simpa using z
                  subst this
                  exact hq2
      · rintro σ H3 ⟨ps', fs, w2, w3, v6, v7, v8, rfl, s4, hF, R3, S3, hfr⟩
        exact ⟨_, rfl, k l ps' fs H3 hF R3 (s2.trans s4) fl fun q hq => s2.free (hfr q hq)⟩
end
end Ink

namespace Ink
open PySem L2
/-- a drawing of the law's, or up to three points alone -/
structure DnB (any : Prop) (H H2 : Hp) (p : Addr) (ps : List Addr) (rs : Rs) (n : Nat) : Prop where
  made : Made any rs n ∨ (n = 0 ∧ ∃ m, m ≤ 3 ∧ rs = List.replicate m [])
  rows : Rows H2 p ps rs
  same : Same H H2
  fp : H p = none
  fr : ∀ q ∈ ps, H q = none
theorem Dr.bare (m : Nat) : Dr (List.replicate m []) 0 := by
  have e : (List.replicate m ([] : List Int)).flatten = [] := by
    rw [List.flatten_eq_nil_iff]
    intro l hl
    exact (List.mem_replicate.mp hl).2
  exact ⟨by rw [e]; exact List.nodup_nil, fun z => by rw [e]; exact ⟨(fun h => by cases h), (fun h => absurd h.2 (by have := h.1; omega))⟩, by rw [e]; rfl, rfl⟩
theorem DnB.dr {any : Prop} {H H2 : Hp} {p : Addr} {ps : List Addr} {rs : Rs} {n : Nat} (d : DnB any H H2 p ps rs n) : Dr rs n := by
  rcases d.made with m | ⟨rfl, m, _, rfl⟩
  · exact m.dr
  · exact Dr.bare m
def spBare (K : PySem.W.Frag) : Sp := fun vs H Q _ => ∃ (a : Addr) (cs : List Int) (mode : Int), vs = [.ref a, .int mode] ∧ SqL K H a (cs.map V.int) ∧ cs.length ≤ 100 ∧
  ∀ (p : Addr) (ps : List Addr) (rs : Rs) (n : Nat) (H' : Hp), DnB (mode = 2) H H' p ps rs n → n ≤ 2 + cs.length → rs.length ≤ 3 + cs.length → Q (.ref p) H'
section
variable {P : Program} {w : World} {K : PySem.W.Frag} {mg : Str → Option Value} {base : Heap}
theorem cut_ints (ns : List Int) (lo hi : Option Int) : ∃ cs : List Int, cutV (ns.map V.int) lo hi = cs.map V.int ∧ cs.length ≤ ns.length ∧ cs.length ≤ HT.sIx ns.length ns.length hi - HT.sIx ns.length 0 lo := by
  refine ⟨(ns.drop (HT.sIx ns.length 0 lo)).take (HT.sIx ns.length ns.length hi - HT.sIx ns.length 0 lo), ?_, ?_, ?_⟩
  · unfold cutV
    rw [List.length_map, List.map_take, List.map_drop]
  · rw [List.length_take, List.length_drop]; omega
  · rw [List.length_take]; omega
theorem sIx_le {n d k : Nat} : HT.sIx n d (some (k : Int)) = min k n := by
  show (if (k : Int) < 0 then ((k : Int) + (n : Int)).toNat else min (k : Int).toNat n) = _
  rw [if_neg (by omega), Int.toNat_natCast]
end

end Ink

namespace Ink
open PySem L2
def ptI (rs : Rs) (e : Int) : Int := (pt rs e : Int)
def spPointsOf : Sp := fun vs H Q _ => ∃ (p : Addr) (ps : List Addr) (rs : Rs) (n : Nat), vs = [.ref p] ∧ Rows H p ps rs ∧ Dr rs n ∧ n ≤ 1000 ∧ rs.length ≤ 1000 ∧
  ∀ (d : Addr) (H' : Hp), H d = none → TabOf H' d (ptI rs) n → Same H H' → Q (.ref d) H'
theorem take_new {rs : Rs} {i j : Nat} {r : List Int} {e : Int} (nd : rs.flatten.Nodup) (hr' : rs[i]? = some r) (he : r[j]? = some e) : e ∉ (rs.take i).flatten ++ r.take j := fun z => by
  rcases List.mem_append.mp z with z | z
  · exact later_new nd hr' he z
  · obtain ⟨j', hj'⟩ := List.mem_iff_getElem?.mp z
    obtain ⟨l1, e1⟩ := List.getElem?_eq_some_iff.mp hj'
    rw [List.length_take] at l1
    rw [List.getElem_take] at e1
    obtain ⟨l2, e2⟩ := List.getElem?_eq_some_iff.mp he
    have ndr : r.Nodup := row_nodup nd (List.mem_of_getElem? hr')
    have := (List.getElem_inj ndr).mp (e1.trans e2.symm)
    omega
theorem int_of {r : List Int} {j : Nat} {z : V} (hj : (r.map V.int)[j]? = some z) : ∃ e, r[j]? = some e ∧ z = V.int e := by
  rw [List.getElem?_map] at hj
  cases e : r[j]? with
  | none => rw [e] at hj; cases hj
  | some t => rw [e] at hj; exact ⟨t, rfl, (Option.some.inj hj).symm⟩
section
variable {P : Program} {w : World} {K : PySem.W.Frag} {mg : Str → Option Value} {base : Heap}
theorem scPointL : FnScope ["_law_rounds", "_law_point_at", "_law_k", "_law_end"] ["_law_rounds"] (defScope sPointL) := ⟨rfl, rfl, rfl, by decide +kernel, rfl, by decide +kernel, by decide +kernel⟩
theorem ok_pointL {f : Addr} {fd : FuncData} (F : Fun K "_law_point_of" "_law_point_of" sPointL f fd) (T : Txt mg) : FnOk P w K mg base CX0 1 f fd ["_law_rounds"] spPointsOf := by
  refine F.ok scPointL (fun vs H Q E h => ?_) (fun cdv A outer s H vs Q E hr h => ?_)
  · obtain ⟨p, ps, rs, n, rfl, _⟩ := h
    rfl
  · obtain ⟨p, ps, rs, n, rfl, R, D, hn, hrs, k⟩ := h
    have hs : sizeLine = 16777216 := sizeLine_eq
    have nd := scPointL.nd
    have hu1 := hu_of hr
    refine ⟨_, pss_cons (ps_set (i := 1) nd rfl (Or.inl rfl) pe_dnewK)
      (pss_cons (ps_for PassesOwn.never rfl (pi_range1 (by rfl) T.range (pa_cons (pe_callB call_len_seq (by rfl) T.len PySem.boot_len (pa_cons (pv 0) pa_nil)) pa_nil)) (pg_name (i := 2) nd rfl (Or.inl rfl)) (pss_one (ps_for PassesOwn.never rfl (pi_list (pe_ix ix_list (pv 0) (pv 2) (fun _ _ => rfl))) (pg_name (i := 3) nd rfl (Or.inl rfl)) (pss_one (ps_dput hu1 (pv 1) (pv 3) (pv 2) rfl)))))
      (pss_one (ps_ret (pv 1)))), ?_⟩
    intro d hd
    have s0 : Same H (L2.upd H d (.dK [])) := (Same.refl H).put hd
    refine ⟨_, rfl, p, _, rfl, .inl (.of (s0 _ _ R.out)), _, rfl, by omega, (by rw [List.length_map, R.len]; omega), ?_⟩
    rw [Int.toNat_natCast, List.length_map, R.len]
    refine for_range (fun i σ H2 => ∃ v2 v3, σ = [some (.ref p), some (.ref d), v2, v3] ∧ Same H H2 ∧ H2 d = some (.dK (tab (ptI rs) (rs.take i).flatten))) ⟨none, none, rfl, s0, upd_same⟩ ?_ ?_
    · rintro i σ H2 hi ⟨v2, v3, rfl, s2, hL⟩
      rw [show (0 : Int) + (i : Int) = (i : Int) by omega]
      have hr' : rs[i]? = some (rs[i]) := List.getElem?_eq_getElem hi
      obtain ⟨q, hq, hH⟩ := R.get hr'
      generalize rs[i] = r at hr' hH
      have hrow : r.length ≤ n := row_le D (List.mem_of_getElem? hr')
      have hfl := flat_take_le rs i
      rw [D.len] at hfl
      refine ⟨_, rfl, _, rfl, p, _, _, _, rfl, rfl, .of (s2 _ _ R.out), atI_nat (by rw [List.getElem?_map, hq]; rfl), q, rfl, ⟨_, .of (s2 _ _ hH)⟩, for_list (K := K) (a := q) (xs := r.map V.int) (fun j σ H3 => ∃ v3, σ = [some (.ref p), some (.ref d), some (.int (i : Int)), v3] ∧ Same H H3 ∧ H3 d = some (.dK (tab (ptI rs) ((rs.take i).flatten ++ r.take j)))) ⟨v3, rfl, s2, by rw [List.take_zero, List.append_nil]; exact hL⟩
        (fun j σ H3 _ hh => by obtain ⟨_, _, s4, _⟩ := hh; exact .of (s4 _ _ hH)) ?_ ?_⟩
      · rintro j z σ H3 hj ⟨v4, rfl, s4, hL4⟩
        obtain ⟨e, he, rfl⟩ := int_of hj
        have hjl : j < r.length := (List.getElem?_eq_some_iff.mp he).1
        have hval : (i : Int) = ptI rs e := by unfold ptI; rw [pt_uniq D.nd hr' (List.mem_of_getElem? he)]
        refine ⟨_, rfl, _, rfl, _, rfl, d, _, rfl, DPut.k (k := (Sum.inl e : Key)) hL4 (by rw [tab_length, List.length_append, List.length_take]; omega), _, rfl, s4.put hd, ?_⟩
        rw [upd_same, tab_put (take_new D.nd hr' he) hval, List.append_assoc, take_at he]
      · rintro σ H3 ⟨v4, rfl, s4, hL4⟩
        rw [List.length_map, List.take_length] at hL4
        exact ⟨_, _, rfl, s4, by rw [flat_take hr']; exact hL4⟩
    · rintro σ H2 ⟨v2, v3, rfl, s2, hL⟩
      rw [List.take_length] at hL
      exact ⟨_, rfl, k d H2 hd ⟨_, hL, by rw [tab_length, D.len], fun e he => tab_val ((D.mem e).mpr he)⟩ s2⟩
end
end Ink

namespace Ink
open PySem L2
def spPieces : Sp := fun vs H Q _ => ∃ (p : Addr) (ps : List Addr) (rs : Rs) (n : Nat), vs = [.ref p] ∧ Rows H p ps rs ∧ Dr rs n ∧ n < 64 ∧ rs.length < 64 ∧
  ∀ (p' : Addr) (ps' : List Addr) (gs : Rs) (H' : Hp), Grp (lab rs n) rs.length rs.length gs → Rows H' p' ps' gs → Same H H' → H p' = none → (∀ q ∈ ps', H q = none) → Q (.ref p') H'
section
variable {P : Program} {w : World} {K : PySem.W.Frag} {mg : Str → Option Value} {base : Heap}
/-! how many ropes, faces -/
def spRopes : Sp := fun vs H Q _ => ∃ (p : Addr) (ps : List Addr) (rs : Rs) (n : Nat), vs = [.ref p] ∧ Rows H p ps rs ∧ Dr rs n ∧ rs.length ≤ 1000 ∧ ∀ H', Same H H' → Q (.int ((n / 2 : Nat) : Int)) H'
theorem lens_sum : ∀ rs : Rs, (rs.map fun r => (r.length : Int)).sum = (rs.flatten.length : Int)
  | [] => rfl
  | r :: rs => by rw [List.map_cons, List.sum_cons, lens_sum rs, List.flatten_cons, List.length_append]; omega
end
end Ink

namespace Ink
open PySem L2
/-- a list of pairs of points -/
structure Prs (H : Hp) (q : Addr) (ts : List Addr) (pp : List (Nat × Nat)) : Prop where
  out : H q = some (.lst (ts.map V.ref))
  len : ts.length = pp.length
  row : ∀ (i : Nat) (t : Addr) (p : Nat × Nat), ts[i]? = some t → pp[i]? = some p → H t = some (.tup [.int (p.1 : Nat), .int (p.2 : Nat)])
theorem Prs.same {H H' : Hp} {q : Addr} {ts : List Addr} {pp : List (Nat × Nat)} (h : Prs H q ts pp) (s : Same H H') : Prs H' q ts pp := ⟨s _ _ h.out, h.len, fun i t p a b => s _ _ (h.row i t p a b)⟩
def spGroups : Sp := fun vs H Q _ => ∃ (m : Nat) (q : Addr) (ts : List Addr) (pp : List (Nat × Nat)), vs = [.int (m : Nat), .ref q] ∧ Prs H q ts pp ∧ Below m pp ∧ m ≤ 1000 ∧
  ∀ (l : Addr) (H' : Hp), H l = none → H' l = some (.lst ((heads m pp).map V.int)) → Same H H' → Q (.ref l) H'
section
variable {P : Program} {w : World} {K : PySem.W.Frag} {mg : Str → Option Value} {base : Heap}
theorem scGroups : FnScope ["_law_many", "_law_pairs", "_law_heads", "_law_one", "_law_other", "_law_here", "_law_there"] ["_law_many", "_law_pairs"] (defScope sGroups) := ⟨rfl, rfl, rfl, by decide +kernel, rfl, by decide +kernel, by decide +kernel⟩
theorem ok_groups {f : Addr} {fd : FuncData} (F : Fun K "_law_groups_of" "_law_groups_of" sGroups f fd) (T : Txt mg) : FnOk P w K mg base CX0 1 f fd ["_law_many", "_law_pairs"] spGroups := by
  refine F.ok scGroups (fun vs H Q E h => ?_) (fun cdv A outer s H vs Q E hr h => ?_)
  · obtain ⟨m, q, ts, pp, rfl, _⟩ := h
    rfl
  · obtain ⟨m, q, ts, pp, rfl, R, hb, hm, k⟩ := h
    have hs : sizeLine = 16777216 := sizeLine_eq
    have nd := scGroups.nd
    refine ⟨_, pss_cons (ps_setComp (i0 := 2) (te := tVar 0) nd rfl (Or.inl rfl) rfl (fun _ => Blk.plain rfl (by decide +kernel) (by decide +kernel)) (pi_range1 (by rfl) T.range (pa_cons (pv 0) pa_nil)) (fun _ _ _ _ => pts_nil) (fun _ _ _ _ => pv 0))
      (pss_cons (ps_for PassesOwn.never rfl (pi_list (pv 1)) (pg_tup rfl (pgs_cons (pg_name (i := 3) nd rfl (Or.inl rfl)) (pgs_cons (pg_name (i := 4) nd rfl (Or.inl rfl)) pgs_nil))) (pss_cons (ps_set (i := 5) nd rfl (Or.inr rfl) (pe_ix ix_list (pv 2) (pv 3) (fun _ _ => rfl)))
      (pss_cons (ps_set (i := 6) nd rfl (Or.inr rfl) (pe_ix ix_list (pv 2) (pv 4) (fun _ _ => rfl)))
      (pss_one (ps_setComp (i0 := 2) (te := tOp (rIxL K) (tLst (tCons (tVar 0) (tCons (tVar 2) tNil))) (tCB (fun (xs : List V) (H : Hp) (Q : VK) => (∃ i, xs = [V.int i] ∧ Q (.int i) H) ∨ ∃ k, xs = [V.bl k] ∧ Q (.int (if k then 1 else 0)) H) (tCons (tOp rEq (tVar 0) (tVar 1)) tNil))) nd rfl (Or.inl rfl) rfl (Blk.captN (caps := [5, 6]) ["_law_many", "_law_pairs", "_law_heads", "_law_one", "_law_other", "_law_here", "_law_there"] (defScope sGroups).names rfl rfl rfl (by decide +kernel) (by decide +kernel) (by decide +kernel)) (pi_list (pv 2)) (fun _ _ _ _ => pts_nil) (fun _ _ _ _ => (pe_ix ix_list (pe_lst (pa_cons (pv 0) (pa_cons (pv 2) pa_nil))) (pe_callTy call_int1 (by rfl) T.int PyProof.Rows.boot_int (pa_cons (pe_cmpR op_eq (pv 0) (pv 1) (nomark _)) pa_nil)) (fun _ _ => rfl))))))))
      (pss_one (ps_ret (pv 2)))), ?_⟩
    refine ⟨_, rfl, (m : Int), rfl, by omega, by omega, fun d hd => ?_⟩
    rw [Int.toNat_natCast]
    refine comp_range (fun i H2 => Same H H2 ∧ H2 d = some (.lst ((nums i).map V.int))) ⟨(Same.refl H).put hd, upd_same⟩ ?_ ?_
    · rintro i H2 hi ⟨s2, hL⟩
      refine yes_go ⟨_, rfl, _, hL, by rw [List.length_map, nums_length]; omega, s2.put hd, ?_⟩
      rw [upd_same, nums_succ, List.map_append, show (0 : Int) + (i : Int) = (i : Int) by omega]
      rfl
    rintro H2 ⟨s2, hL⟩
    refine ⟨_, rfl, q, rfl, ⟨_, .of (R.same s2).out⟩, for_list (K := K) (a := q) (xs := ts.map V.ref) (fun i σ H3 => ∃ l v3 v4 v5 v6, σ = [some (.int (m : Nat)), some (.ref q), some (.ref l), v3, v4, v5, v6] ∧ Same H H3 ∧ H l = none ∧ H3 l = some (.lst ((heads m (pp.take i)).map V.int)))
      ⟨d, none, none, none, none, rfl, s2, hd, hL⟩ (fun i σ H3 _ hh => by obtain ⟨_, _, _, _, _, _, s3, _⟩ := hh; exact .of (R.same s3).out) ?_ ?_⟩
    · rintro i y σ H3 hi ⟨l, v3, v4, v5, v6, rfl, s3, fl, hL3⟩
      obtain ⟨t, ht, rfl⟩ := ref_at hi
      have hil : i < pp.length := by rw [← R.len]; exact (List.getElem?_eq_some_iff.mp ht).1
      obtain ⟨p, hp⟩ : ∃ p, pp[i]? = some p := ⟨_, List.getElem?_eq_getElem hil⟩
      have hbp := hb p (List.mem_of_getElem? hp)
      have hT := (R.same s3).row i t p ht hp
      have hhl := heads_length m (pp.take i)
      refine ⟨t, _, rfl, .of hT, rfl, _, _, rfl, _, _, rfl, rfl, ?_⟩
      refine ⟨_, rfl, _, rfl, l, _, _, _, rfl, rfl, .of hL3, int_at (i := p.1) (by omega) rfl, ?_⟩
      refine ⟨_, rfl, _, rfl, l, _, _, _, rfl, rfl, .of hL3, int_at (i := p.2) (by omega) rfl, ?_⟩
      refine ⟨_, rfl, l, rfl, ⟨_, .of hL3⟩, fun e hE => comp_list (xs := (heads m (pp.take i)).map V.int) (fun j H4 => Same H3 H4 ∧ H4 e = some (.lst ((((heads m (pp.take i)).take j).map fun z => if z = (heads m (pp.take i)).getD p.1 0 then (heads m (pp.take i)).getD p.2 0 else z).map V.int))) ⟨(Same.refl H3).put hE, upd_same⟩ (fun j H4 _ hh => by obtain ⟨s4, _⟩ := hh; exact .of (s4 _ _ hL3)) ?_ ?_⟩
      · rintro j z H4 hj ⟨s4, hL4⟩
        obtain ⟨x, hx, rfl⟩ := int_of hj
        have hjl : j < (heads m (pp.take i)).length := (List.getElem?_eq_some_iff.mp hx).1
        refine yes_go ⟨_, rfl, _, rfl, (sz 2), fun l1 hl1 => ⟨_, rfl, _, rfl, rfl, .inr ⟨_, rfl, l1, _, _, V.int (if x = (heads m (pp.take i)).getD p.1 0 then (heads m (pp.take i)).getD p.2 0 else x), rfl, rfl, .of upd_same, ?_, (((heads m (pp.take i)).take j).map fun z => if z = (heads m (pp.take i)).getD p.1 0 then (heads m (pp.take i)).getD p.2 0 else z).map V.int, ?_, ?_, ?_, ?_⟩⟩⟩
        · by_cases hxe : x = (heads m (pp.take i)).getD p.1 0
          · rw [if_pos hxe, hxe, decide_eq_true rfl]
            exact atI_nat (j := 1) rfl
          · rw [if_neg hxe, decide_eq_false fun q => hxe (by injection q)]
            exact atI_nat (j := 0) rfl
        · rw [upd_ne (ne_of_none hL4 hl1)]; exact hL4
        · rw [List.length_map, List.length_map, List.length_take]; omega
        · exact (s4.put (s4.free hl1)).put hE
        · rw [upd_same, take_at hx, List.map_append, List.map_append]; rfl
      · rintro H4 ⟨s4, hL4⟩
        rw [List.length_map, List.take_length] at hL4
        refine ⟨e, _, _, _, _, rfl, s3.trans s4, s3.free hE, ?_⟩
        rw [take_at hp, heads_snoc]
        exact hL4
    · rintro σ H3 ⟨l, v3, v4, v5, v6, rfl, s3, fl, hL3⟩
      rw [List.length_map, R.len, List.take_length] at hL3
      exact ⟨_, rfl, k l H3 fl hL3 s3⟩
end
end Ink

namespace Ink
open PySem L2
structure Txt3 (mg : Str → Option Value) : Prop where
  set : mg "set" = none
  tuple : mg "tuple" = none
  str : mg "str" = none
theorem Prs.snoc {H : Hp} {q t : Addr} {ts : List Addr} {pp : List (Nat × Nat)} {p : Nat × Nat} (h : Prs H q ts pp) (ht : H t = none) :
    Prs (upd (upd H t (.tup [.int (p.1 : Nat), .int (p.2 : Nat)])) q (.lst (ts.map V.ref ++ [.ref t]))) q (ts ++ [t]) (pp ++ [p]) := by
  have hqt : q ≠ t := fun z => by rw [← z, h.out] at ht; cases ht
  refine ⟨by rw [upd_same, List.map_append]; rfl, by rw [List.length_append, List.length_append, h.len]; rfl, fun i t' p' e1 e2 => ?_⟩
  by_cases hi : i < ts.length
  · rw [List.getElem?_append_left hi] at e1
    rw [List.getElem?_append_left (by rw [← h.len]; exact hi)] at e2
    have hr := h.row i t' p' e1 e2
    have n1 : t' ≠ q := fun z => by rw [z, h.out] at hr; cases hr
    rw [upd_ne n1, upd_ne (ne_of_none hr ht)]
    exact hr
  · have hi' : i = ts.length := by
      have := (List.getElem?_eq_some_iff.mp e1).1
      rw [List.length_append, List.length_singleton] at this
      omega
    subst hi'
    rw [List.getElem?_append_right (Nat.le_refl _), Nat.sub_self] at e1
    rw [List.getElem?_append_right (by rw [h.len]; exact Nat.le_refl _), h.len, Nat.sub_self] at e2
    have z1 : t = t' := by simpa using e1
    have z2 : p = p' := by simpa using e2
    subst z1; subst z2
    rw [upd_ne (Ne.symm hqt), upd_same]
section
variable {P : Program} {w : World} {K : PySem.W.Frag} {mg : Str → Option Value} {base : Heap}
end
end Ink

namespace Ink
open PySem L2
/-! ### a dict whose keys are these, each with True -/
def tabT (l : List Int) : List (Key × V) := l.map fun e => ((Sum.inl e : Key), V.bl true)
theorem tabT_val : ∀ (l : List Int) (e : Int), (valV (tabT l) (Sum.inl e : Key)).isSome = decide (e ∈ l)
  | [], e => by simp [tabT, valV_nil]
  | x :: l, e => by
    by_cases hx : x = e
    · subst hx
      have : valV (tabT (x :: l)) (Sum.inl x : Key) = some (V.bl true) := valV_pos (p := ((Sum.inl x : Key), V.bl true)) rfl
      rw [this]
      simp
    · have : valV (tabT (x :: l)) (Sum.inl e : Key) = valV (tabT l) (Sum.inl e : Key) := valV_neg (p := ((Sum.inl x : Key), V.bl true)) fun z => hx (Sum.inl.inj z)
      rw [this, tabT_val l e, Bool.eq_iff_iff]
      simp [Ne.symm hx]
theorem tabT_put {l : List Int} {e : Int} (h : e ∉ l) : putK (tabT l) (Sum.inl e : Key) (V.bl true) = tabT (l ++ [e]) := by
  have hn : valV (tabT l) (Sum.inl e : Key) = none := by
    have := tabT_val l e
    rw [decide_eq_false h] at this
    exact Option.isSome_eq_false_iff.mp this |> Option.isNone_iff_eq_none.mp
  rw [putK_new _ hn]
  unfold tabT
  rw [List.map_append]
  rfl
theorem tabT_length (l : List Int) : (tabT l).length = l.length := List.length_map _
theorem tabT_keys (l : List Int) : (tabT l).map (·.1) = l.map Sum.inl := by unfold tabT; rw [List.map_map]; rfl
/-- places and the ways between them: ends at each place, the place of each end by g, the groups by lb -/
structure Net (ws : Rs) (g : Int → Int) (n : Nat) (lb : Nat → Int) (start : Nat) : Prop where
  even : n % 2 = 0
  row : ∀ r ∈ ws, r.length ≤ 1000
  ok : ∀ (i : Nat) (r : List Int) (e : Int), ws[i]? = some r → e ∈ r → (0 ≤ e ∧ e < (n : Int)) ∧ (0 ≤ g (acr e) ∧ g (acr e) < (ws.length : Int)) ∧ lb (g (acr e)).toNat = lb i
  all : ∀ S : Nat → Prop, S start → (∀ (i : Nat) (r : List Int) (e : Int), S i → ws[i]? = some r → e ∈ r → S (g (acr e)).toNat) → ∀ j, j < ws.length → lb j = lb start → S j
structure PcI (m : Nat) (lb : Nat → Int) (start : Nat) (fl wl : List Int) : Prop where
  nd : fl.Nodup
  st : (start : Int) ∈ fl
  cl : ∀ z ∈ fl, (0 ≤ z ∧ z < (m : Int)) ∧ lb z.toNat = lb start
  sub : ∀ z ∈ wl, z ∈ fl
def ClG (ws : Rs) (g : Int → Int) (fl : List Int) (z : Int) : Prop := ∀ r e, ws[z.toNat]? = some r → e ∈ r → g (acr e) ∈ fl
theorem PcI.all {ws : Rs} {g : Int → Int} {lb : Nat → Int} {n start : Nat} {fl wl : List Int} (N : Net ws g n lb start) (i : PcI ws.length lb start fl wl) (h : ∀ z ∈ fl, ClG ws g fl z) : fl.Perm (cls lb ws.length start) := by
  refine perm_of i.nd (pairwise_lt_nodup (cls_sorted _ _ _)) fun z => ?_
  rw [cls_mem]
  constructor
  · intro hz; exact i.cl z hz
  · rintro ⟨h1, h2⟩
    have key := N.all (fun k => ((k : Nat) : Int) ∈ fl) i.st (fun k r e hk hr he => ?_) z.toNat (by omega) h2
    · rw [show ((z.toNat : Nat) : Int) = z by omega] at key
      exact key
    · have := h _ hk r e (by simpa using hr) he
      have b := (N.ok k r e hr he).2.1
      rw [show (((g (acr e)).toNat : Nat) : Int) = g (acr e) by omega]
      exact this
def spPieceG : Sp := fun vs H Q _ => ∃ (p d : Addr) (ps : List Addr) (ws : Rs) (g : Int → Int) (lb : Nat → Int) (n start : Nat), vs = [.ref p, .ref d, .int start] ∧ Rows H p ps ws ∧ Net ws g n lb start ∧ ws.length < 64 ∧ TabOf H d g n ∧ start < ws.length ∧
  ∀ (l : Addr) (H' : Hp), H l = none → H' l = some (.lst ((cls lb ws.length start).map V.int)) → Same H H' → Q (.ref l) H'
section
variable {P : Program} {w : World} {K : PySem.W.Frag} {mg : Str → Option Value} {base : Heap}
theorem scPieceFrom : FnScope ["rounds", "point_of", "start", "found", "waiting", "point", "end", "other"] ["rounds", "point_of", "start"] (defScope sPieceFrom) := ⟨rfl, rfl, rfl, by decide +kernel, rfl, by decide +kernel, by decide +kernel⟩
theorem ok_pieceG {f : Addr} {fd : FuncData} (F : Fun K "piece_from" "piece_from" sPieceFrom f fd) (T : Txt mg) (DA : Def P w K mg base "across" 1 ["end"] spAcross) : FnOk P w K mg base CX0 2 f fd ["rounds", "point_of", "start"] spPieceG := by
  refine F.ok scPieceFrom (fun vs H Q E h => ?_) (fun cdv A outer s H vs Q E hr h => ?_)
  · obtain ⟨p, d, ps, ws, g, lb, n, start, rfl, _⟩ := h
    rfl
  · obtain ⟨p, d, ps, ws, g, lb, n, start, rfl, R, NT, hrs, TB, hst, k⟩ := h
    have hs : sizeLine = 16777216 := sizeLine_eq
    have nd := scPieceFrom.nd
    have hu1 := hu_of hr
    refine ⟨_, pss_cons (ps_set (i := 3) nd rfl (Or.inl rfl) (pe_disp (pps_cons (pv 2) pe_bl pps_nil) rfl rfl (by simp) (by decide)))
      (pss_cons (ps_set (i := 4) nd rfl (Or.inl rfl) (pe_lst (pa_cons (pv 2) pa_nil)))
      (pss_cons (ps_while PassesOwn.never (pt_truth (pv 4) (fun _ => rfl)) (pss_cons (ps_set (i := 5) nd rfl (Or.inl rfl) (pe_bm0 PySem.F.plainAttrs_list PySem.F.slot_list_pop PySem.F.type_list_pop mt_pop (pv 4)))
      (pss_one (ps_for PassesOwn.never rfl (pi_list (pe_ix ix_list (pv 0) (pv 5) (fun _ _ => rfl))) (pg_name (i := 6) nd rfl (Or.inl rfl)) (pss_cons (ps_set (i := 7) nd rfl (Or.inl rfl) (pe_dget hu1 (pv 1) (pcall DA hr (pa_cons (pv 6) pa_nil)) (fun _ _ => rfl)))
      (pss_one (ps_if (pt_cmp (pc_dnotin hu1 (pv 7) (pv 3))) (pss_cons (ps_dput hu1 (pv 3) (pv 7) pe_bl rfl)
      (pss_one (ps_expr (pe_bm PySem.F.plainAttrs_list PySem.F.slot_list_append PySem.F.type_list_append mt_append (pv 4) (pa_cons (pv 7) pa_nil))))) (pss_nil))))))))
      (pss_one (ps_ret (pe_callB (call_sortedD rfl) (by rfl) T.sorted PyProof.Rows.boot_sorted (pa_cons (pv 3) pa_nil)))))), ?_⟩
    intro q hq
    refine ⟨_, rfl, upd_same, [((Sum.inl (start : Int) : Key), V.bl true)], rfl, (by show 1 ≤ 15; decide), ?_⟩
    have e0 : mergeK [] [((Sum.inl (start : Int) : Key), V.bl true)] = tabT [(start : Int)] := rfl
    rw [e0]
    have s0 : Same H (L2.upd (L2.upd H q (.dK [])) q (.dK (tabT [(start : Int)]))) := ((Same.refl H).put hq).put hq
    refine ⟨_, rfl, (sz 1), fun t ht => ?_⟩
    have hqt : q ≠ t := fun z => by rw [← z, upd_same] at ht; cases ht
    have ft : H t = none := s0.free ht
    have s1 : Same H (L2.upd (L2.upd (L2.upd H q (.dK [])) q (.dK (tabT [(start : Int)]))) t (.lst [.int start])) := s0.put ft
    have hq1 : (L2.upd (L2.upd (L2.upd H q (.dK [])) q (.dK (tabT [(start : Int)]))) t (.lst [.int start])) q = some (.dK (tabT [(start : Int)])) := by rw [upd_ne hqt, upd_same]
    refine ⟨fun m σ H2 => ∃ fl wl v5 v6 v7, σ = [some (.ref p), some (.ref d), some (.int start), some (.ref q), some (.ref t), v5, v6, v7] ∧ Same H H2 ∧ H2 q = some (.dK (tabT fl)) ∧ H2 t = some (.lst (wl.map V.int)) ∧ PcI ws.length lb start fl wl ∧ (∀ z ∈ fl, z ∉ wl → ClG ws g fl z) ∧ m + 2 * fl.length = 2 * ws.length + wl.length ∧ m ≤ 2 * ws.length,
      ⟨2 * ws.length - 1, [(start : Int)], [(start : Int)], none, none, none, rfl, s1, hq1, upd_same, ⟨by simp, by simp, fun z hz => ?_, fun z hz => hz⟩, fun z hz hn => absurd hz hn, by simp; omega, by omega⟩, ?_⟩
    · have : z = start := by simpa using hz
      subst this
      exact ⟨by omega, by simp⟩
    rintro m σ H2 ⟨fl, wl, v5, v6, v7, rfl, s2, hF, hW, I2, hCl, hm, hmm⟩
    refine ⟨_, rfl, _, .inl ⟨_, .of hW, rfl⟩, ?_⟩
    have hfl : fl.length ≤ ws.length := nodup_le _ _ I2.nd fun z hz => (I2.cl z hz).1
    refine ite2 (fun h => ?_) (fun h => ?_)
    · have hne : wl ≠ [] := by
        rintro rfl
        simp at h
      obtain ⟨wl0, x, rfl⟩ : ∃ w0 x, wl = w0 ++ [x] := ⟨wl.dropLast, wl.getLast hne, (List.dropLast_concat_getLast hne).symm⟩
      have hxf : x ∈ fl := I2.sub x (by simp)
      have hxb := (I2.cl x hxf).1
      obtain ⟨r, hr'⟩ : ∃ r, ws[x.toNat]? = some r := ⟨_, List.getElem?_eq_getElem (by omega)⟩
      obtain ⟨rq, hrq, hH⟩ := R.get hr'
      have hrl : r.length ≤ 1000 := NT.row r (List.mem_of_getElem? hr')
      refine ⟨fun σ' H' => ∃ fl' wl' v5 v6 v7, σ' = [some (.ref p), some (.ref d), some (.int start), some (.ref q), some (.ref t), v5, v6, v7] ∧ Same H H' ∧ H' q = some (.dK (tabT fl')) ∧ H' t = some (.lst (wl'.map V.int)) ∧ PcI ws.length lb start fl' wl' ∧ (∀ z ∈ fl', z ∉ wl' → ClG ws g fl' z) ∧ 2 * ws.length + wl'.length + 1 ≤ m + 2 * fl'.length,
        fun σ' H' ⟨fl', wl', w5, w6, w7, a1, a2, a3, a4, a5, a6, a7⟩ => ?_, ?_⟩
      · have hfl' : fl'.length ≤ ws.length := nodup_le _ _ a5.nd fun z hz => (a5.cl z hz).1
        exact ⟨2 * ws.length + wl'.length - 2 * fl'.length, by omega, fl', wl', w5, w6, w7, a1, a2, a3, a4, a5, a6, by omega, by omega⟩
      · have hqt2 : (L2.upd H2 t (.lst ((wl0.map V.int)))) q = some (.dK (tabT fl)) := by rw [upd_ne hqt]; exact hF
        have s3 : Same H (L2.upd H2 t (.lst (wl0.map V.int))) := s2.put ft
        have hdl : ((wl0 ++ [x]).map V.int).dropLast = wl0.map V.int := by rw [List.map_append]; simp
        refine ⟨_, rfl, .inl ⟨rfl, _, .of hW⟩, t, _, .int x, rfl, rfl, hW, by simp, ?_⟩
        rw [hdl]
        refine ⟨_, rfl, _, rfl, p, _, _, _, rfl, rfl, .of (s3 _ _ R.out), ?_, rq, rfl, ⟨_, .of (s3 _ _ hH)⟩, for_list (K := K) (a := rq) (xs := r.map V.int) (fun j σ H3 => ∃ fl' wl' v6 v7, σ = [some (.ref p), some (.ref d), some (.int start), some (.ref q), some (.ref t), some (.int x), v6, v7] ∧ Same H H3 ∧ H3 q = some (.dK (tabT fl')) ∧ H3 t = some (.lst (wl'.map V.int)) ∧ PcI ws.length lb start fl' wl' ∧ (∀ z ∈ fl', z ∉ wl' → z = x ∨ ClG ws g fl' z) ∧ (∀ e ∈ r.take j, g (acr e) ∈ fl') ∧ 2 * ws.length + wl'.length + 1 ≤ m + 2 * fl'.length)
          ⟨fl, wl0, v6, v7, rfl, s3, hqt2, upd_same, ⟨I2.nd, I2.st, I2.cl, fun z hz => I2.sub z (by simp [hz])⟩, fun z hz hn => ?_, (fun e he => by simp at he), ?_⟩ (fun j σ H3 _ hh => by obtain ⟨_, _, _, _, _, s4, _⟩ := hh; exact .of (s4 _ _ hH)) ?_ ?_⟩
        · have hx0 : x = ((x.toNat : Nat) : Int) := by omega
          rw [hx0]
          exact atI_nat (by rw [List.getElem?_map, hrq]; rfl)
        · by_cases hzx : z = x
          · exact .inl hzx
          · exact .inr (hCl z hz (by simp [hn, hzx]))
        · rw [List.length_append] at hm
          simp at hm
          omega
        · rintro j z σ H3 hj ⟨fl', wl', v6, v7, rfl, s4, hF4, hW4, I4, hC4, hT4, hm4⟩
          obtain ⟨e, he, rfl⟩ := int_of hj
          have her : e ∈ r := List.mem_of_getElem? he
          obtain ⟨heb, hpl, hlb⟩ := NT.ok _ r e hr' her
          have hab := acr_lt NT.even heb.1 heb.2
          have hfl4 : fl'.length ≤ ws.length := nodup_le _ _ I4.nd fun z hz => (I4.cl z hz).1
          refine ⟨_, rfl, _, rfl, e, rfl, d, _, rfl, (TB.same s4).get hab, ?_⟩
          refine ⟨_, rfl, _, rfl, q, _, rfl, DGet.k (k := (Sum.inl (g (acr e)) : Key)) hF4, _, rfl, ?_⟩
          rw [tabT_val]
          by_cases hmem : g (acr e) ∈ fl'
          · rw [decide_eq_true hmem]
            refine iteF ⟨fl', wl', _, _, rfl, s4, hF4, hW4, I4, hC4, fun y hy => ?_, hm4⟩
            rw [take_at he] at hy
            rcases List.mem_append.mp hy with hy | hy
            · exact hT4 y hy
            · have : y = e := by simpa using hy
              rw [this]; exact hmem
          · rw [decide_eq_false hmem]
            refine iteT ?_
            have hlt : fl'.length < ws.length := by
              rcases Nat.lt_or_ge fl'.length ws.length with z | z
              · exact z
              · exfalso
                have := nodup_le ws.length (g (acr e) :: fl') (List.nodup_cons.mpr ⟨hmem, I4.nd⟩) fun y hy => by
                  rcases List.mem_cons.mp hy with hy | hy
                  · rw [hy]; omega
                  · exact (I4.cl y hy).1
                rw [List.length_cons] at this
                omega
            refine ⟨_, rfl, _, rfl, q, _, rfl, DPut.k (k := (Sum.inl (g (acr e)) : Key)) hF4 (by rw [tabT_length]; omega), ?_⟩
            have hW5 : (L2.upd H3 q (.dK (putK (tabT fl') (Sum.inl (g (acr e)) : Key) (.bl true)))) t = some (.lst (wl'.map V.int)) := by rw [upd_ne (Ne.symm hqt)]; exact hW4
            have hwl : wl'.length < 1000 := by omega
            refine ⟨_, rfl, .inl ⟨rfl, _, .of hW5⟩, _, rfl, t, _, _, rfl, rfl, hW5, by rw [List.length_map]; omega, ?_⟩
            refine ⟨fl' ++ [g (acr e)], wl' ++ [g (acr e)], _, _, rfl, (s4.put hq).put ft, ?_, ?_, ⟨?_, by simp [I4.st], fun y hy => ?_, fun y hy => ?_⟩, fun y hy hn => ?_, fun y hy => ?_, ?_⟩
            · rw [upd_ne hqt, upd_same, tabT_put hmem]
            · rw [upd_same, List.map_append]; rfl
            · refine List.nodup_append.mpr ⟨I4.nd, by simp, fun a ha b hb z => ?_⟩
              have : b = g (acr e) := by simpa using hb
              exact hmem (by rw [← this, ← z]; exact ha)
            · rcases List.mem_append.mp hy with hy | hy
              · exact I4.cl y hy
              · have : y = g (acr e) := by simpa using hy
                rw [this]
                exact ⟨by omega, hlb.trans (I2.cl x hxf).2⟩
            · rcases List.mem_append.mp hy with hy | hy
              · simp [I4.sub y hy]
              · have : y = g (acr e) := by simpa using hy
                simp [this]
            · rcases List.mem_append.mp hy with hy | hy
              · rcases hC4 y hy (fun q => hn (by simp [q])) with h1 | h1
                · exact .inl h1
                · exact .inr fun r' e' a b => by simp [h1 r' e' a b]
              · exact absurd (by simpa using hy : y = g (acr e)) fun q => hn (by simp [q])
            · rw [take_at he] at hy
              rcases List.mem_append.mp hy with hy | hy
              · simp [hT4 y hy]
              · have : y = e := by simpa using hy
                simp [this]
            · rw [List.length_append, List.length_append]
              simp
              omega
        · rintro σ H3 ⟨fl', wl', v6, v7, rfl, s4, hF4, hW4, I4, hC4, hT4, hm4⟩
          rw [List.length_map, List.take_length] at hT4
          refine ⟨fl', wl', _, _, _, rfl, s4, hF4, hW4, I4, fun z hz hn => ?_, hm4⟩
          rcases hC4 z hz hn with h1 | h1
          · subst h1
            intro r' e' a b
            rw [hr'] at a
            cases a
            exact hT4 e' b
          · exact h1
    · have hw0 : wl = [] := by
        cases wl with
        | nil => rfl
        | cons a b => exact absurd rfl h
      subst hw0
      have hperm := I2.all NT fun z hz => hCl z hz (by simp)
      refine ⟨_, rfl, q, _, fl, rfl, hF, tabT_keys fl, by omega, fun l ns' hl hp hsd => ?_⟩
      have e : ns' = cls lb ws.length start := sorted_same (hp.trans hperm) hsd ((cls_sorted _ _ _).imp fun h => by omega)
      rw [e]
      exact k l _ (s2.free hl) upd_same (s2.put (s2.free hl))
end
end Ink

namespace Ink
open PySem L2
structure TabX (H : Hp) (d : Addr) (g : Int → Int) (n : Nat) : Prop where
  ex : ∃ kvs : List (Key × V), H d = some (.dK kvs) ∧ kvs.length = n ∧ (∀ e : Int, 0 ≤ e ∧ e < n → valV kvs (Sum.inl e : Key) = some (V.int (g e))) ∧ ∀ e : Int, ¬ (0 ≤ e ∧ e < n) → valV kvs (Sum.inl e : Key) = none
theorem TabX.of {H : Hp} {d : Addr} {g : Int → Int} {n : Nat} (t : TabX H d g n) : TabOf H d g n := let ⟨kvs, a, b, c, _⟩ := t.ex; ⟨kvs, a, b, c⟩
theorem TabX.same {H H' : Hp} {d : Addr} {g : Int → Int} {n : Nat} (t : TabX H d g n) (s : Same H H') : TabX H' d g n := let ⟨kvs, a, b, c⟩ := t.ex; ⟨kvs, s _ _ a, b, c⟩
def spPointsX : Sp := fun vs H Q _ => ∃ (p : Addr) (ps : List Addr) (rs : Rs) (n : Nat), vs = [.ref p] ∧ Rows H p ps rs ∧ Dr rs n ∧ n ≤ 1000 ∧ rs.length ≤ 1000 ∧
  ∀ (d : Addr) (H' : Hp), H d = none → TabX H' d (ptI rs) n → Same H H' → Q (.ref d) H'
structure TxtS (mg : Str → Option Value) : Prop where
  set : mg "set" = none
section
variable {P : Program} {w : World} {K : PySem.W.Frag} {mg : Str → Option Value} {base : Heap}
theorem scPointsX : FnScope ["rounds", "point_of", "point", "ends", "end"] ["rounds"] (defScope sPointsOf) := ⟨rfl, rfl, rfl, by decide +kernel, rfl, by decide +kernel, by decide +kernel⟩
theorem ok_pointsX {f : Addr} {fd : FuncData} (F : Fun K "points_of_ends" "points_of_ends" sPointsOf f fd) (T : Txt mg) : FnOk P w K mg base CX0 1 f fd ["rounds"] spPointsX := by
  refine F.ok scPointsX (fun vs H Q E h => ?_) (fun cdv A outer s H vs Q E hr h => ?_)
  · obtain ⟨p, ps, rs, n, rfl, _⟩ := h
    rfl
  · obtain ⟨p, ps, rs, n, rfl, R, D, hn, hrs, k⟩ := h
    have hs : sizeLine = 16777216 := sizeLine_eq
    have nd := scPointsX.nd
    have hu1 := hu_of hr
    refine ⟨_, pss_cons (ps_set (i := 1) nd rfl (Or.inl rfl) pe_dnewK)
      (pss_cons (ps_for PassesOwn.never rfl (pi_enum (by rfl) T.enum (pa_cons (pv 0) pa_nil)) (pg_tup rfl (pgs_cons (pg_name (i := 2) nd rfl (Or.inl rfl)) (pgs_cons (pg_name (i := 3) nd rfl (Or.inl rfl)) pgs_nil))) (pss_one (ps_for PassesOwn.never rfl (pi_list (pv 3)) (pg_name (i := 4) nd rfl (Or.inl rfl)) (pss_one (ps_dput hu1 (pv 1) (pv 4) (pv 2) rfl)))))
      (pss_one (ps_ret (pv 1)))), ?_⟩
    intro d hd
    have s0 : Same H (L2.upd H d (.dK [])) := (Same.refl H).put hd
    refine ⟨_, rfl, p, rfl, ⟨_, .of (s0 _ _ R.out)⟩, for_enum (K := K) (a := p) (xs := ps.map V.ref) (fun i σ H2 => ∃ v2 v3 v4, σ = [some (.ref p), some (.ref d), v2, v3, v4] ∧ Same H H2 ∧ H2 d = some (.dK (tab (ptI rs) (rs.take i).flatten))) ⟨none, none, none, rfl, s0, upd_same⟩
      (fun i σ H2 _ hh => by obtain ⟨_, _, _, _, s2, _⟩ := hh; exact .of (s2 _ _ R.out)) ?_ ?_⟩
    · rintro i y σ H2 t hi ⟨v2, v3, v4, rfl, s2, hL⟩ ht
      obtain ⟨q, hq, rfl⟩ := ref_at hi
      obtain ⟨r, hr', hH⟩ := R.at hq
      have hrow : r.length ≤ n := row_le D (List.mem_of_getElem? hr')
      have hfl := flat_take_le rs i
      rw [D.len] at hfl
      have f2 := s2.free ht
      have s3 : Same H (L2.upd H2 t (.tup [.int (i : Int), .ref q])) := s2.put f2
      have hL3 : (L2.upd H2 t (.tup [.int (i : Int), .ref q])) d = some (.dK (tab (ptI rs) (rs.take i).flatten)) := by rw [upd_ne (ne_of_none hL ht)]; exact hL
      refine ⟨t, _, rfl, .of upd_same, rfl, _, _, rfl, _, _, rfl, rfl, ?_⟩
      refine ⟨_, rfl, q, rfl, ⟨_, .of (s3 _ _ hH)⟩, for_list (K := K) (a := q) (xs := r.map V.int) (fun j σ H3 => ∃ v4, σ = [some (.ref p), some (.ref d), some (.int (i : Int)), some (.ref q), v4] ∧ Same H H3 ∧ H3 d = some (.dK (tab (ptI rs) ((rs.take i).flatten ++ r.take j)))) ⟨v4, rfl, s3, by rw [List.take_zero, List.append_nil]; exact hL3⟩
        (fun j σ H3 _ hh => by obtain ⟨_, _, s4, _⟩ := hh; exact .of (s4 _ _ hH)) ?_ ?_⟩
      · rintro j z σ H3 hj ⟨v4, rfl, s4, hL4⟩
        obtain ⟨e, he, rfl⟩ := int_of hj
        have hjl : j < r.length := (List.getElem?_eq_some_iff.mp he).1
        have hval : (i : Int) = ptI rs e := by unfold ptI; rw [pt_uniq D.nd hr' (List.mem_of_getElem? he)]
        refine ⟨_, rfl, _, rfl, _, rfl, d, _, rfl, DPut.k (k := (Sum.inl e : Key)) hL4 (by rw [tab_length, List.length_append, List.length_take]; omega), _, rfl, s4.put hd, ?_⟩
        rw [upd_same, tab_put (take_new D.nd hr' he) hval, List.append_assoc, take_at he]
      · rintro σ H3 ⟨v4, rfl, s4, hL4⟩
        rw [List.length_map, List.take_length] at hL4
        exact ⟨_, _, _, rfl, s4, by rw [flat_take hr']; exact hL4⟩
    · rintro σ H2 ⟨v2, v3, v4, rfl, s2, hL⟩
      rw [List.length_map, R.len, List.take_length] at hL
      exact ⟨_, rfl, k d H2 hd ⟨_, hL, by rw [tab_length, D.len], fun e he => tab_val ((D.mem e).mpr he), fun e he => tab_no fun z => he ((D.mem e).mp z)⟩ s2⟩
end
def inR (n : Nat) (q : List Int) : Prop := ∀ e ∈ q, 0 ≤ e ∧ e < (n : Int)
def spRefNoEnds : Sp := fun vs H Q _ => ∃ (d a : Addr) (g : Int → Int) (n : Nat) (q : List Int), vs = [.ref d, .ref a] ∧ TabX H d g n ∧ H a = some (.lst (q.map V.int)) ∧ (inR n q → Q .non H) ∧ (¬ inR n q → False)
section
variable {P : Program} {w : World} {K : PySem.W.Frag} {mg : Str → Option Value} {base : Heap}
theorem scRefNoEnds : FnScope ["point_of", "ring", "end"] ["point_of", "ring"] (defScope sRefNoEnds) := ⟨rfl, rfl, rfl, by decide +kernel, rfl, by decide +kernel, by decide +kernel⟩
theorem ok_refNoEnds {f : Addr} {fd : FuncData} (F : Fun K "refuse_no_ends" "refuse_no_ends" sRefNoEnds f fd) : FnOk P w K mg base CX0 1 f fd ["point_of", "ring"] spRefNoEnds := by
  refine F.ok scRefNoEnds (fun vs H Q E h => ?_) (fun cdv A outer s H vs Q E hr h => ?_)
  · obtain ⟨d, a, g, n, q, rfl, _⟩ := h
    rfl
  · obtain ⟨d, a, g, n, q, rfl, TB, hA, k1, k2⟩ := h
    have nd := scRefNoEnds.nd
    have hu1 := hu_of hr
    obtain ⟨kvs, t1, t2, t3, t4⟩ := TB.ex
    refine ⟨_, pss_one (ps_for PassesOwn.never rfl (pi_list (pv 1)) (pg_name (i := 2) nd rfl (Or.inl rfl)) (pss_one (ps_if (pt_cmp (pc_dnotin hu1 (pv 2) (pv 0))) (pss_never) (pss_nil)))), ?_⟩
    refine ⟨_, rfl, a, rfl, ⟨_, .of hA⟩, for_list (K := K) (a := a) (xs := q.map V.int) (fun i σ H2 => H2 = H ∧ ∃ v2, σ = [some (.ref d), some (.ref a), v2] ∧ inR n (q.take i)) ⟨rfl, none, rfl, fun e he => by simp at he⟩ (fun i σ H2 _ hh => by obtain ⟨e, _⟩ := hh; rw [e]; exact .of hA) ?_ ?_⟩
    · rintro i x σ H2 hi ⟨rfl, v2, rfl, hin⟩
      obtain ⟨e, he, rfl⟩ := int_of hi
      refine ⟨_, rfl, _, rfl, d, _, rfl, DGet.k (k := (Sum.inl e : Key)) t1, _, rfl, ?_⟩
      by_cases hr' : 0 ≤ e ∧ e < (n : Int)
      · rw [t3 e hr']
        refine iteF ⟨rfl, _, rfl, fun y hy => ?_⟩
        rw [take_at he] at hy
        rcases List.mem_append.mp hy with z | z
        · exact hin y z
        · have : y = e := by simpa using z
          rw [this]; exact hr'
      · rw [t4 e hr']
        exact iteT (k2 fun z => hr' (z e (List.mem_of_getElem? he)))
    · rintro σ H2 ⟨rfl, v2, rfl, hin⟩
      rw [List.length_map, List.take_length] at hin
      exact k1 hin
/-! ### does it lead round -/
def leadsB (g : Int → Int) (q : List Int) : Prop := (q.map fun e => g (acr e)) = (q.map g).drop 1 ++ (q.map g).take 1
instance (g : Int → Int) (q : List Int) : Decidable (leadsB g q) := by unfold leadsB; infer_instance
def spLeads : Sp := fun vs H Q _ => ∃ (d a : Addr) (g : Int → Int) (n : Nat) (q : List Int), vs = [.ref d, .ref a] ∧ TabOf H d g n ∧ n % 2 = 0 ∧ H a = some (.lst (q.map V.int)) ∧ inR n q ∧ q.length ≤ 1000 ∧ ∀ H', Same H H' → Q (.bl (decide (leadsB g q))) H'
theorem scLeads : FnScope ["point_of", "ring", "starts", "goals"] ["point_of", "ring"] (defScope sLeads) := ⟨rfl, rfl, rfl, by decide +kernel, rfl, by decide +kernel, by decide +kernel⟩
theorem cut_one (ns : List Int) : cutV (ns.map V.int) (some 1) none = (ns.drop 1).map V.int := by
  unfold cutV
  have e1 : HT.sIx (ns.map V.int).length 0 (some 1) = min 1 (ns.map V.int).length := sIx_le (k := 1)
  have e2 : HT.sIx (ns.map V.int).length (ns.map V.int).length none = (ns.map V.int).length := rfl
  rw [e1, e2, List.length_map, ← List.map_drop, ← List.map_take]
  congr 1
  cases ns with
  | nil => rfl
  | cons x t =>
    rw [show min 1 (x :: t).length = 1 by rw [List.length_cons]; omega]
    exact List.take_of_length_le (by rw [List.length_drop]; exact Nat.le_refl _)
theorem cut_to1 (ns : List Int) : cutV (ns.map V.int) none (some 1) = (ns.take 1).map V.int := by
  unfold cutV
  have e1 : HT.sIx (ns.map V.int).length (ns.map V.int).length (some 1) = min 1 (ns.map V.int).length := sIx_le (k := 1)
  have e2 : HT.sIx (ns.map V.int).length 0 none = 0 := rfl
  rw [e1, e2, List.drop_zero, List.length_map, Nat.sub_zero, ← List.map_take]
  congr 1
  cases ns with
  | nil => rfl
  | cons x t => rw [show min 1 (x :: t).length = 1 by rw [List.length_cons]; omega]
theorem ok_leads {f : Addr} {fd : FuncData} (F : Fun K "leads_round" "leads_round" sLeads f fd) (T : Txt mg) (DA : Def P w K mg base "across" 1 ["end"] spAcross) : FnOk P w K mg base CX0 2 f fd ["point_of", "ring"] spLeads := by
  refine F.ok scLeads (fun vs H Q E h => ?_) (fun cdv A outer s H vs Q E hr1 h => ?_)
  · obtain ⟨d, a, g, n, q, rfl, _⟩ := h
    rfl
  · obtain ⟨d, a, g, n, q, rfl, TB, hev, hA, hin, hl, k⟩ := h
    have hs : sizeLine = 16777216 := sizeLine_eq
    have nd := scLeads.nd
    have hu := hr1.units
    have hu1 := hu_of hr1
    refine ⟨_, pss_cons (ps_setComp (i0 := 2) (te := _) nd rfl (Or.inl rfl) rfl (Blk.captN (caps := [0]) ["point_of", "ring", "starts", "goals"] (defScope sLeads).names rfl rfl rfl (by decide +kernel) (by decide +kernel) (by decide +kernel)) (pi_list (pv 1)) (fun _ _ _ _ => pts_nil) (fun _ _ _ _ => (pe_dget hu1 (pv 1) (pv 0) (fun _ _ => rfl))))
      (pss_cons (ps_setComp (i0 := 3) (te := _) nd rfl (Or.inl rfl) rfl (Blk.captN (caps := [0]) ["point_of", "ring", "starts", "goals"] (defScope sLeads).names rfl rfl rfl (by decide +kernel) (by decide +kernel) (by decide +kernel)) (pi_list (pv 1)) (fun _ _ _ _ => pts_nil) (fun _ _ _ _ => (pe_dget hu1 (pv 1) (pcall DA hr1 (pa_cons (pv 0) pa_nil)) (fun _ _ => rfl))))
      (pss_one (ps_ret (pe_cmpR (op_eqD hu) (pv 3) (pe_op op_cat (pe_slice sl_list (pv 2) (po_some pe_int) po_none) (pe_slice sl_list (pv 2) po_none (po_some pe_int))) (nomark _))))), ?_⟩
    refine ⟨_, rfl, a, rfl, ⟨_, .of hA⟩, fun e1 hE1 => comp_list (xs := q.map V.int) (fun j H2 => Same H H2 ∧ H2 e1 = some (.lst (((q.take j).map g).map V.int))) ⟨(Same.refl H).put hE1, upd_same⟩ (fun j H2 _ hh => by obtain ⟨s2, _⟩ := hh; exact .of (s2 _ _ hA)) ?_ ?_⟩
    · rintro j z H2 hj ⟨s2, hL⟩
      obtain ⟨x, hx, rfl⟩ := int_of hj
      have hjl : j < q.length := (List.getElem?_eq_some_iff.mp hx).1
      refine yes_go ⟨_, rfl, _, rfl, d, _, rfl, (TB.same s2).get (hin x (List.mem_of_getElem? hx)), _, hL, (by rw [List.length_map, List.length_map, List.length_take]; omega), s2.put hE1, ?_⟩
      rw [upd_same, take_at hx, List.map_append, List.map_append]; rfl
    rintro H1 ⟨s1, hL1⟩
    rw [List.length_map, List.take_length] at hL1
    have hA1 := s1 _ _ hA
    refine ⟨_, rfl, a, rfl, ⟨_, .of hA1⟩, fun e2 hE2 => comp_list (xs := q.map V.int) (fun j H2 => Same H1 H2 ∧ H2 e2 = some (.lst (((q.take j).map fun e => g (acr e)).map V.int))) ⟨(Same.refl H1).put hE2, upd_same⟩ (fun j H2 _ hh => by obtain ⟨s2, _⟩ := hh; exact .of (s2 _ _ hA1)) ?_ ?_⟩
    · rintro j z H2 hj ⟨s2, hL⟩
      obtain ⟨x, hx, rfl⟩ := int_of hj
      have hjl : j < q.length := (List.getElem?_eq_some_iff.mp hx).1
      have hxr := hin x (List.mem_of_getElem? hx)
      refine yes_go ⟨_, rfl, _, rfl, x, rfl, d, _, rfl, ((TB.same s1).same s2).get (acr_lt hev hxr.1 hxr.2), _, hL, (by rw [List.length_map, List.length_map, List.length_take]; omega), s2.put hE2, ?_⟩
      rw [upd_same, take_at hx, List.map_append, List.map_append]; rfl
    rintro H2 ⟨s2, hL2⟩
    rw [List.length_map, List.take_length] at hL2
    have hL1' := s2 _ _ hL1
    refine ⟨_, rfl, _, rfl, _, rfl, e1, _, rfl, .of hL1', fun u1 hu1' => ?_⟩
    rw [cut_one]
    have w1 : Same H2 (L2.upd H2 u1 (.lst (((q.map g).drop 1).map V.int))) := (Same.refl H2).put hu1'
    have hU1 := upd_same (H := H2) (a := u1) (o := .lst (((q.map g).drop 1).map V.int))
    generalize L2.upd H2 u1 (.lst (((q.map g).drop 1).map V.int)) = H3 at w1 hU1
    refine ⟨_, rfl, _, rfl, e1, _, rfl, .of (w1 _ _ hL1'), fun u2 hu2 => ?_⟩
    rw [cut_to1]
    have w2 : Same H3 (L2.upd H3 u2 (.lst (((q.map g).take 1).map V.int))) := (Same.refl H3).put hu2
    have hU2 := upd_same (H := H3) (a := u2) (o := .lst (((q.map g).take 1).map V.int))
    generalize L2.upd H3 u2 (.lst (((q.map g).take 1).map V.int)) = H4 at w2 hU2
    refine ⟨u1, u2, _, _, rfl, rfl, w2 _ _ hU1, hU2, (by simp only [List.length_map, List.length_drop, List.length_take]; omega), fun u3 hu3 => ?_⟩
    have eU : ((q.map g).drop 1).map V.int ++ ((q.map g).take 1).map V.int = ((q.map g).drop 1 ++ (q.map g).take 1).map V.int := List.map_append.symm
    rw [eU]
    have w3 : Same H4 (L2.upd H4 u3 (.lst (((q.map g).drop 1 ++ (q.map g).take 1).map V.int))) := (Same.refl H4).put hu3
    refine ⟨intsD (q.map fun e => g (acr e)), intsD ((q.map g).drop 1 ++ (q.map g).take 1), .ints (.of (w3 _ _ (w2 _ _ (w1 _ _ hL2)))), .ints (.of upd_same), lay_ints _, lay_ints _, Nat.le_trans (depth_ints _) (by decide), ?_⟩
    rw [eqv_ints]
    exact k _ ((((s1.trans s2).trans w1).trans w2).trans w3)
def spTwice : Sp := fun vs H Q _ => ∃ (a : Addr) (ns : List Int), vs = [.ref a] ∧ H a = some (.lst (ns.map V.int)) ∧ ns.length ≤ 1000 ∧ Q (.bl (decide ns.Nodup)) H
theorem nodup_len {ns D : List Int} (nd : D.Nodup) (hm : ∀ z, z ∈ D ↔ z ∈ ns) : D.length = ns.length ↔ ns.Nodup := by
  constructor
  · intro h
    apply Classical.byContradiction
    intro hn
    have : ∃ z rest, ns.Perm (z :: rest) ∧ z ∈ rest := by
      clear h hm nd
      induction ns with
      | nil => exact absurd List.nodup_nil hn
      | cons x t ih =>
        by_cases hx : x ∈ t
        · exact ⟨x, t, .refl _, hx⟩
        · obtain ⟨z, rest, p, hz⟩ := ih fun q => hn (List.nodup_cons.mpr ⟨hx, q⟩)
          exact ⟨z, x :: rest, (p.cons x).trans (.swap z x rest), List.mem_cons_of_mem _ hz⟩
    obtain ⟨z, rest, p, hz⟩ := this
    have h1 := sub_len nd (b := rest) fun y hy => by
      have := p.mem_iff.mp ((hm y).mp hy)
      rcases List.mem_cons.mp this with q | q
      · rw [q]; exact hz
      · exact q
    have h2 := p.length_eq
    rw [List.length_cons] at h2
    omega
  · intro h
    have h1 := sub_len nd (b := ns) fun y hy => (hm y).mp hy
    have h2 := sub_len h (b := D) fun y hy => (hm y).mpr hy
    omega
theorem scTwice : FnScope ["numbers"] ["numbers"] (defScope sTwice) := ⟨rfl, rfl, rfl, by decide +kernel, rfl, by decide +kernel, by decide +kernel⟩
theorem ok_twice {f : Addr} {fd : FuncData} (F : Fun K "nothing_twice" "nothing_twice" sTwice f fd) (T : Txt mg) (T3 : TxtS mg) : FnOk P w K mg base CX0 1 f fd ["numbers"] spTwice := by
  refine F.ok scTwice (fun vs H Q E h => ?_) (fun cdv A outer s H vs Q E hr h => ?_)
  · obtain ⟨a, ns, rfl, _⟩ := h
    rfl
  · obtain ⟨a, ns, rfl, hA, hl, k⟩ := h
    have hs : sizeLine = 16777216 := sizeLine_eq
    refine ⟨_, pss_one (ps_ret (pe_cmpR op_eq (pe_lenSet rfl (by rfl) T.len (by rfl) T3.set (pa_cons (pv 0) pa_nil)) (pe_callB call_len_seq (by rfl) T.len PySem.boot_len (pa_cons (pv 0) pa_nil)) (nomark _))), ?_⟩
    refine ⟨_, rfl, a, ns, rfl, .of hA, hl, fun D nd hm => ⟨_, rfl, a, _, rfl, .inl (.of hA), rfl, ?_⟩⟩
    have e : decide (V.int ((D.length : Nat) : Int) = V.int (((ns.map V.int).length : Nat) : Int)) = decide ns.Nodup := by
      rw [Bool.eq_iff_iff, decide_eq_true_eq, decide_eq_true_eq, ← nodup_len nd hm, List.length_map]
      exact ⟨fun z => by injection z with z; omega, fun z => by rw [z]⟩
    rw [e]
    exact k
end
end Ink

namespace Ink
open PySem L2
def ofN (R : List Nat) : List Int := R.map fun (k : Nat) => (k : Int)
theorem ofN_length (R : List Nat) : (ofN R).length = R.length := List.length_map _
theorem ofN_at {R : List Nat} {i : Nat} {e : Int} (h : (ofN R)[i]? = some e) : ∃ r, R[i]? = some r ∧ e = (r : Int) := by
  unfold ofN at h
  rw [List.getElem?_map] at h
  cases q : R[i]? with
  | none => rw [q] at h; cases h
  | some r => rw [q] at h; exact ⟨r, rfl, (Option.some.inj h).symm⟩
theorem ofN_append (A B : List Nat) : ofN (A ++ B) = ofN A ++ ofN B := List.map_append
theorem rows_map {K : PySem.W.Frag} {p D : Addr} {ps : List Addr} {rs : Rs} {H : Hp} {Qd : Hp → Prop} {cσ : St} {tc : TT} {te : TE} (g : List Int → List Int) (R : Rows H p ps rs) (hD : H D = none) (hsz : rs.length ≤ 1000)
    (step : ∀ (q : Addr) (r : List Int) (H2 : Hp) (k : V → Hp → Prop) (N : Hp → Prop), r ∈ rs → Same H H2 → H2 q = some (.lst (r.map V.int)) → (∀ (l : Addr) (H4 : Hp), H2 l = none → H4 l = some (.lst ((g r).map V.int)) → Same H2 H4 → k (.ref l) H4) →
      tc (some (.ref q) :: cσ) H2 fun b H3 => if b = true then te (some (.ref q) :: cσ) H3 k else N H3)
    (fin : ∀ (qs : List Addr) (H' : Hp), Same H H' → Rows H' D qs (rs.map g) → (∀ q ∈ qs, H q = none) → Qd H') :
    ∃ W : Nat → Nat → Hp → Prop, (∃ m, W 0 m (upd H D (.lst []))) ∧ ∀ i m H, W i m H →
      ((Itl K p).stop i H ∧ Qd H) ∨ ((Itl K p).go i H ∧ ∃ N : Hp → Prop, (∀ H', N H' → ∃ m', m' < m ∧ W (i + 1) m' H') ∧ ∀ x H', (Itl K p).yld i H x H' →
        tc (some x :: cσ) H' fun b H3 => if b = true then te (some x :: cσ) H3 fun y H4 => ∃ ys, H4 D = some (.lst ys) ∧ ys.length < sizeLine ∧ N (upd H4 D (.lst (ys ++ [y]))) else N H3) := by
  have hs : sizeLine = 16777216 := sizeLine_eq
  refine comp_list (xs := ps.map V.ref) (fun i H2 => ∃ qs : List Addr, Same H H2 ∧ Rows H2 D qs ((rs.take i).map g) ∧ ∀ q ∈ qs, H q = none)
    ⟨[], (Same.refl H).put hD, ⟨upd_same, List.nodup_nil, rfl, fun i q r e => by simp at e⟩, fun q hq => by cases hq⟩ (fun i H2 _ hh => by obtain ⟨_, s2, _⟩ := hh; exact .of (s2 _ _ R.out)) ?_ ?_
  · rintro i y H2 hi ⟨qs, s2, R2, hn⟩
    obtain ⟨q, hq, rfl⟩ := ref_at hi
    obtain ⟨r, hr, hH⟩ := R.at hq
    have hlen : qs.length ≤ 1000 := by rw [R2.len, List.length_map, List.length_take]; omega
    refine step q r H2 _ _ (List.mem_of_getElem? hr) s2 (s2 _ _ hH) fun l H4 hl hL s4 => ?_
    have R4 := R2.same s4
    refine ⟨qs.map V.ref, R4.out, by rw [List.length_map]; omega, qs ++ [l], (s2.trans s4).put hD, ?_, fun a ha => ?_⟩
    · have hlD : l ≠ D := fun z => by rw [z, R2.out] at hl; cases hl
      have R5 := R4.snoc (r := g r) hL (mem_ne R2 hl) hlD
      rw [take_at hr, List.map_append]
      exact R5
    · rcases List.mem_append.mp ha with z | z
      · exact hn a z
      · have : a = l := by simpa using z
        subst this
        exact s2.free hl
  · rintro H2 ⟨qs, s2, R2, hn⟩
    rw [List.length_map, R.len, List.take_length] at R2
    exact fin qs H2 s2 R2 hn
end Ink

namespace Ink
open PySem L2
def RingB (g : Int → Int) (q : List Int) : Prop := q ≠ [] ∧ leadsB g q ∧ (q.map g).Nodup ∧ (q.map fun e => e / 2).Nodup
def spRefNoRing : Sp := fun vs H Q _ => ∃ (d a : Addr) (g : Int → Int) (n : Nat) (q : List Int), vs = [.ref d, .ref a] ∧ TabOf H d g n ∧ n % 2 = 0 ∧ H a = some (.lst (q.map V.int)) ∧ inR n q ∧ q.length ≤ 1000 ∧ (RingB g q → ∀ H', Same H H' → Q .non H') ∧ (¬ RingB g q → ∀ H', Same H H' → False)
section
variable {P : Program} {w : World} {K : PySem.W.Frag} {mg : Str → Option Value} {base : Heap}
theorem scRefNoRing : FnScope ["point_of", "ring"] ["point_of", "ring"] (defScope sRefNoRing) := ⟨rfl, rfl, rfl, by decide +kernel, rfl, by decide +kernel, by decide +kernel⟩
theorem ok_refNoRing {f : Addr} {fd : FuncData} (F : Fun K "refuse_no_ring" "refuse_no_ring" sRefNoRing f fd) (T : Txt mg) (DL : Def P w K mg base "leads_round" 2 ["point_of", "ring"] spLeads) (DT : Def P w K mg base "nothing_twice" 1 ["numbers"] spTwice) : FnOk P w K mg base CX0 3 f fd ["point_of", "ring"] spRefNoRing := by
  refine F.ok scRefNoRing (fun vs H Q E h => ?_) (fun cdv A outer s H vs Q E hr2 h => ?_)
  · obtain ⟨d, a, g, n, q, rfl, _⟩ := h
    rfl
  · obtain ⟨d, a, g, n, q, rfl, TB, hev, hA, hin, hl, k1, k2⟩ := h
    have hs : sizeLine = 16777216 := sizeLine_eq
    have nd := scRefNoRing.nd
    have hr1 : Room 1 _ := hr2.mono (by decide)
    have hu1 := hu_of hr2
    refine ⟨_, pss_cons (ps_if (pt_cmpR op_eq (pe_callB call_len_seq (by rfl) T.len PySem.boot_len (pa_cons (pv 1) pa_nil)) pe_int (nomark _)) (pss_never) (pss_nil))
      (pss_cons (ps_if (pt_not (pt_val (pcall DL hr2 (pa_cons (pv 0) (pa_cons (pv 1) pa_nil))))) (pss_never) (pss_nil))
      (pss_cons (ps_if (pt_not (pt_val (pcall DT hr1 (pa_cons (pe_compC (te := _) rfl (Blk.captN (caps := [0]) ["point_of", "ring"] (defScope sRefNoRing).names rfl rfl rfl (by decide +kernel) (by decide +kernel) (by decide +kernel)) (pi_list (pv 1)) (fun _ _ _ _ => pts_nil) (fun _ _ _ _ => (pe_dget hu1 (pv 1) (pv 0) (fun _ _ => rfl)))) pa_nil)))) (pss_never) (pss_nil))
      (pss_one (ps_if (pt_not (pt_val (pcall DT hr1 (pa_cons (pe_comp (te := _) rfl (Blk.plain rfl (by decide +kernel) (by decide +kernel)) (pi_list (pv 1)) (fun _ _ _ _ => pts_nil) (fun _ _ _ _ => (pe_op op_fdiv (pv 0) pe_int))) pa_nil)))) (pss_never) (pss_nil))))), ?_⟩
    refine ⟨_, rfl, a, _, rfl, .inl (.of hA), rfl, _, rfl, ?_⟩
    refine ite2 (fun h0 => ?_) (fun h0 => ?_)
    · refine k2 (fun z => z.1 ?_) H (Same.refl H)
      have := of_decide_eq_true h0
      injection this with this
      rw [List.length_map] at this
      exact List.length_eq_zero_iff.mp (by omega)
    have hne : q ≠ [] := fun z => h0 (by rw [z]; rfl)
    refine ⟨_, rfl, _, rfl, d, a, g, n, q, rfl, TB, hev, hA, hin, hl, fun H1 s1 => ⟨_, rfl, ?_⟩⟩
    by_cases hld0 : ¬ (leadsB g q)
    · have hld := hld0
      rw [decide_eq_false hld]
      exact iteT (k2 (fun z => hld z.2.1) H1 s1)
    have hld : leadsB g q := Classical.not_not.mp hld0
    rw [decide_eq_true hld]
    refine iteF ?_
    have hA1 := s1 _ _ hA
    refine ⟨_, rfl, a, rfl, ⟨_, .of hA1⟩, fun e1 hE1 => comp_list (xs := q.map V.int) (fun j H2 => Same H1 H2 ∧ H2 e1 = some (.lst (((q.take j).map g).map V.int))) ⟨(Same.refl H1).put hE1, upd_same⟩ (fun j H2 _ hh => by obtain ⟨s2, _⟩ := hh; exact .of (s2 _ _ hA1)) ?_ ?_⟩
    · rintro j z H2 hj ⟨s2, hL⟩
      obtain ⟨x, hx, rfl⟩ := int_of hj
      have hjl : j < q.length := (List.getElem?_eq_some_iff.mp hx).1
      refine yes_go ⟨_, rfl, _, rfl, d, _, rfl, ((TB.same s1).same s2).get (hin x (List.mem_of_getElem? hx)), _, hL, (by rw [List.length_map, List.length_map, List.length_take]; omega), s2.put hE1, ?_⟩
      rw [upd_same, take_at hx, List.map_append, List.map_append]; rfl
    rintro H2 ⟨s2, hL1⟩
    rw [List.length_map, List.take_length] at hL1
    refine ⟨e1, q.map g, rfl, hL1, (by rw [List.length_map]; exact hl), _, rfl, ?_⟩
    by_cases hp0 : ¬ (q.map g).Nodup
    · have hp := hp0
      rw [decide_eq_false hp]
      exact iteT (k2 (fun z => hp z.2.2.1) H2 (s1.trans s2))
    have hp : (q.map g).Nodup := Classical.not_not.mp hp0
    rw [decide_eq_true hp]
    refine iteF ?_
    have hA2 := s2 _ _ hA1
    refine ⟨_, rfl, a, rfl, ⟨_, .of hA2⟩, fun e2 hE2 => comp_list (xs := q.map V.int) (fun j H3 => Same H2 H3 ∧ H3 e2 = some (.lst (((q.take j).map fun e => e / 2).map V.int))) ⟨(Same.refl H2).put hE2, upd_same⟩ (fun j H3 _ hh => by obtain ⟨s3, _⟩ := hh; exact .of (s3 _ _ hA2)) ?_ ?_⟩
    · rintro j z H3 hj ⟨s3, hL⟩
      obtain ⟨x, hx, rfl⟩ := int_of hj
      have hjl : j < q.length := (List.getElem?_eq_some_iff.mp hx).1
      refine yes_go ⟨_, rfl, _, _, rfl, rfl, ⟨by decide, by decide⟩, _, hL, (by rw [List.length_map, List.length_map, List.length_take]; omega), s3.put hE2, ?_⟩
      rw [upd_same, take_at hx, List.map_append, List.map_append]; rfl
    rintro H3 ⟨s3, hL2⟩
    rw [List.length_map, List.take_length] at hL2
    refine ⟨e2, q.map fun e => e / 2, rfl, hL2, (by rw [List.length_map]; exact hl), _, rfl, ?_⟩
    by_cases hp20 : ¬ (q.map fun e => e / 2).Nodup
    · have hp2 := hp20
      rw [decide_eq_false hp2]
      exact iteT (k2 (fun z => hp2 z.2.2.2) H3 ((s1.trans s2).trans s3))
    have hp2 : (q.map fun e => e / 2).Nodup := Classical.not_not.mp hp20
    rw [decide_eq_true hp2]
    exact iteF (k1 ⟨hne, hld, hp, hp2⟩ H3 ((s1.trans s2).trans s3))
def offRow (R r : List Int) : List Int := r.filter fun e => decide (e / 2 ∉ R)
def spOff : Sp := fun vs H Q _ => ∃ (q l : Addr) (r R : List Int), vs = [.ref q, .ref l] ∧ H q = some (.lst (r.map V.int)) ∧ H l = some (.lst (R.map V.int)) ∧ r.length ≤ 1000 ∧
  ∀ (b : Addr) (H' : Hp), H b = none → H' b = some (.lst ((offRow R r).map V.int)) → Same H H' → Q (.ref b) H'
theorem scOffRopes : FnScope ["ends", "ropes"] ["ends", "ropes"] (defScope sOffRopes) := ⟨rfl, rfl, rfl, by decide +kernel, rfl, by decide +kernel, by decide +kernel⟩
theorem ok_off {f : Addr} {fd : FuncData} (F : Fun K "ends_off_ropes" "ends_off_ropes" sOffRopes f fd) : FnOk P w K mg base CX0 1 f fd ["ends", "ropes"] spOff := by
  refine F.ok scOffRopes (fun vs H Q E h => ?_) (fun cdv A outer s H vs Q E hr h => ?_)
  · obtain ⟨q, l, r, R, rfl, _⟩ := h
    rfl
  · obtain ⟨q, l, r, R, rfl, hQ, hL, hR, k⟩ := h
    have hs : sizeLine = 16777216 := sizeLine_eq
    have nd := scOffRopes.nd
    refine ⟨_, pss_one (ps_ret (pe_compC (te := tVar 0) (tc := tTest (tOp (rIn K true) (tOp (rI CDiv fun i j => .int (i / j)) (tVar 0) (tC (.int 2))) (tVar 1))) rfl (Blk.captN (caps := [1]) ["ends", "ropes"] (defScope sOffRopes).names rfl rfl rfl (by decide +kernel) (by decide +kernel) (by decide +kernel)) (pi_list (pv 0)) (fun _ _ _ _ => pts_one (pt_cmpR op_notIn_seq (pe_op op_fdiv (pv 0) pe_int) (pv 1) rfl)) (fun _ _ _ _ => pv 0))), ?_⟩
    refine ⟨_, rfl, q, rfl, ⟨_, .of hQ⟩, fun e hE => comp_list (xs := r.map V.int) (fun j H4 => Same H H4 ∧ H4 e = some (.lst ((offRow R (r.take j)).map V.int))) ⟨(Same.refl _).put hE, upd_same⟩ (fun j H4 _ hh => by obtain ⟨s4, _⟩ := hh; exact .of (s4 _ _ hQ)) ?_ ?_⟩
    · rintro j z H4 hj ⟨s4, hL5⟩
      obtain ⟨x, hx, rfl⟩ := int_of hj
      have hjl : j < r.length := (List.getElem?_eq_some_iff.mp hx).1
      have hb : (offRow R (r.take j)).length ≤ j := Nat.le_trans (List.length_filter_le _ _) (by rw [List.length_take]; omega)
      refine ⟨_, rfl, _, _, rfl, rfl, ⟨by decide, by decide⟩, _, rfl, l, _, rfl, .inl (.of (s4 _ _ hL)), rfl, flat_ints _, _, rfl, ?_⟩
      show if (!inV (V.int (x / 2)) (R.map V.int)) = true then _ else _
      rw [in_ints]
      refine ite2 (fun hin => ?_) (fun hin => ?_)
      · have hin' : x / 2 ∉ R := fun z => by
          rw [decide_eq_true z] at hin
          exact absurd hin (by decide)
        refine ⟨_, rfl, _, hL5, (by rw [List.length_map]; omega), s4.put hE, ?_⟩
        rw [upd_same, take_at hx]
        unfold offRow
        rw [List.filter_append, List.filter_cons, if_pos (by simpa using hin'), List.map_append]
        rfl
      · have hin' : x / 2 ∈ R := by
          apply Classical.byContradiction
          intro z
          exact hin (by rw [decide_eq_false z]; rfl)
        refine ⟨s4, ?_⟩
        rw [take_at hx]
        unfold offRow at hL5 ⊢
        rw [List.filter_append, List.filter_cons, if_neg (by simpa using hin'), List.filter_nil, List.append_nil]
        exact hL5
    · rintro H4 ⟨s4, hL5⟩
      rw [List.length_map, List.take_length] at hL5
      exact k e H4 hE hL5 s4
end
/-! ### the ways off the ring -/
def rlb (fs : Rs) (n : Nat) (q : List Int) (i : Nat) : Int := (jn fs (openR n q)).getD i 0
theorem rope_in {q : List Int} {n : Nat} (hin : inR n q) {e : Int} (he : 0 ≤ e) : rope e ∈ q.map rope ↔ e / 2 ∈ q.map fun e => e / 2 := by
  rw [List.mem_map, List.mem_map]
  constructor
  · rintro ⟨x, hx, h⟩
    have := (hin x hx).1
    exact ⟨x, hx, by unfold rope at h; omega⟩
  · rintro ⟨x, hx, h⟩
    exact ⟨x, hx, by unfold rope; rw [h]⟩
theorem ways_net {fs : Rs} {n start : Nat} {q : List Int} (d : Dr fs n) (hn : n ≤ 1000) (hin : inR n q) (hst : start < fs.length) : Net (fs.map (offRow (q.map fun e => e / 2))) (ptI fs) n (rlb fs n q) start := by
  have hO := openR_lt d.even q
  have isO : ∀ e : Int, 0 ≤ e ∧ e < (n : Int) → (rope e ∈ openR n q ↔ e / 2 ∉ q.map fun e => e / 2) := fun e he => by
    rw [openR_mem, rope_in hin he.1]
    exact ⟨fun z => z.2, fun z => ⟨rope_lt d.even he, z⟩⟩
  have lblen : (fs.map (offRow (q.map fun e => e / 2))).length = fs.length := List.length_map _
  refine ⟨d.even, fun r hr => ?_, fun i r e hr he => ?_, fun S h0 hS j hj hl => ?_⟩
  · obtain ⟨r0, h0, rfl⟩ := List.mem_map.mp hr
    have := row_le d h0
    exact Nat.le_trans (List.length_filter_le _ _) (by omega)
  · rw [List.getElem?_map] at hr
    cases h : fs[i]? with
    | none => rw [h] at hr; cases hr
    | some r0 =>
      rw [h] at hr
      cases hr
      obtain ⟨he0, heq⟩ := List.mem_filter.mp he
      have heR := (d.mem e).mp (List.mem_flatten.mpr ⟨r0, List.mem_of_getElem? h, he0⟩)
      have aR := acr_lt d.even heR.1 heR.2
      have hp := d.pt_lt aR
      refine ⟨heR, ⟨by unfold ptI; omega, by rw [lblen]; unfold ptI; omega⟩, ?_⟩
      have := jl_acr d hO heR.1 ((isO e heR).mpr (by simpa using heq))
      unfold jl at this
      unfold rlb ptI
      rw [Int.toNat_natCast, this, pt_uniq d.nd h he0]
  · rw [lblen] at hj
    refine (heads_closed (rp_below d hO) S (fun p hp => ?_) j start hj hst hl).mpr h0
    obtain ⟨k, hk, rfl⟩ := List.mem_map.mp hp
    have hkn := hO k hk
    have b0 : 0 ≤ 2 * (k : Int) ∧ 2 * (k : Int) < n := by omega
    have b1 : 0 ≤ 2 * (k : Int) + 1 ∧ 2 * (k : Int) + 1 < (n : Int) := by omega
    have o0 := (isO _ b0).mp (by rw [rope_even]; exact hk)
    have o1 := (isO _ b1).mp (by rw [rope_odd]; exact hk)
    obtain ⟨r0, hr0, m0⟩ := row_of d b0
    obtain ⟨r1, hr1, m1⟩ := row_of d b1
    constructor
    · intro hz
      have := hS _ (offRow (q.map fun e => e / 2) r0) (2 * (k : Int)) hz (by show (fs.map _)[pt fs (2 * (k : Int))]? = _; rw [List.getElem?_map, hr0]; rfl) (List.mem_filter.mpr ⟨m0, by simpa using o0⟩)
      rw [acr_even] at this
      exact this
    · intro hz
      have := hS _ (offRow (q.map fun e => e / 2) r1) (2 * (k : Int) + 1) hz (by show (fs.map _)[pt fs (2 * (k : Int) + 1)]? = _; rw [List.getElem?_map, hr1]; rfl) (List.mem_filter.mpr ⟨m1, by simpa using o1⟩)
      rw [acr_odd] at this
      exact this
end Ink

namespace Ink
open PySem L2
/-- the answer of sides: a tuple at t -/
def Told (H' : Hp) (t : Addr) (A B : List Int) : Prop := (A = B ∧ ∃ l, H' t = some (.tup [.str "one", .ref l]) ∧ H' l = some (.lst (A.map V.int))) ∨ (A ≠ B ∧ ∃ l1 l2, H' t = some (.tup [.str "two", .ref l1, .ref l2]) ∧ l1 ≠ l2 ∧ H' l1 = some (.lst (A.map V.int)) ∧ H' l2 = some (.lst (B.map V.int)))
def spSides : Sp := fun vs H Q _ => ∃ (p a : Addr) (ps : List Addr) (rs : Rs) (n : Nat) (q : List Int), vs = [.ref p, .ref a] ∧ Rows H p ps rs ∧ Dr rs n ∧ n < 64 ∧ rs.length < 64 ∧ H a = some (.lst (q.map V.int)) ∧ q.length ≤ 1000 ∧
  (¬ inR n q → ∀ H', Same H H' → False) ∧ (inR n q → ¬ RingB (ptI rs) q → ∀ H', Same H H' → False) ∧
  (inR n q → RingB (ptI rs) q → ∀ (fs : Rs) (t : Addr) (H' : Hp), Fcs (stp rs) n fs → H t = none → Told H' t (cls (rlb fs n q) fs.length (pt fs (q.headD 0))) (cls (rlb fs n q) fs.length (pt fs (acr (q.headD 0)))) → Same H H' → Q (.ref t) H')
section
variable {P : Program} {w : World} {K : PySem.W.Frag} {mg : Str → Option Value} {base : Heap}
theorem scSides : FnScope ["rounds", "ring", "point_of", "told", "face_of", "ropes", "ways", "one", "other"] ["rounds", "ring"] (defScope sSides) := ⟨rfl, rfl, rfl, by decide +kernel, rfl, by decide +kernel, by decide +kernel⟩
set_option maxHeartbeats 4000000 in
theorem ok_sides {f : Addr} {fd : FuncData} (F : Fun K "sides" "sides" sSides f fd) (T : Txt mg) (DR : Def P w K mg base "refuse_no_drawing" 3 ["rounds"] spRefuse) (DPt : Def P w K mg base "points_of_ends" 1 ["rounds"] spPointsX)
    (DNE : Def P w K mg base "refuse_no_ends" 1 ["point_of", "ring"] spRefNoEnds) (DNR : Def P w K mg base "refuse_no_ring" 3 ["point_of", "ring"] spRefNoRing) (DG : Def P w K mg base "faces" 4 ["rounds"] spFaces)
    (DO : Def P w K mg base "ends_off_ropes" 1 ["ends", "ropes"] spOff) (DP : Def P w K mg base "piece_from" 2 ["rounds", "point_of", "start"] spPieceG) (DA : Def P w K mg base "across" 1 ["end"] spAcross) : FnOk P w K mg base CX0 5 f fd ["rounds", "ring"] spSides := by
  refine F.ok scSides (fun vs H Q E h => ?_) (fun cdv A outer s H vs Q E hr4 h => ?_)
  · obtain ⟨p, a, ps, rs, n, q, rfl, _⟩ := h
    rfl
  · obtain ⟨p, a, ps, rs, n, q, rfl, R, D, hn, hrs, hA, hql, k1, k2, k3⟩ := h
    have hs : sizeLine = 16777216 := sizeLine_eq
    have nd := scSides.nd
    have hr1 : Room 1 _ := hr4.mono (by decide)
    have hr2 : Room 2 _ := hr4.mono (by decide)
    have hr3 : Room 3 _ := hr4.mono (by decide)
    have hu := hr4.units
    have hu1 := hu_of hr4
    refine ⟨_, pss_cons (ps_expr (pcall DR hr3 (pa_cons (pv 0) pa_nil)))
      (pss_cons (ps_set (i := 2) nd rfl (Or.inl rfl) (pcall DPt hr1 (pa_cons (pv 0) pa_nil)))
      (pss_cons (ps_expr (pcall DNE hr1 (pa_cons (pv 2) (pa_cons (pv 1) pa_nil))))
      (pss_cons (ps_expr (pcall DNR hr3 (pa_cons (pv 2) (pa_cons (pv 1) pa_nil))))
      (pss_cons (ps_set (i := 3) nd rfl (Or.inl rfl) (pcall DG hr4 (pa_cons (pv 0) pa_nil)))
      (pss_cons (ps_set (i := 4) nd rfl (Or.inl rfl) (pcall DPt hr1 (pa_cons (pv 3) pa_nil)))
      (pss_cons (ps_set (i := 5) nd rfl (Or.inr rfl) (pe_comp (te := _) rfl (Blk.plain rfl (by decide +kernel) (by decide +kernel)) (pi_list (pv 1)) (fun _ _ _ _ => pts_nil) (fun _ _ _ _ => (pe_op op_fdiv (pv 0) pe_int))))
      (pss_cons (ps_setComp (i0 := 6) (te := _) nd rfl (Or.inl rfl) rfl (Blk.captN (caps := [5]) ["rounds", "ring", "point_of", "told", "face_of", "ropes", "ways", "one", "other"] (defScope sSides).names rfl rfl rfl (by decide +kernel) (by decide +kernel) (by decide +kernel)) (pi_list (pv 3)) (fun _ _ _ _ => pts_nil) (fun _ _ _ _ => (pcall DO hr1 (pa_cons (pv 0) (pa_cons (pv 1) pa_nil)))))
      (pss_cons (ps_set (i := 7) nd rfl (Or.inl rfl) (pcall DP hr2 (pa_cons (pv 6) (pa_cons (pv 4) (pa_cons (pe_dget hu1 (pv 4) (pe_ix ix_list (pv 1) pe_int (fun _ _ => rfl)) (fun _ _ => rfl)) pa_nil)))))
      (pss_cons (ps_set (i := 8) nd rfl (Or.inl rfl) (pcall DP hr2 (pa_cons (pv 6) (pa_cons (pv 4) (pa_cons (pe_dget hu1 (pv 4) (pcall DA hr1 (pa_cons (pe_ix ix_list (pv 1) pe_int (fun _ _ => rfl)) pa_nil)) (fun _ _ => rfl)) pa_nil)))))
      (pss_cons (ps_if (pt_cmpR (op_eqD hu) (pv 7) (pv 8) (nomark _)) (pss_one (ps_ret (pe_tup (pa_cons pe_str (pa_cons (pv 7) pa_nil))))) (pss_nil))
      (pss_one (ps_ret (pe_tup (pa_cons pe_str (pa_cons (pv 7) (pa_cons (pv 8) pa_nil)))))))))))))))), ?_⟩
    refine ⟨_, rfl, p, ps, rs, n, rfl, R, D, hn, fun H1 s1 => ?_⟩
    refine ⟨_, rfl, p, ps, rs, n, rfl, R.same s1, D, by omega, by omega, fun d H2 hd TB s2 => ?_⟩
    have s12 := s1.trans s2
    have hA2 := s12 _ _ hA
    refine ⟨_, rfl, _, rfl, d, a, ptI rs, n, q, rfl, TB, hA2, fun hin => ?_, fun hno => k1 hno H2 s12⟩
    refine ⟨_, rfl, _, rfl, d, a, ptI rs, n, q, rfl, TB.of, D.even, hA2, hin, hql, fun hring H3 s3 => ?_, fun hno H3 s3 => k2 hin hno H3 (s12.trans s3)⟩
    have s13 := s12.trans s3
    obtain ⟨x0, qt, rfl⟩ : ∃ x t, q = x :: t := List.exists_cons_of_ne_nil hring.1
    have hx0 := hin x0 (by simp)
    have ax0 := acr_lt D.even hx0.1 hx0.2
    refine ⟨_, rfl, p, ps, rs, n, rfl, R.same s13, D, hn, fun p4 ps4 fs H4 hF R4 s4 _ _ => ?_⟩
    have cF := D.faces hF
    have DL : Dr fs n := cF.dr D.even
    have lf : fs.length ≤ n := by
      have := flat_ge (k := 1) (L := fs) fun r hr => List.length_pos_iff.mpr (cF.cyc r hr).ne
      rw [cF.len] at this
      omega
    refine ⟨_, rfl, p4, ps4, fs, n, rfl, R4, DL, by omega, by omega, fun d5 H5 hd5 TB5 s5 => ?_⟩
    have s15 := (s13.trans s4).trans s5
    have hA5 := s15 _ _ hA
    have R5 := R4.same s5
    refine ⟨_, rfl, a, rfl, ⟨_, .of hA5⟩, fun e1 hE1 => comp_list (xs := (x0 :: qt).map V.int) (fun j H2 => Same H5 H2 ∧ H2 e1 = some (.lst ((((x0 :: qt).take j).map fun e => e / 2).map V.int))) ⟨(Same.refl H5).put hE1, upd_same⟩ (fun j H2 _ hh => by obtain ⟨s2, _⟩ := hh; exact .of (s2 _ _ hA5)) ?_ ?_⟩
    · rintro j z H2 hj ⟨s2, hL⟩
      obtain ⟨x, hx, rfl⟩ := int_of hj
      have hjl : j < (x0 :: qt).length := (List.getElem?_eq_some_iff.mp hx).1
      refine yes_go ⟨_, rfl, _, _, rfl, rfl, ⟨by decide, by decide⟩, _, hL, (by rw [List.length_map, List.length_map, List.length_take]; omega), s2.put hE1, ?_⟩
      rw [upd_same, take_at hx, List.map_append, List.map_append]; rfl
    rintro H6 ⟨s6, hL6⟩
    rw [List.length_map, List.take_length] at hL6
    have R6 := R5.same s6
    refine ⟨_, rfl, p4, rfl, ⟨_, .of R6.out⟩, fun e2 hE2 => rows_map (offRow ((x0 :: qt).map fun e => e / 2)) R6 hE2 (by omega) (fun q r H2 k N hr s2 hq hk => ?_) fun qs H7 s7 R7 hnq => ?_⟩
    · have := row_le DL hr
      exact yes_go ⟨_, rfl, _, rfl, q, e1, r, (x0 :: qt).map fun e => e / 2, rfl, hq, s2 _ _ hL6, by omega, hk⟩
    have s57 := s6.trans s7
    have hA7 := s57 _ _ hA5
    have TB7 := TB5.same s57
    have p0 := DL.pt_lt hx0
    have p1 := DL.pt_lt ax0
    have lw : (fs.map (offRow ((x0 :: qt).map fun e => e / 2))).length = fs.length := List.length_map _
    refine ⟨_, rfl, _, rfl, _, rfl, _, rfl, a, _, _, _, rfl, rfl, .of hA7, atI_nat (j := 0) rfl, d5, _, rfl, TB7.of.get hx0, e2, d5, qs, _, ptI fs, rlb fs n (x0 :: qt), n, pt fs x0, rfl, R7, ways_net DL (by omega) hin p0, by omega, TB7.of, by omega, fun l1 H8 hl1 hL8 s8 => ?_⟩
    rw [lw] at hL8
    have hA8 := s8 _ _ hA7
    have TB8 := TB7.same s8
    refine ⟨_, rfl, _, rfl, _, rfl, _, rfl, a, _, _, _, rfl, rfl, .of hA8, atI_nat (j := 0) rfl, x0, rfl, d5, _, rfl, TB8.of.get ax0, e2, d5, qs, _, ptI fs, rlb fs n (x0 :: qt), n, pt fs (acr x0), rfl, R7.same s8, ways_net DL (by omega) hin p1, by omega, TB8.of, by omega, fun l2 H9 hl2 hL9 s9 => ?_⟩
    rw [lw] at hL9
    have hL8' := s9 _ _ hL8
    have n12 : l1 ≠ l2 := ne_of_none hL8 hl2
    have sA := ((s15.trans s57).trans s8).trans s9
    refine ⟨_, rfl, _, rfl, intsD _, intsD _, .ints (.of hL8'), .ints (.of hL9), lay_ints _, lay_ints _, Nat.le_trans (depth_ints _) (by decide), _, rfl, ?_⟩
    rw [eqv_ints]
    refine ite2 (fun heq => ?_) (fun hneq => ?_)
    · refine ⟨_, rfl, (sz 2), fun t ht => ?_⟩
      exact k3 hin hring fs t _ hF (sA.free ht) (.inl ⟨of_decide_eq_true heq, l1, upd_same, by rw [upd_ne (ne_of_none hL8' ht)]; exact hL8'⟩) (sA.put (sA.free ht))
    · refine ⟨_, rfl, _, rfl, (sz 3), fun t ht => ?_⟩
      exact k3 hin hring fs t _ hF (sA.free ht) (.inr ⟨fun z => hneq (decide_eq_true z), l1, l2, upd_same, n12, by rw [upd_ne (ne_of_none hL8' ht)]; exact hL8', by rw [upd_ne (ne_of_none hL9 ht)]; exact hL9⟩) (sA.put (sA.free ht))
end
end Ink

namespace Ink
open PySem L2
/-- a way from the point s to the point v, not over the rope rp -/
structure Pa (rs : Rs) (n : Nat) (s rp v : Nat) (l : List Int) : Prop where
  mem : ∀ e ∈ l, 0 ≤ e ∧ e < (n : Int)
  chain : l.map (pt rs) ++ [v] = s :: l.map (fun e => pt rs (acr e))
  nd : (l.map (pt rs) ++ [v]).Nodup
  off : ∀ e ∈ l, rope e ≠ rp
theorem Pa.nil {rs : Rs} {n s rp : Nat} : Pa rs n s rp s [] := ⟨fun e h => by simp at h, rfl, by simp, fun e h => by simp at h⟩
theorem Pa.snoc {rs : Rs} {n s rp u v : Nat} {l : List Int} {e : Int} (p : Pa rs n s rp u l) (he : 0 ≤ e ∧ e < (n : Int)) (h1 : pt rs e = u) (h2 : pt rs (acr e) = v) (hv : v ∉ l.map (pt rs) ++ [u]) (hr : rope e ≠ rp) : Pa rs n s rp v (l ++ [e]) := by
  refine ⟨fun x hx => ?_, ?_, ?_, fun x hx => ?_⟩
  · rcases List.mem_append.mp hx with z | z
    · exact p.mem x z
    · rw [List.mem_singleton.mp z]; exact he
  · have c := p.chain
    simp only [List.map_append, List.map_cons, List.map_nil, h1, h2]
    rw [c]
    rfl
  · simp only [List.map_append, List.map_cons, List.map_nil, h1]
    rw [List.nodup_append]
    exact ⟨p.nd, by simp, fun a ha b hb q => hv (by have := List.mem_singleton.mp hb; subst this; rw [← q]; exact ha)⟩
  · rcases List.mem_append.mp hx with z | z
    · exact p.off x z
    · rw [List.mem_singleton.mp z]; exact hr
theorem nodup_map_rope {q : List Int} {n : Nat} (hin : inR n q) : (q.map rope).Nodup ↔ (q.map fun e => e / 2).Nodup := by
  rw [List.nodup_iff_pairwise_ne, List.nodup_iff_pairwise_ne, List.pairwise_map, List.pairwise_map]
  constructor
  · intro h
    refine List.Pairwise.imp_of_mem (fun {a b} ha hb hne q => hne ?_) h
    unfold rope; rw [q]
  · intro h
    refine List.Pairwise.imp_of_mem (fun {a b} ha hb hne q => hne ?_) h
    have h1 := hin a ha
    have h2 := hin b hb
    unfold rope at q
    omega
theorem Pa.ring {rs : Rs} {n s v : Nat} {x : Int} {l : List Int} (p : Pa rs n s (rope x) v l) (hx : 0 ≤ x ∧ x < (n : Int)) (h1 : pt rs (acr x) = s) (h2 : pt rs x = v) : inR n (x :: l) ∧ RingB (ptI rs) (x :: l) := by
  have hin : inR n (x :: l) := fun e he => by
    rcases List.mem_cons.mp he with z | z
    · rw [z]; exact hx
    · exact p.mem e z
  have c := p.chain
  have nd := p.nd
  have gI : ∀ m : List Int, (m.map fun e => ptI rs e) = (m.map (pt rs)).map fun (k : Nat) => (k : Int) := fun m => by rw [List.map_map]; rfl
  have gA : ∀ m : List Int, (m.map fun e => ptI rs (acr e)) = (m.map fun e => pt rs (acr e)).map fun (k : Nat) => (k : Int) := fun m => by rw [List.map_map]; rfl
  refine ⟨hin, by simp, ?_, ?_, ?_⟩
  · show ((x :: l).map fun e => ptI rs (acr e)) = ((x :: l).map fun e => ptI rs e).drop 1 ++ ((x :: l).map fun e => ptI rs e).take 1
    rw [gA, gI]
    simp only [List.map_cons, List.drop_succ_cons, List.drop_zero, List.take_succ_cons, List.take_zero]
    rw [h1, h2, ← List.map_cons (f := fun (k : Nat) => (k : Int)), ← c, List.map_append]
    rfl
  · show ((x :: l).map fun e => ptI rs e).Nodup
    rw [gI, List.map_cons, h2]
    have : (v :: l.map (pt rs)).Nodup := (List.Perm.nodup_iff (List.perm_append_comm (l₁ := l.map (pt rs)) (l₂ := [v]))).mp nd
    rw [List.nodup_iff_pairwise_ne, List.pairwise_map]
    exact (List.nodup_iff_pairwise_ne.mp this).imp fun h q => h (by omega)
  · rw [← nodup_map_rope hin, List.map_cons, List.nodup_cons]
    refine ⟨fun z => ?_, ?_⟩
    · obtain ⟨e, he, q⟩ := List.mem_map.mp z
      exact p.off e he q
    · -- the points on the way
      have at_ : ∀ (i : Nat) (e : Int), l[i]? = some e → (l.map (pt rs) ++ [v])[i]? = some (pt rs e) ∧ (l.map (pt rs) ++ [v])[i + 1]? = some (pt rs (acr e)) := fun i e he => by
        have hi := (List.getElem?_eq_some_iff.mp he).1
        constructor
        · rw [List.getElem?_append_left (by rw [List.length_map]; exact hi), List.getElem?_map, he]; rfl
        · rw [c, List.getElem?_cons_succ, List.getElem?_map, he]; rfl
      have lt : ∀ (i j : Nat) (a b : Int), i < j → l[i]? = some a → l[j]? = some b → rope a ≠ rope b := fun i j a b hij ha hb q => by
        obtain ⟨a1, a2⟩ := at_ i a ha
        obtain ⟨b1, b2⟩ := at_ j b hb
        have hma := p.mem a (List.mem_of_getElem? ha)
        have hmb := p.mem b (List.mem_of_getElem? hb)
        rcases rope_cases hma.1 hmb.1 q with z | z
        · rw [z] at a1
          have := nodup_ix nd a1 b1
          omega
        · rw [z] at a1
          have := nodup_ix nd a1 b2
          omega
      rw [List.nodup_iff_pairwise_ne, List.pairwise_iff_getElem]
      intro i j hi hj hij q
      rw [List.length_map] at hi hj
      rw [List.getElem_map, List.getElem_map] at q
      exact lt i j _ _ hij (List.getElem?_eq_getElem hi) (List.getElem?_eq_getElem hj) q
theorem RingB.ring {rs : Rs} {n : Nat} {q : List Int} (hin : inR n q) (h : RingB (ptI rs) q) : Ring rs n q := by
  obtain ⟨h0, h1, h2, h3⟩ := h
  refine ⟨h0, hin, fun i x y hx hy => ?_, ?_, (nodup_map_rope hin).mpr h3⟩
  · have hi := (List.getElem?_eq_some_iff.mp hx).1
    have e1 : (q.map fun e => ptI rs (acr e))[i]? = some (ptI rs (acr x)) := by rw [List.getElem?_map, hx]; rfl
    rw [show (q.map fun e => ptI rs (acr e)) = (q.map (ptI rs)).drop 1 ++ (q.map (ptI rs)).take 1 from h1] at e1
    have e2 : ((q.map (ptI rs)).drop 1 ++ (q.map (ptI rs)).take 1)[i]? = some (ptI rs y) := by
      by_cases hl : i + 1 < q.length
      · rw [Nat.mod_eq_of_lt hl] at hy
        rw [List.getElem?_append_left (by rw [List.length_drop, List.length_map]; omega), List.getElem?_drop, show 1 + i = i + 1 by omega, List.getElem?_map, hy]; rfl
      · rw [show i + 1 = q.length by omega, Nat.mod_self] at hy
        rw [List.getElem?_append_right (by rw [List.length_drop, List.length_map]; omega), List.length_drop, List.length_map, show i - (q.length - 1) = 0 by omega, List.getElem?_take_of_lt (by omega), List.getElem?_map, hy]; rfl
    rw [e1] at e2
    have := Option.some.inj e2
    unfold ptI at this
    omega
  · have : (q.map (ptI rs)).Nodup := h2
    have e : q.map (ptI rs) = (q.map (pt rs)).map fun (k : Nat) => (k : Int) := by rw [List.map_map]; rfl
    rw [e, List.nodup_iff_pairwise_ne, List.pairwise_map] at this
    rw [List.nodup_iff_pairwise_ne]
    exact this.imp fun h q => h (by rw [q])
/-- the dict of ways -/
def cdict (tr : List (Int × Addr × List Int)) : List (Key × V) := tr.map fun t => ((Sum.inl t.1 : Key), V.ref t.2.1)
theorem cd_none : ∀ {tr : List (Int × Addr × List Int)} {z : Int}, z ∉ tr.map (·.1) → valV (cdict tr) (Sum.inl z : Key) = none
  | [], _, _ => rfl
  | t :: tr, z, h => by
    have hx : t.1 ≠ z := fun q => h (by simp [q])
    have : valV (cdict (t :: tr)) (Sum.inl z : Key) = valV (cdict tr) (Sum.inl z : Key) := valV_neg (p := ((Sum.inl t.1 : Key), V.ref t.2.1)) fun q => hx (Sum.inl.inj q)
    rw [this]
    exact cd_none fun q => h (by simp only [List.map_cons, List.mem_cons]; exact .inr q)
theorem cd_some : ∀ {tr : List (Int × Addr × List Int)} {z : Int}, z ∈ tr.map (·.1) → ∃ t ∈ tr, t.1 = z ∧ valV (cdict tr) (Sum.inl z : Key) = some (V.ref t.2.1)
  | [], _, h => by simp at h
  | t :: tr, z, h => by
    by_cases hx : t.1 = z
    · exact ⟨t, by simp, hx, valV_pos (p := ((Sum.inl t.1 : Key), V.ref t.2.1)) (by rw [hx])⟩
    · have hz : z ∈ tr.map (·.1) := by
        rcases List.mem_cons.mp h with q | q
        · exact absurd q.symm hx
        · exact q
      obtain ⟨u, hu, e, hv⟩ := cd_some hz
      refine ⟨u, by simp [hu], e, ?_⟩
      have : valV (cdict (t :: tr)) (Sum.inl z : Key) = valV (cdict tr) (Sum.inl z : Key) := valV_neg (p := ((Sum.inl t.1 : Key), V.ref t.2.1)) fun q => hx (Sum.inl.inj q)
      rw [this]; exact hv
theorem cd_put {tr : List (Int × Addr × List Int)} {z : Int} {a : Addr} {l : List Int} (h : z ∉ tr.map (·.1)) : putK (cdict tr) (Sum.inl z : Key) (V.ref a) = cdict (tr ++ [(z, a, l)]) := by
  rw [putK_new _ (cd_none h)]
  unfold cdict
  rw [List.map_append]
  rfl
structure CInv (rs : Rs) (n s rp : Nat) (H : Hp) (tr : List (Int × Addr × List Int)) (wl : List Int) : Prop where
  nd : (tr.map (·.1)).Nodup
  rng : ∀ t ∈ tr, 0 ≤ t.1 ∧ t.1 < (rs.length : Int)
  pa : ∀ t ∈ tr, Pa rs n s rp t.1.toNat t.2.2
  pts : ∀ t ∈ tr, ∀ e ∈ t.2.2, ptI rs e ∈ tr.map (·.1)
  hp : ∀ t ∈ tr, H t.2.1 = some (.lst (t.2.2.map V.int))
  sub : ∀ z ∈ wl, z ∈ tr.map (·.1)
theorem CInv.len {rs : Rs} {n s rp : Nat} {H : Hp} {tr : List (Int × Addr × List Int)} {wl : List Int} (c : CInv rs n s rp H tr wl) : tr.length ≤ rs.length := by
  have := nodup_le rs.length (tr.map (·.1)) c.nd fun z hz => by
    obtain ⟨t, ht, rfl⟩ := List.mem_map.mp hz
    exact c.rng t ht
  rw [List.length_map] at this
  exact this
theorem CInv.plen {rs : Rs} {n s rp : Nat} {H : Hp} {tr : List (Int × Addr × List Int)} {wl : List Int} (d : Dr rs n) (c : CInv rs n s rp H tr wl) {t : Int × Addr × List Int} (ht : t ∈ tr) : t.2.2.length ≤ rs.length := by
  have p := c.pa t ht
  have nd : (t.2.2.map (ptI rs)).Nodup := by
    have := (List.nodup_append.mp p.nd).1
    have e : t.2.2.map (ptI rs) = (t.2.2.map (pt rs)).map fun (k : Nat) => (k : Int) := by rw [List.map_map]; rfl
    rw [e, List.nodup_iff_pairwise_ne, List.pairwise_map]
    exact (List.nodup_iff_pairwise_ne.mp this).imp fun h q => h (by omega)
  have := nodup_le rs.length _ nd fun z hz => by
    obtain ⟨e, he, rfl⟩ := List.mem_map.mp hz
    have := d.pt_lt (p.mem e he)
    unfold ptI
    omega
  rw [List.length_map] at this
  exact this
theorem CInv.more {rs : Rs} {n s rp : Nat} {H H' : Hp} {tr : List (Int × Addr × List Int)} {wl wl' : List Int} (c : CInv rs n s rp H tr wl) (h : ∀ t ∈ tr, H' t.2.1 = H t.2.1) (hw : ∀ z ∈ wl', z ∈ wl) : CInv rs n s rp H' tr wl' :=
  ⟨c.nd, c.rng, c.pa, c.pts, fun t ht => (h t ht).trans (c.hp t ht), fun z hz => c.sub z (hw z hz)⟩
end Ink

namespace Ink
open PySem L2
def spRingFrom : Sp := fun vs H Q _ => ∃ (p : Addr) (ps : List Addr) (rs : Rs) (n : Nat) (x far : Int), vs = [.ref p, .int x, .int far] ∧ Rows H p ps rs ∧ Dr rs n ∧ n < 64 ∧ rs.length < 64 ∧ (0 ≤ x ∧ x < (n : Int)) ∧ (far = 0 ∨ far = 1) ∧
  ∀ (l : Addr) (q : List Int) (H' : Hp), H l = none → H' l = some (.lst (q.map V.int)) → (q = [] ∨ (inR n q ∧ RingB (ptI rs) q ∧ q.length ≤ 100)) → Same H H' → Q (.ref l) H'
theorem CInv.same {rs : Rs} {n s rp : Nat} {H H' : Hp} {tr : List (Int × Addr × List Int)} {wl : List Int} (c : CInv rs n s rp H tr wl) (h : Same H H') : CInv rs n s rp H' tr wl := ⟨c.nd, c.rng, c.pa, c.pts, fun t ht => h _ _ (c.hp t ht), c.sub⟩
theorem and_if {c1 c2 : TT} {σ : St} {H : Hp} {A B : Hp → Prop} (b1 b2 : Bool) (h1 : ∀ Q' : Bool → Hp → Prop, Q' b1 H → c1 σ H Q') (h2 : ∀ Q' : Bool → Hp → Prop, Q' b2 H → c2 σ H Q') (hA : (b1 && b2) = true → A H) (hB : (b1 && b2) = false → B H) : tAnd c1 c2 σ H fun b H => if b = true then A H else B H := by
  refine h1 _ ?_
  cases b1 with
  | false => exact iteF (iteF (hB rfl))
  | true =>
    refine iteT (h2 _ ?_)
    cases b2 with
    | false => exact iteF (hB rfl)
    | true => exact iteT (hA rfl)
theorem pop_at {wl : List Int} {far : Int} (hf : far = 0 ∨ far = 1) (hne : wl ≠ []) : ∃ k z, seqIndex? (0 - far) (wl.map V.int).length = some k ∧ (wl.map V.int)[k]? = some (V.int z) ∧ z ∈ wl ∧ (wl.map V.int).eraseIdx k = (wl.eraseIdx k).map V.int ∧ (∀ y ∈ wl, y = z ∨ y ∈ wl.eraseIdx k) ∧ (∀ y ∈ wl.eraseIdx k, y ∈ wl) ∧ (wl.eraseIdx k).length + 1 = wl.length := by
  have hl : 0 < wl.length := List.length_pos_iff.mpr hne
  have key : ∀ k, k < wl.length → seqIndex? (0 - far) (wl.map V.int).length = some k → ∃ k z, seqIndex? (0 - far) (wl.map V.int).length = some k ∧ (wl.map V.int)[k]? = some (V.int z) ∧ z ∈ wl ∧ (wl.map V.int).eraseIdx k = (wl.eraseIdx k).map V.int ∧ (∀ y ∈ wl, y = z ∨ y ∈ wl.eraseIdx k) ∧ (∀ y ∈ wl.eraseIdx k, y ∈ wl) ∧ (wl.eraseIdx k).length + 1 = wl.length := fun k hk hi => by
    refine ⟨k, wl[k], hi, by rw [List.getElem?_map, List.getElem?_eq_getElem hk]; rfl, List.getElem_mem hk, by rw [List.eraseIdx_eq_take_drop_succ, List.eraseIdx_eq_take_drop_succ, List.map_append, List.map_take, List.map_drop], fun y hy => ?_, fun y hy => List.mem_of_mem_eraseIdx hy, by rw [List.length_eraseIdx_of_lt hk]; omega⟩
    obtain ⟨j, hj⟩ := List.mem_iff_getElem?.mp hy
    by_cases q : j = k
    · left
      rw [q, List.getElem?_eq_getElem hk] at hj
      exact (Option.some.inj hj).symm
    · right
      exact List.mem_eraseIdx_iff_getElem?.mpr ⟨j, q, hj⟩
  rcases hf with rfl | rfl
  · refine key 0 hl ?_
    unfold seqIndex?
    rw [List.length_map]
    simp
    omega
  · refine key (wl.length - 1) (by omega) ?_
    unfold seqIndex?
    rw [List.length_map]
    simp
    omega
section
variable {P : Program} {w : World} {K : PySem.W.Frag} {mg : Str → Option Value} {base : Heap}
theorem scRingFrom : FnScope ["_law_rounds", "_law_end", "_law_far", "_law_point_at", "_law_start", "_law_came", "_law_todo", "_law_point", "_law_one", "_law_there"] ["_law_rounds", "_law_end", "_law_far"] (defScope sRingFrom) := ⟨rfl, rfl, rfl, by decide +kernel, rfl, by decide +kernel, by decide +kernel⟩
set_option maxHeartbeats 4000000 in
theorem ok_ringFrom {f : Addr} {fd : FuncData} (F : Fun K "_law_ring_from" "_law_ring_from" sRingFrom f fd) (T : Txt mg) (DPt : Def P w K mg base "_law_point_of" 1 ["_law_rounds"] spPointsOf) (DA : Def P w K mg base "_law_across" 1 ["_law_end"] spAcross) : FnOk P w K mg base CX0 2 f fd ["_law_rounds", "_law_end", "_law_far"] spRingFrom := by
  refine F.ok scRingFrom (fun vs H Q E h => ?_) (fun cdv A outer s H vs Q E hr1 h => ?_)
  · obtain ⟨p, ps, rs, n, x, far, rfl, _⟩ := h
    rfl
  · obtain ⟨p, ps, rs, n, x, far, rfl, R, D, hn, hrs, hx, hf, k⟩ := h
    have hs : sizeLine = 16777216 := sizeLine_eq
    have nd := scRingFrom.nd
    have hu := hr1.units
    have hu1 := hu_of hr1
    refine ⟨_, pss_cons (ps_set (i := 3) nd rfl (Or.inl rfl) (pcall DPt hr1 (pa_cons (pv 0) pa_nil)))
      (pss_cons (ps_set (i := 4) nd rfl (Or.inl rfl) (pe_dget hu1 (pv 3) (pcall DA hr1 (pa_cons (pv 1) pa_nil)) (fun _ _ => rfl)))
      (pss_cons (ps_set (i := 5) nd rfl (Or.inl rfl) (pe_disp (pps_cons (pv 4) (pe_lst pa_nil) pps_nil) rfl rfl (by simp) (by decide)))
      (pss_cons (ps_set (i := 6) nd rfl (Or.inl rfl) (pe_lst (pa_cons (pv 4) pa_nil)))
      (pss_cons (ps_while PassesOwn.never (pt_cmpR (op_neD hu) (pv 6) (pe_lst pa_nil) (nomark _)) (pss_cons (ps_set (i := 7) nd rfl (Or.inl rfl) (pe_bm PySem.F.plainAttrs_list PySem.F.slot_list_pop PySem.F.type_list_pop mt_popAt (pv 6) (pa_cons (pe_op op_sub pe_int (pv 2)) pa_nil)))
      (pss_one (ps_for PassesOwn.never rfl (pi_list (pe_ix ix_list (pv 0) (pv 7) (fun _ _ => rfl))) (pg_name (i := 8) nd rfl (Or.inl rfl)) (pss_cons (ps_set (i := 9) nd rfl (Or.inl rfl) (pe_dget hu1 (pv 3) (pcall DA hr1 (pa_cons (pv 8) pa_nil)) (fun _ _ => rfl)))
      (pss_one (ps_if (pw_and (pt_cmpR op_ne (pe_op op_fdiv (pv 8) pe_int) (pe_op op_fdiv (pv 1) pe_int) (nomark _)) (pw_and1 (pt_cmp (pc_dnotin hu1 (pv 9) (pv 5))))).pt (pss_cons (ps_dput hu1 (pv 5) (pv 9) (pe_op op_cat (pe_dget hu1 (pv 5) (pv 7) (fun _ _ => rfl)) (pe_lst (pa_cons (pv 8) pa_nil))) rfl)
      (pss_one (ps_expr (pe_bm PySem.F.plainAttrs_list PySem.F.slot_list_append PySem.F.type_list_append mt_append (pv 6) (pa_cons (pv 9) pa_nil))))) (pss_nil))))))))
      (pss_cons (ps_if (pt_cmp (pc_dnotin hu1 (pe_dget hu1 (pv 3) (pv 1) (fun _ _ => rfl)) (pv 5))) (pss_one (ps_ret (pe_lst pa_nil))) (pss_nil))
      (pss_one (ps_ret (pe_op op_cat (pe_lst (pa_cons (pv 1) pa_nil)) (pe_dget hu1 (pv 5) (pe_dget hu1 (pv 3) (pv 1) (fun _ _ => rfl)) (fun _ _ => rfl)))))))))), ?_⟩
    have ax := acr_lt D.even hx.1 hx.2
    have p0 := D.pt_lt ax
    have p1 := D.pt_lt hx
    refine ⟨_, rfl, p, ps, rs, n, rfl, R, D, by omega, by omega, fun d H1 hd TB s1 => ?_⟩
    refine ⟨_, rfl, _, rfl, x, rfl, d, _, rfl, TB.get ax, ?_⟩
    obtain ⟨s0, hs0⟩ : ∃ s0, s0 = pt rs (acr x) := ⟨_, rfl⟩
    have es : ptI rs (acr x) = ((s0 : Nat) : Int) := by unfold ptI; rw [hs0]
    dsimp only [gName]
    rw [es]
    refine fun c hc => ⟨_, rfl, (sz 0), fun l0 hl0 => ?_⟩
    have ncl : c ≠ l0 := fun z => by rw [← z, upd_same] at hl0; cases hl0
    have fl0 : H1 l0 = none := by rw [upd_ne (Ne.symm ncl)] at hl0; exact hl0
    refine ⟨by rw [upd_ne ncl, upd_same], [((Sum.inl ((s0 : Nat) : Int) : Key), V.ref l0)], rfl, (by show 1 ≤ 15; decide), ?_⟩
    have e0 : mergeK [] [((Sum.inl ((s0 : Nat) : Int) : Key), V.ref l0)] = cdict [(((s0 : Nat) : Int), l0, [])] := rfl
    rw [e0]
    have s2 : Same H1 (L2.upd (L2.upd (L2.upd H1 c (.dK [])) l0 (.lst [])) c (.dK (cdict [(((s0 : Nat) : Int), l0, [])]))) := (((Same.refl H1).put hc).put fl0).put hc
    have hC2 := upd_same (H := L2.upd (L2.upd H1 c (.dK [])) l0 (.lst [])) (a := c) (o := .dK (cdict [(((s0 : Nat) : Int), l0, [])]))
    have hl2 : (L2.upd (L2.upd (L2.upd H1 c (.dK [])) l0 (.lst [])) c (.dK (cdict [(((s0 : Nat) : Int), l0, [])]))) l0 = some (.lst (([] : List Int).map V.int)) := by rw [upd_ne (Ne.symm ncl), upd_same]; rfl
    generalize L2.upd (L2.upd (L2.upd H1 c (.dK [])) l0 (.lst [])) c (.dK (cdict [(((s0 : Nat) : Int), l0, [])])) = H2 at s2 hC2 hl2
    refine ⟨_, rfl, (sz 1), fun t ht => ?_⟩
    have ft : H1 t = none := s2.free ht
    have s3 : Same H2 (L2.upd H2 t (.lst [.int ((s0 : Nat) : Int)])) := (Same.refl H2).put ht
    have hT3 := upd_same (H := H2) (a := t) (o := .lst [.int ((s0 : Nat) : Int)])
    have nlt : l0 ≠ t := ne_of_none hl2 ht
    have nct : c ≠ t := ne_of_none hC2 ht
    generalize L2.upd H2 t (.lst [.int ((s0 : Nat) : Int)]) = H3 at s3 hT3
    refine ⟨fun m σ H4 => ∃ tr wl v7 v8 v9, σ = [some (.ref p), some (.int x), some (.int far), some (.ref d), some (.int (s0 : Nat)), some (.ref c), some (.ref t), v7, v8, v9] ∧ Same H1 H4 ∧ H4 c = some (.dK (cdict tr)) ∧ H4 t = some (.lst (wl.map V.int)) ∧ CInv rs n s0 (rope x) H4 tr wl ∧ (∀ u ∈ tr, u.2.1 ≠ t) ∧ m + 2 * tr.length = 2 * rs.length + wl.length ∧ m ≤ 2 * rs.length,
      ⟨2 * rs.length - 1, [(((s0 : Nat) : Int), l0, [])], [((s0 : Nat) : Int)], none, none, none, rfl, s2.trans s3, s3 _ _ hC2, hT3, ⟨by simp, fun u hu => ?_, fun u hu => ?_, fun u hu e he => ?_, fun u hu => ?_, fun z hz => by simpa using hz⟩, fun u hu => ?_, by simp; omega, by omega⟩, ?_⟩
    · have : u = (((s0 : Nat) : Int), l0, []) := by simpa using hu
      subst this
      show (0 : Int) ≤ s0 ∧ (s0 : Int) < rs.length
      rw [hs0]; omega
    · have : u = (((s0 : Nat) : Int), l0, []) := by simpa using hu
      subst this
      exact Pa.nil
    · have : u = (((s0 : Nat) : Int), l0, []) := by simpa using hu
      subst this
      simp at he
    · have : u = (((s0 : Nat) : Int), l0, []) := by simpa using hu
      subst this
      exact s3 _ _ hl2
    · have : u = (((s0 : Nat) : Int), l0, []) := by simpa using hu
      subst this
      exact nlt
    rintro m σ H4 ⟨tr, wl, v7, v8, v9, rfl, s4, hC4, hT4, I4, ne4, hm, hmm⟩
    refine ⟨_, rfl, (sz 0), fun z hz => ?_⟩
    have s5 : Same H4 (L2.upd H4 z (.lst [])) := (Same.refl H4).put hz
    have hZ := upd_same (H := H4) (a := z) (o := .lst [])
    have hC5 := s5 _ _ hC4
    have hT5 := s5 _ _ hT4
    have I5 := I4.same s5
    have s15 := s4.trans s5
    generalize L2.upd H4 z (.lst []) = H5 at s5 hZ hC5 hT5 I5 s15
    refine ⟨intsD wl, intsD [], .ints (.of hT5), .ints (.of hZ), lay_ints _, lay_ints _, Nat.le_trans (depth_ints _) (by decide), _, rfl, ?_⟩
    rw [eqv_ints]
    have trl := I5.len
    refine ite2 (fun h => ?_) (fun h => ?_)
    · have hne : wl ≠ [] := fun q => by
        rw [q, decide_eq_true rfl] at h
        exact absurd h (by decide)
      obtain ⟨kx, z0, hk1, hk2, hk3, hk4, hk5, hk6, hk7⟩ := pop_at hf hne
      refine ⟨fun σ' H' => ∃ tr' wl' v7 v8 v9, σ' = [some (.ref p), some (.int x), some (.int far), some (.ref d), some (.int (s0 : Nat)), some (.ref c), some (.ref t), v7, v8, v9] ∧ Same H1 H' ∧ H' c = some (.dK (cdict tr')) ∧ H' t = some (.lst (wl'.map V.int)) ∧ CInv rs n s0 (rope x) H' tr' wl' ∧ (∀ u ∈ tr', u.2.1 ≠ t) ∧ 2 * rs.length + wl'.length + 1 ≤ m + 2 * tr'.length,
        fun σ' H' ⟨tr', wl', w7, w8, w9, a1, a2, a3, a4, a5, a6, a7⟩ => ?_, ?_⟩
      · have := a5.len
        exact ⟨2 * rs.length + wl'.length - 2 * tr'.length, by omega, tr', wl', w7, w8, w9, a1, a2, a3, a4, a5, a6, by omega, by omega⟩
      refine ⟨_, rfl, .inl ⟨rfl, _, .of hT5⟩, _, rfl, _, _, rfl, rfl, t, _, _, kx, _, rfl, rfl, hT5, by rcases hf with q | q <;> rw [q] <;> decide, by rcases hf with q | q <;> rw [q] <;> decide, hk1, hk2, ?_⟩
      rw [hk4]
      have s6 : Same H1 (L2.upd H5 t (.lst ((wl.eraseIdx kx).map V.int))) := s15.put ft
      have hC6 : (L2.upd H5 t (.lst ((wl.eraseIdx kx).map V.int))) c = some (.dK (cdict tr)) := by rw [upd_ne nct]; exact hC5
      have hT6 := upd_same (H := H5) (a := t) (o := .lst ((wl.eraseIdx kx).map V.int))
      have I6 : CInv rs n s0 (rope x) (L2.upd H5 t (.lst ((wl.eraseIdx kx).map V.int))) tr (wl.eraseIdx kx) := I5.more (fun u hu => upd_ne (ne4 u hu)) hk6
      generalize L2.upd H5 t (.lst ((wl.eraseIdx kx).map V.int)) = H6 at s6 hC6 hT6 I6
      have hz0 := I5.sub z0 hk3
      have hzr : 0 ≤ z0 ∧ z0 < (rs.length : Int) := by
        obtain ⟨u, hu, rfl⟩ := List.mem_map.mp hz0
        exact I5.rng u hu
      obtain ⟨r, hr'⟩ : ∃ r, rs[z0.toNat]? = some r := ⟨_, List.getElem?_eq_getElem (by omega)⟩
      obtain ⟨rq, hrq, hH⟩ := R.get hr'
      have hrl : r.length ≤ n := row_le D (List.mem_of_getElem? hr')
      have s16 : Same H H6 := s1.trans s6
      refine ⟨_, rfl, _, rfl, p, _, _, _, rfl, rfl, .of (s16 _ _ R.out), ?_, rq, rfl, ⟨_, .of (s16 _ _ hH)⟩, for_list (K := K) (a := rq) (xs := r.map V.int) (fun j σ H7 => ∃ tr' wl' v8 v9, σ = [some (.ref p), some (.int x), some (.int far), some (.ref d), some (.int (s0 : Nat)), some (.ref c), some (.ref t), some (.int z0), v8, v9] ∧ Same H1 H7 ∧ H7 c = some (.dK (cdict tr')) ∧ H7 t = some (.lst (wl'.map V.int)) ∧ CInv rs n s0 (rope x) H7 tr' wl' ∧ (∀ u ∈ tr', u.2.1 ≠ t) ∧ z0 ∈ tr'.map (·.1) ∧ 2 * rs.length + wl'.length + 1 ≤ m + 2 * tr'.length)
        ⟨tr, wl.eraseIdx kx, v8, v9, rfl, s6, hC6, hT6, I6, ne4, hz0, by omega⟩ (fun j σ H7 _ hh => by obtain ⟨_, _, _, _, _, s7, _⟩ := hh; exact .of (s7 _ _ (s1 _ _ hH))) ?_ ?_⟩
      · have hx0 : z0 = ((z0.toNat : Nat) : Int) := by omega
        rw [hx0]
        exact atI_nat (by rw [List.getElem?_map, hrq]; rfl)
      · rintro j y σ H7 hj ⟨tr', wl', v8, v9, rfl, s7, hC7, hT7, I7, ne7, hz7, hm7⟩
        obtain ⟨e, he, rfl⟩ := int_of hj
        have her : e ∈ r := List.mem_of_getElem? he
        have heb := (D.mem e).mp (List.mem_flatten.mpr ⟨r, List.mem_of_getElem? hr', her⟩)
        have hab := acr_lt D.even heb.1 heb.2
        have hpe : pt rs e = z0.toNat := pt_uniq D.nd hr' her
        have hpl := D.pt_lt hab
        have trl7 := I7.len
        refine ⟨_, rfl, _, rfl, e, rfl, d, _, rfl, (TB.same s7).get hab, ?_⟩
        dsimp only [gName]
        refine and_if (!decide (V.int (e / 2) = V.int (x / 2))) (!(valV (cdict tr') (Sum.inl (ptI rs (acr e)) : Key)).isSome) (fun Q' q' => ⟨_, rfl, _, _, rfl, rfl, ⟨by decide, by decide⟩, _, rfl, _, _, rfl, rfl, ⟨by decide, by decide⟩, rfl, _, rfl, q'⟩) (fun Q' q' => ⟨_, rfl, _, rfl, c, _, rfl, DGet.k (k := (Sum.inl (ptI rs (acr e)) : Key)) hC7, _, rfl, q'⟩) (fun hA => ?_) (fun hA => ?_)
        · rw [Bool.and_eq_true] at hA
          have hro : rope e ≠ rope x := fun q => by
            have : e / 2 = x / 2 := by unfold rope at q; omega
            rw [this, decide_eq_true rfl] at hA
            exact absurd hA.1 (by decide)
          have hnk : ptI rs (acr e) ∉ tr'.map (·.1) := fun q => by
            obtain ⟨u, _, _, hv⟩ := cd_some q
            rw [hv] at hA
            exact absurd hA.2 Bool.false_ne_true
          obtain ⟨u, hu, hu1', huv⟩ := cd_some hz7
          have hg : DGet H7 c (.int z0) (some (.ref u.2.1)) := by rw [← huv]; exact DGet.k (k := (Sum.inl z0 : Key)) hC7
          have hpu := I7.hp u hu
          have plu := I7.plen D hu
          refine ⟨_, rfl, _, rfl, c, _, rfl, hg, _, rfl, (sz 1), fun l1 hl1 => ?_⟩
          have s8 : Same H7 (L2.upd H7 l1 (.lst [.int e])) := (Same.refl H7).put hl1
          refine ⟨u.2.1, l1, _, _, rfl, rfl, s8 _ _ hpu, upd_same, (by rw [List.length_map]; show _ + 1 ≤ sizeLine; omega), fun pn hpn => ?_⟩
          have eP : u.2.2.map V.int ++ [V.int e] = (u.2.2 ++ [e]).map V.int := by rw [List.map_append]; rfl
          rw [eP]
          obtain ⟨_, hpn'⟩ := upd_none hpn
          have s9 : Same H7 (L2.upd (L2.upd H7 l1 (.lst [.int e])) pn (.lst ((u.2.2 ++ [e]).map V.int))) := s8.put hpn'
          have hPn := upd_same (H := L2.upd H7 l1 (.lst [.int e])) (a := pn) (o := .lst ((u.2.2 ++ [e]).map V.int))
          generalize L2.upd (L2.upd H7 l1 (.lst [.int e])) pn (.lst ((u.2.2 ++ [e]).map V.int)) = H9 at s9 hPn
          have I9 := I7.same s9
          have npt : pn ≠ t := fun q => by rw [q, hT7] at hpn'; cases hpn'
          have npc : pn ≠ c := fun q => by rw [q, hC7] at hpn'; cases hpn'
          refine ⟨_, rfl, _, rfl, c, _, rfl, DPut.k (k := (Sum.inl (ptI rs (acr e)) : Key)) (s9 _ _ hC7) (by unfold cdict; rw [List.length_map]; omega), ?_⟩
          have hT10 : (L2.upd H9 c (.dK (putK (cdict tr') (Sum.inl (ptI rs (acr e)) : Key) (V.ref pn)))) t = some (.lst (wl'.map V.int)) := by rw [upd_ne (Ne.symm nct)]; exact s9 _ _ hT7
          refine ⟨_, rfl, .inl ⟨rfl, _, .of hT10⟩, _, rfl, t, _, _, rfl, rfl, hT10, by rw [List.length_map]; omega, ?_⟩
          have ncu : ∀ v ∈ tr', v.2.1 ≠ c := fun v hv q => by
            have := I7.hp v hv
            rw [q, hC7] at this
            cases this
          refine ⟨tr' ++ [(ptI rs (acr e), pn, u.2.2 ++ [e])], wl' ++ [ptI rs (acr e)], _, _, rfl, (((s7.trans s9).put hc).put ft), ?_, ?_, ⟨?_, fun v hv => ?_, fun v hv => ?_, fun v hv y hy => ?_, fun v hv => ?_, fun y hy => ?_⟩, fun v hv => ?_, ?_, ?_⟩
          · rw [upd_ne nct, upd_same, cd_put hnk]
          · rw [upd_same, List.map_append]; rfl
          · rw [List.map_append, List.nodup_append]
            refine ⟨I7.nd, by simp, fun a ha b hb q => hnk ?_⟩
            have : b = ptI rs (acr e) := by simpa using hb
            rw [← this, ← q]; exact ha
          · rcases List.mem_append.mp hv with z | z
            · exact I7.rng v z
            · rw [List.mem_singleton.mp z]
              show 0 ≤ ptI rs (acr e) ∧ ptI rs (acr e) < _
              unfold ptI; omega
          · rcases List.mem_append.mp hv with z | z
            · exact I7.pa v z
            · rw [List.mem_singleton.mp z]
              show Pa rs n s0 (rope x) (ptI rs (acr e)).toNat (u.2.2 ++ [e])
              refine (I7.pa u hu).snoc heb (by rw [hu1']; exact hpe) (by unfold ptI; omega) (fun hin => hnk ?_) hro
              rcases List.mem_append.mp hin with q | q
              · obtain ⟨y, hy, hyq⟩ := List.mem_map.mp q
                have := I7.pts u hu y hy
                have e1 : ptI rs y = ptI rs (acr e) := by unfold ptI at hyq ⊢; rw [hyq]; omega
                rw [← e1]; exact this
              · have q' := List.mem_singleton.mp q
                have : ptI rs (acr e) = z0 := by rw [hu1'] at q'; unfold ptI at q' ⊢; omega
                rw [this]; exact hz7
          · rw [List.map_append]
            rcases List.mem_append.mp hv with z | z
            · exact List.mem_append_left _ (I7.pts v z y hy)
            · rw [List.mem_singleton.mp z] at hy
              have hy' : y ∈ u.2.2 ++ [e] := hy
              rcases List.mem_append.mp hy' with q | q
              · exact List.mem_append_left _ (I7.pts u hu y q)
              · have q' : y = e := by simpa using q
                refine List.mem_append_left _ ?_
                have : ptI rs y = z0 := by rw [q']; unfold ptI; omega
                rw [this]; exact hz7
          · rcases List.mem_append.mp hv with z | z
            · rw [upd_ne (ne7 v z), upd_ne (ncu v z)]; exact I9.hp v z
            · rw [List.mem_singleton.mp z]
              show (L2.upd (L2.upd H9 c _) t _) pn = _
              rw [upd_ne npt, upd_ne npc]; exact hPn
          · rw [List.map_append]
            rcases List.mem_append.mp hy with z | z
            · exact List.mem_append_left _ (I7.sub y z)
            · have : y = ptI rs (acr e) := by simpa using z
              rw [this]; simp
          · rcases List.mem_append.mp hv with z | z
            · exact ne7 v z
            · rw [List.mem_singleton.mp z]; exact npt
          · rw [List.map_append]; exact List.mem_append_left _ hz7
          · rw [List.length_append, List.length_append]
            simp
            omega
        · exact ⟨tr', wl', _, _, rfl, s7, hC7, hT7, I7, ne7, hz7, hm7⟩
      · rintro σ H7 ⟨tr', wl', v8, v9, rfl, s7, hC7, hT7, I7, ne7, hz7, hm7⟩
        exact ⟨tr', wl', _, _, _, rfl, s7, hC7, hT7, I7, ne7, hm7⟩
    · have hk : ∀ (P0 : Prop), P0 → P0 := fun _ z => z
      have TB5 := TB.same s15
      have sH := s1.trans s15
      refine ⟨_, rfl, _, rfl, d, _, rfl, TB5.get hx, _, rfl, c, _, rfl, DGet.k (k := (Sum.inl (ptI rs x) : Key)) hC5, _, rfl, ?_⟩
      by_cases hin : ptI rs x ∈ tr.map (·.1)
      · obtain ⟨u, hu, hu1', huv⟩ := cd_some hin
        rw [huv]
        refine iteF ?_
        have hg : DGet H5 c (.int (ptI rs x)) (some (.ref u.2.1)) := by rw [← huv]; exact DGet.k (k := (Sum.inl (ptI rs x) : Key)) hC5
        have plu := I5.plen D hu
        refine ⟨_, rfl, (sz 1), fun l1 hl1 => ?_⟩
        have s8 : Same H5 (L2.upd H5 l1 (.lst [.int x])) := (Same.refl H5).put hl1
        have hg8 : DGet (L2.upd H5 l1 (.lst [.int x])) c (.int (ptI rs x)) (some (.ref u.2.1)) := by rw [← huv]; exact DGet.k (k := (Sum.inl (ptI rs x) : Key)) (s8 _ _ hC5)
        refine ⟨_, rfl, _, rfl, _, rfl, d, _, rfl, (TB5.same s8).get hx, c, _, rfl, hg8, l1, u.2.1, _, _, rfl, rfl, upd_same, s8 _ _ (I5.hp u hu), (by rw [List.length_map]; show 1 + _ ≤ sizeLine; omega), fun l hl => ?_⟩
        obtain ⟨_, hl'⟩ := upd_none hl
        have rg := (I5.pa u hu).ring hx hs0.symm (by rw [hu1']; unfold ptI; omega)
        refine k l (x :: u.2.2) _ (sH.free hl') upd_same (.inr ⟨rg.1, rg.2, by rw [List.length_cons]; omega⟩) ((sH.trans s8).put (sH.free hl'))
      · rw [cd_none hin]
        refine iteT ⟨(sz 0), fun l hl => ?_⟩
        exact k l [] _ (sH.free hl) upd_same (.inl rfl) (sH.put (sH.free hl))
end
end Ink

namespace Ink
open PySem L2
/-- a rope more from a point to itself, at one corner -/
theorem Made.loop {any : Prop} {rs : Rs} {n : Nat} (m : Made any rs n) : Made any (putIn (putIn rs 0 n) 0 ((n : Int) + 1)) (n + 2) := by
  have d := m.dr
  have n2 := m.le2
  have h0 : (0 : Int) ≤ 0 ∧ (0 : Int) < n := by omega
  refine .tie m h0 h0 (.inr ?_)
  have hm : ∀ x : Int, 0 ≤ x ∧ x < (n : Int) → 0 ≤ stp rs x ∧ stp rs x < (n : Int) := fun x h => d.stp_mem h.1 h.2
  have hi : ∀ x y : Int, 0 ≤ x ∧ x < (n : Int) → 0 ≤ y ∧ y < (n : Int) → stp rs x = stp rs y → x = y := fun x y hx hy h => d.stp_inj hx hy h
  have h1 : (0 : Int) ≤ 1 ∧ (1 : Int) < n := by omega
  have es : stp rs 1 = nextIn rs 0 := rfl
  obtain ⟨F0, C0, g0, cc, _⟩ := Dr.euler n d
  obtain ⟨L, cL, _⟩ := cc.fcs
  obtain ⟨fs, hF, _⟩ := cL.fcs
  have cF := d.faces hF
  obtain ⟨r, hr, h1r⟩ := List.mem_flatten.mp ((cF.mem 1).mpr h1)
  have cy := cF.cyc r hr
  have hn := cy.maps h1r
  rw [es] at hn
  obtain ⟨u, v, rfl⟩ := List.append_of_mem hn
  have c2 := cy.rot
  exact ⟨nextIn rs 0 :: v ++ u, 1, c2.face, by
    rcases List.mem_append.mp h1r with z | z
    · exact List.mem_append_right _ z
    · exact List.mem_append_left _ z, by decide⟩
theorem loop_ring {any : Prop} {rs : Rs} {n : Nat} (m : Made any rs n) : inR (n + 2) [(n : Int)] ∧ RingB (ptI (putIn (putIn rs 0 n) 0 ((n : Int) + 1))) [(n : Int)] := by
  have d := m.dr
  have d' := m.loop.dr
  have n2 := m.le2
  have ev := d.even
  refine ⟨fun e he => by have := List.mem_singleton.mp he; omega, by simp, ?_, by simp, by simp⟩
  show [ptI _ (acr (n : Int))] = _
  have e1 : acr (n : Int) = (n : Int) + 1 := (acr_n ev).1
  rw [e1]
  show [ptI _ ((n : Int) + 1)] = [ptI _ (n : Int)]
  -- both stand where the end 0 does
  have h0 : (0 : Int) ∈ rs.flatten := (d.mem 0).mpr (by omega)
  obtain ⟨r, hr, h0r⟩ := pt_spec h0
  have hp1 : (putIn rs 0 n)[pt rs 0]? = some (putRow 0 n r) := put_row hr
  have hp2 : (putIn (putIn rs 0 n) 0 ((n : Int) + 1))[pt rs 0]? = some (putRow 0 ((n : Int) + 1) (putRow 0 n r)) := put_row hp1
  have m1 : (n : Int) ∈ putRow 0 ((n : Int) + 1) (putRow 0 n r) := putRow_mem.mpr (.inl (putRow_mem.mpr (.inr ⟨h0r, rfl⟩)))
  have m2 : (n : Int) + 1 ∈ putRow 0 ((n : Int) + 1) (putRow 0 n r) := putRow_mem.mpr (.inr ⟨putRow_mem.mpr (.inl h0r), rfl⟩)
  unfold ptI
  rw [pt_uniq d'.nd hp2 m1, pt_uniq d'.nd hp2 m2]
def spSomeRing (any : Prop) : Sp := fun vs H Q _ => ∃ (p : Addr) (ps : List Addr) (rs : Rs) (n : Nat) (st far : Int), vs = [.ref p, .int st, .int far] ∧ Rows H p ps rs ∧ Made any rs n ∧ n < 60 ∧ rs.length < 60 ∧ (far = 0 ∨ far = 1) ∧
  ∀ (l : Addr) (q : List Int) (rs' : Rs) (n' : Nat) (H' : Hp), Made any rs' n' → n' ≤ n + 2 → rs'.length = rs.length → Rows H' p ps rs' → H' l = some (.lst (q.map V.int)) → inR n' q → RingB (ptI rs') q → q.length ≤ 100 → Q (.ref l) H'
section
variable {P : Program} {w : World} {K : PySem.W.Frag} {mg : Str → Option Value} {base : Heap}
theorem scNumberOf : FnScope ["_law_told", "_law_number", "_law_k", "_law_end"] ["_law_told"] (defScope sNumberOf) := ⟨rfl, rfl, rfl, by decide +kernel, rfl, by decide +kernel, by decide +kernel⟩
theorem ok_numberOf {f : Addr} {fd : FuncData} (F : Fun K "_law_number_of" "_law_number_of" sNumberOf f fd) (T : Txt mg) : FnOk P w K mg base CX0 1 f fd ["_law_told"] spPointsOf := by
  refine F.ok scNumberOf (fun vs H Q E h => ?_) (fun cdv A outer s H vs Q E hr h => ?_)
  · obtain ⟨p, ps, rs, n, rfl, _⟩ := h
    rfl
  · obtain ⟨p, ps, rs, n, rfl, R, D, hn, hrs, k⟩ := h
    have hs : sizeLine = 16777216 := sizeLine_eq
    have nd := scNumberOf.nd
    have hu1 := hu_of hr
    refine ⟨_, pss_cons (ps_set (i := 1) nd rfl (Or.inl rfl) pe_dnewK)
      (pss_cons (ps_for PassesOwn.never rfl (pi_range1 (by rfl) T.range (pa_cons (pe_callB call_len_seq (by rfl) T.len PySem.boot_len (pa_cons (pv 0) pa_nil)) pa_nil)) (pg_name (i := 2) nd rfl (Or.inl rfl)) (pss_one (ps_for PassesOwn.never rfl (pi_list (pe_ix ix_list (pv 0) (pv 2) (fun _ _ => rfl))) (pg_name (i := 3) nd rfl (Or.inl rfl)) (pss_one (ps_dput hu1 (pv 1) (pv 3) (pv 2) rfl)))))
      (pss_one (ps_ret (pv 1)))), ?_⟩
    intro d hd
    have s0 : Same H (L2.upd H d (.dK [])) := (Same.refl H).put hd
    refine ⟨_, rfl, p, _, rfl, .inl (.of (s0 _ _ R.out)), _, rfl, by omega, (by rw [List.length_map, R.len]; omega), ?_⟩
    rw [Int.toNat_natCast, List.length_map, R.len]
    refine for_range (fun i σ H2 => ∃ v2 v3, σ = [some (.ref p), some (.ref d), v2, v3] ∧ Same H H2 ∧ H2 d = some (.dK (tab (ptI rs) (rs.take i).flatten))) ⟨none, none, rfl, s0, upd_same⟩ ?_ ?_
    · rintro i σ H2 hi ⟨v2, v3, rfl, s2, hL⟩
      rw [show (0 : Int) + (i : Int) = (i : Int) by omega]
      have hr' : rs[i]? = some (rs[i]) := List.getElem?_eq_getElem hi
      obtain ⟨q, hq, hH⟩ := R.get hr'
      generalize rs[i] = r at hr' hH
      have hrow : r.length ≤ n := row_le D (List.mem_of_getElem? hr')
      have hfl := flat_take_le rs i
      rw [D.len] at hfl
      refine ⟨_, rfl, _, rfl, p, _, _, _, rfl, rfl, .of (s2 _ _ R.out), atI_nat (by rw [List.getElem?_map, hq]; rfl), q, rfl, ⟨_, .of (s2 _ _ hH)⟩, for_list (K := K) (a := q) (xs := r.map V.int) (fun j σ H3 => ∃ v3, σ = [some (.ref p), some (.ref d), some (.int (i : Int)), v3] ∧ Same H H3 ∧ H3 d = some (.dK (tab (ptI rs) ((rs.take i).flatten ++ r.take j)))) ⟨v3, rfl, s2, by rw [List.take_zero, List.append_nil]; exact hL⟩
        (fun j σ H3 _ hh => by obtain ⟨_, _, s4, _⟩ := hh; exact .of (s4 _ _ hH)) ?_ ?_⟩
      · rintro j z σ H3 hj ⟨v4, rfl, s4, hL4⟩
        obtain ⟨e, he, rfl⟩ := int_of hj
        have hjl : j < r.length := (List.getElem?_eq_some_iff.mp he).1
        have hval : (i : Int) = ptI rs e := by unfold ptI; rw [pt_uniq D.nd hr' (List.mem_of_getElem? he)]
        refine ⟨_, rfl, _, rfl, _, rfl, d, _, rfl, DPut.k (k := (Sum.inl e : Key)) hL4 (by rw [tab_length, List.length_append, List.length_take]; omega), _, rfl, s4.put hd, ?_⟩
        rw [upd_same, tab_put (take_new D.nd hr' he) hval, List.append_assoc, take_at he]
      · rintro σ H3 ⟨v4, rfl, s4, hL4⟩
        rw [List.length_map, List.take_length] at hL4
        exact ⟨_, _, rfl, s4, by rw [flat_take hr']; exact hL4⟩
    · rintro σ H2 ⟨v2, v3, rfl, s2, hL⟩
      rw [List.take_length] at hL
      exact ⟨_, rfl, k d H2 hd ⟨_, hL, by rw [tab_length, D.len], fun e he => tab_val ((D.mem e).mpr he)⟩ s2⟩

theorem scSomeRing : FnScope ["_law_rounds", "_law_start", "_law_far", "_law_ends", "_law_ring", "_law_step"] ["_law_rounds", "_law_start", "_law_far"] (defScope sSomeRing) := ⟨rfl, rfl, rfl, by decide +kernel, rfl, by decide +kernel, by decide +kernel⟩
theorem ok_someRing {f : Addr} {fd : FuncData} (any : Prop) (F : Fun K "_law_some_ring" "_law_some_ring" sSomeRing f fd) (T : Txt mg) (DRf : Def P w K mg base "_law_ring_from" 2 ["_law_rounds", "_law_end", "_law_far"] spRingFrom) (DPu : Def P w K mg base "_law_put" 1 ["_law_rounds", "_law_behind", "_law_end"] spPut) : FnOk P w K mg base CX0 3 f fd ["_law_rounds", "_law_start", "_law_far"] (spSomeRing any) := by
  refine F.ok scSomeRing (fun vs H Q E h => ?_) (fun cdv A outer s H vs Q E hr2 h => ?_)
  · obtain ⟨p, ps, rs, n, st, far, rfl, _⟩ := h
    rfl
  · obtain ⟨p, ps, rs, n, st, far, rfl, R, md, hn, hrs, hf, k⟩ := h
    have hs : sizeLine = 16777216 := sizeLine_eq
    have nd := scSomeRing.nd
    have hr1 : Room 1 _ := hr2.mono (by decide)
    have hu := hr2.units
    have D := md.dr
    have n2 := md.le2
    refine ⟨_, pss_cons (ps_set (i := 3) nd rfl (Or.inl rfl) (pe_callB (call_sum rfl) (by rfl) T.sum PyProof.Rows.boot_sum (pa_cons (pe_comp (te := tLen K 0) rfl (Blk.plain rfl (by decide +kernel) (by decide +kernel)) (pi_list (pv 0)) (fun _ _ _ _ => pts_nil) (fun _ _ _ _ => (pe_callB call_len_seq (by rfl) T.len PySem.boot_len (pa_cons (pv 0) pa_nil)))) pa_nil)))
      (pss_cons (ps_set (i := 4) nd rfl (Or.inl rfl) (pe_lst pa_nil))
      (pss_cons (ps_for PassesOwn.never rfl (pi_range1 (by rfl) T.range (pa_cons pe_int pa_nil)) (pg_name (i := 5) nd rfl (Or.inl rfl)) (pss_one (ps_if (pt_cmpR (op_eqD hu) (pv 4) (pe_lst pa_nil) (nomark _)) (pss_one (ps_set (i := 4) nd rfl (Or.inl rfl) (pcall DRf hr2 (pa_cons (pv 0) (pa_cons (pe_op op_mod (pe_op op_add (pv 1) (pv 5)) (pv 3)) (pa_cons (pv 2) pa_nil)))))) (pss_nil))))
      (pss_cons (ps_if (pt_cmpR (op_eqD hu) (pv 4) (pe_lst pa_nil) (nomark _)) (pss_cons (ps_expr (pcall DPu hr1 (pa_cons (pv 0) (pa_cons pe_int (pa_cons (pv 3) pa_nil)))))
      (pss_cons (ps_expr (pcall DPu hr1 (pa_cons (pv 0) (pa_cons pe_int (pa_cons (pe_op op_add (pv 3) pe_int) pa_nil)))))
      (pss_one (ps_set (i := 4) nd rfl (Or.inl rfl) (pe_lst (pa_cons (pv 3) pa_nil)))))) (pss_nil))
      (pss_one (ps_ret (pv 4)))))), ?_⟩
    refine ⟨_, rfl, p, rfl, ⟨_, .of R.out⟩, fun D' hD => lens_comp R hD (by omega) fun H1 s1 hd => ?_⟩
    refine ⟨D', rs.map fun r => (r.length : Int), rfl, .of (by rw [hd, List.map_map]; rfl), ?_⟩
    have e : (rs.map fun r => (r.length : Int)).sum = ((n : Nat) : Int) := by rw [lens_sum, D.len]
    dsimp only [gName]
    rw [e]
    refine ⟨(sz 0), fun l0 hl0 => ?_⟩
    have s2 : Same H1 (L2.upd H1 l0 (.lst [])) := (Same.refl H1).put hl0
    have hL0 := upd_same (H := H1) (a := l0) (o := .lst [])
    have sH := s1.trans s2
    generalize L2.upd H1 l0 (.lst []) = H2 at s2 hL0 sH
    refine ⟨12, rfl, by decide, by decide, ?_⟩
    refine for_range (n := 12) (fun i σ H3 => ∃ l q v5, σ = [some (.ref p), some (.int st), some (.int far), some (.int (n : Nat)), some (.ref l), v5] ∧ Same H H3 ∧ H3 l = some (.lst (q.map V.int)) ∧ (q = [] ∨ (inR n q ∧ RingB (ptI rs) q ∧ q.length ≤ 100)) ∧ l ∉ ps ∧ l ≠ p) ⟨l0, [], none, rfl, sH, hL0, .inl rfl, ?_, ?_⟩ ?_ ?_
    · exact mem_ne (R.same s1) hl0
    · exact fun z => by rw [z, (R.same s1).out] at hl0; cases hl0
    · rintro i σ H3 hi ⟨l, q, v5, rfl, s3, hL3, hq, nl1, nl2⟩
      refine ⟨_, rfl, (sz 0), fun z hz => ?_⟩
      have s4 : Same H3 (L2.upd H3 z (.lst [])) := (Same.refl H3).put hz
      have hZ := upd_same (H := H3) (a := z) (o := .lst [])
      have hL4 := s4 _ _ hL3
      have s34 := s3.trans s4
      generalize L2.upd H3 z (.lst []) = H4 at s4 hZ hL4 s34
      refine ⟨intsD q, intsD [], .ints (.of hL4), .ints (.of hZ), lay_ints _, lay_ints _, Nat.le_trans (depth_ints _) (by decide), _, rfl, ?_⟩
      rw [eqv_ints]
      refine ite2 (fun h => ?_) (fun h => ?_)
      · have hx0 : 0 ≤ (st + (0 + (i : Int))) % ((n : Nat) : Int) := Int.emod_nonneg _ (by omega)
        have hx1 : (st + (0 + (i : Int))) % ((n : Nat) : Int) < ((n : Nat) : Int) := Int.emod_lt_of_pos _ (by omega)
        refine ⟨_, rfl, _, rfl, _, rfl, _, _, rfl, rfl, _, rfl, _, _, rfl, rfl, (by show (0 : Int) < (n : Nat); omega), _, rfl, p, ps, rs, n, _, far, rfl, R.same s34, D, by omega, by omega, ⟨hx0, hx1⟩, hf, fun l5 q5 H5 hl5 hL5 hq5 s5 => ?_⟩
        exact ⟨l5, q5, _, rfl, s34.trans s5, hL5, hq5, mem_ne (R.same s34) hl5, fun z => by rw [z, (R.same s34).out] at hl5; cases hl5⟩
      · exact ⟨l, q, _, rfl, s34, hL4, hq, nl1, nl2⟩
    rintro σ H3 ⟨l, q, v5, rfl, s3, hL3, hq, nl1, nl2⟩
    refine ⟨_, rfl, (sz 0), fun z hz => ?_⟩
    have s4 : Same H3 (L2.upd H3 z (.lst [])) := (Same.refl H3).put hz
    have hZ := upd_same (H := H3) (a := z) (o := .lst [])
    have hL4 := s4 _ _ hL3
    have s34 := s3.trans s4
    generalize L2.upd H3 z (.lst []) = H4 at s4 hZ hL4 s34
    refine ⟨intsD q, intsD [], .ints (.of hL4), .ints (.of hZ), lay_ints _, lay_ints _, Nat.le_trans (depth_ints _) (by decide), _, rfl, ?_⟩
    rw [eqv_ints]
    have rowl : ∀ r ∈ rs, r.length ≤ 1000 := fun r hr => by have := row_le D hr; omega
    refine ite2 (fun h => ?_) (fun h => ?_)
    · refine ⟨_, rfl, _, rfl, p, ps, rs, 0, (n : Int), rfl, R.same s34, rowl, fun H5 R5 k5 => ?_⟩
      have row5 : ∀ r ∈ putIn rs 0 n, r.length ≤ 1000 := fun r hr => by
        obtain ⟨r0, h0, rfl⟩ := List.mem_map.mp hr
        have := row_le D h0
        unfold putRow
        split
        · have := (insAt_perm r0 0 n).length_eq
          rw [List.length_cons] at this
          omega
        · omega
      refine ⟨_, rfl, _, rfl, _, _, rfl, rfl, p, ps, putIn rs 0 n, 0, (n : Int) + 1, rfl, R5, row5, fun H6 R6 k6 => ?_⟩
      refine ⟨_, rfl, (sz 1), fun l7 hl7 => ⟨_, rfl, ?_⟩⟩
      have rg := loop_ring md
      refine k l7 [(n : Int)] _ (n + 2) _ md.loop (Nat.le_refl _) (by rw [putIn2_length]) (R6.same ((Same.refl H6).put hl7)) upd_same rg.1 rg.2 (by show 1 ≤ 100; decide)
    · have hne : q ≠ [] := fun z => h (decide_eq_true z)
      obtain ⟨q1, q2, q3⟩ := hq.resolve_left hne
      exact ⟨_, rfl, k l q rs n H4 md (by omega) rfl (R.same s34) hL4 q1 q2 q3⟩
end
end Ink

namespace Ink
open PySem L2
def spLaw (K : PySem.W.Frag) : Sp := fun vs H Q _ => ∃ (a : Addr) (ns : List Int), vs = [.ref a] ∧ SqL K H a (ns.map V.int) ∧ ns.length ≤ 63 ∧ ∀ H', Q (.bl true) H'
theorem hide {t1 t2 : TS} {D : Ends} {σ : St} {H : Hp} (h : ∀ u : TS, u = t2 → tSeq t1 u D σ H) : tSeq t1 t2 D σ H := h t2 rfl
structure Ans (H : Hp) (t : Addr) (wd : Str) (ls : List Addr) (As : Rs) : Prop where
  out : H t = some (.tup (.str wd :: ls.map V.ref))
  nd : ls.Nodup
  len : ls.length = As.length
  row : ∀ (i : Nat) (q : Addr) (r : List Int), ls[i]? = some q → As[i]? = some r → H q = some (.lst (r.map V.int))
theorem Told.ans {H : Hp} {t : Addr} {A B : List Int} (h : Told H t A B) : ∃ wd ls As, Ans H t wd ls As ∧ ((A = B ∧ wd = "one" ∧ As = [A]) ∨ (A ≠ B ∧ wd = "two" ∧ As = [A, B])) := by
  rcases h with ⟨e, l, h1, h2⟩ | ⟨e, l1, l2, h1, hn, h2, h3⟩
  · exact ⟨_, [l], [A], ⟨h1, by simp, rfl, fun i q r a b => by
      match i, a, b with
      | 0, a, b => cases a; cases b; exact h2
      | i + 1, a, b => simp at a⟩, .inl ⟨e, rfl, rfl⟩⟩
  · exact ⟨_, [l1, l2], [A, B], ⟨h1, by simp [hn], rfl, fun i q r a b => by
      match i, a, b with
      | 0, a, b => cases a; cases b; exact h2
      | 1, a, b => cases a; cases b; exact h3
      | i + 2, a, b => simp at a⟩, .inr ⟨e, rfl, rfl⟩⟩
theorem Ans.same {H H' : Hp} {t : Addr} {wd : Str} {ls : List Addr} {As : Rs} (h : Ans H t wd ls As) (s : Same H H') : Ans H' t wd ls As := ⟨s _ _ h.out, h.nd, h.len, fun i q r a b => s _ _ (h.row i q r a b)⟩
theorem dvs_rows {K : PySem.W.Frag} {H : Hp} : ∀ {ls : List Addr} {As : Rs}, ls.length = As.length → (∀ (i : Nat) (q : Addr) (r : List Int), ls[i]? = some q → As[i]? = some r → H q = some (.lst (r.map V.int))) → DatVs K H (ls.map V.ref) (As.map intsD)
  | [], [], _, _ => .nil
  | [], _ :: _, h, _ => by simp at h
  | _ :: _, [], h, _ => by simp at h
  | q :: ls, r :: As, h, hr => .cons (.ints (.of (hr 0 q r rfl rfl))) (dvs_rows (by simpa using h) fun i q' r' a b => hr (i + 1) q' r' (by simpa using a) (by simpa using b))
theorem Ans.dat {K : PySem.W.Frag} {H : Hp} {t : Addr} {wd : Str} {ls : List Addr} {As : Rs} (h : Ans H t wd ls As) : DatV K H (.ref t) (.tuple (.str wd :: As.map intsD)) := .tup (.of h.out) (.cons (.str _) (dvs_rows h.len h.row))
theorem mem_cls_self {lb : Nat → Int} {m i : Nat} (h : i < m) : ((i : Nat) : Int) ∈ cls lb m i := cls_mem.mpr ⟨by omega, by rw [Int.toNat_natCast]⟩
theorem eqv_ans (wd : Str) (As : Rs) : PyData.eqv (.tuple (.str wd :: As.map intsD)) (.tuple (.str wd :: As.map intsD)) = true := by
  rw [PyData.eqv, PyData.eqvAll, eqv_rowsAll, PyData.eqv]
  simp
theorem depth_ans (wd : Str) (As : Rs) : (PyData.tuple (.str wd :: As.map intsD)).depth ≤ 64 := by
  rw [PyData.depth, PyData.depthAll]
  have := depth_rowsAll As
  have : (PyData.str wd).depth = 0 := rfl
  omega
theorem lay_ans {wd : Str} (hw : PyData.strOk wd = true) (As : Rs) : (PyData.tuple (.str wd :: As.map intsD)).canLay0 = true := by
  rw [PyData.canLay0, PyData.canLayAll0, lay_rowsAll, PyData.canLay0, hw]
  rfl
section
variable {P : Program} {w : World} {K : PySem.W.Frag} {mg : Str → Option Value} {base : Heap}
theorem scLaw : FnScope ["_law_script", "_law_mode", "_law_rounds", "_law_ring", "_law_ends", "_law_handed", "_law_given", "_law_found", "_law_told", "_law_number", "_law_barred", "_law_open_ropes", "_law_pairs", "_law_heads", "_law_due", "_law_end", "_law_head"] ["_law_script"] (defScope sLaw) := ⟨rfl, rfl, rfl, by decide +kernel, rfl, by decide +kernel, by decide +kernel⟩
set_option maxHeartbeats 8000000 in
theorem ok_law {f : Addr} {fd : FuncData} (F : Fun K "law" "law" sLaw f fd) (T : Txt mg) (T3 : Txt3 mg) (DU : Def P w K mg base "_law_upto" 1 ["_law_script", "_law_small", "_law_great"] (spUpto K)) (DT : Def P w K mg base "_law_at" 1 ["_law_script", "_law_k"] (spAt K))
    (DD : Def P w K mg base "_law_drawn" 3 ["_law_cells", "_law_mode"] (spDrawn K)) (DSrA : ∀ any : Prop, Def P w K mg base "_law_some_ring" 3 ["_law_rounds", "_law_start", "_law_far"] (spSomeRing any)) (DC : Def P w K mg base "_law_copies" 1 ["_law_rounds"] spCopies)
    (DSd : Def P w K mg base "sides" 5 ["rounds", "ring"] spSides) (DR : Def P w K mg base "_law_are_rows" 2 ["_law_found"] spAreRows) (DO : Def P w K mg base "_law_faces_of" 2 ["_law_rounds"] spFaces) (DNo : Def P w K mg base "_law_number_of" 1 ["_law_told"] spPointsOf)
    (DGr : Def P w K mg base "_law_groups_of" 1 ["_law_many", "_law_pairs"] spGroups) (DA : Def P w K mg base "_law_across" 1 ["_law_end"] spAcross) : FnOk P w K mg base CX0 6 f fd ["_law_script"] (spLaw K) := by
  refine F.ok scLaw (fun vs H Q E h => ?_) (fun cdv A outer s H vs Q E hr5 h => ?_)
  · obtain ⟨a, ns, rfl, _⟩ := h
    rfl
  · obtain ⟨a, ns, rfl, hS, hns, k⟩ := h
    have hs : sizeLine = 16777216 := sizeLine_eq
    have nd := scLaw.nd
    have hr1 : Room 1 _ := hr5.mono (by decide)
    have hr2 : Room 2 _ := hr5.mono (by decide)
    have hr3 : Room 3 _ := hr5.mono (by decide)
    have hu := hr5.units
    have hu1 := hu_of hr5
    obtain ⟨sc, hsc, lsc, _⟩ := cut_ints ns none (some 100)
    obtain ⟨mode, hmode⟩ : ∃ m, m = sc.getD 0 0 % 3 := ⟨_, rfl⟩
    have DSr := DSrA (mode = 2)
    refine ⟨_, pss_cons (ps_set (i := 0) nd rfl (Or.inl rfl) (pe_slice sl_list (pv 0) po_none (po_some pe_int)))
      (pss_cons (ps_set (i := 1) nd rfl (Or.inl rfl) (pe_op op_mod (pcall DT hr1 (pa_cons (pv 0) (pa_cons pe_int pa_nil))) pe_int))
      (pss_cons (ps_set (i := 2) nd rfl (Or.inl rfl) (pcall DD hr3 (pa_cons (pe_slice sl_list (pv 0) (po_some pe_int) (po_some (pcall DU hr1 (pa_cons (pv 0) (pa_cons pe_int (pa_cons pe_int pa_nil)))))) (pa_cons (pv 1) pa_nil))))
      (pss_cons (ps_set (i := 3) nd rfl (Or.inl rfl) (pcall DSr hr3 (pa_cons (pv 2) (pa_cons (pe_op op_fdiv (pcall DT hr1 (pa_cons (pv 0) (pa_cons pe_int pa_nil))) pe_int) (pa_cons (pe_op op_mod (pcall DT hr1 (pa_cons (pv 0) (pa_cons pe_int pa_nil))) pe_int) pa_nil)))))
      (pss_cons (ps_set (i := 4) nd rfl (Or.inl rfl) (pe_callB (call_sum rfl) (by rfl) T.sum PyProof.Rows.boot_sum (pa_cons (pe_comp (te := tLen K 0) rfl (Blk.plain rfl (by decide +kernel) (by decide +kernel)) (pi_list (pv 2)) (fun _ _ _ _ => pts_nil) (fun _ _ _ _ => (pe_callB call_len_seq (by rfl) T.len PySem.boot_len (pa_cons (pv 0) pa_nil)))) pa_nil)))
      (pss_cons (ps_set (i := 5) nd rfl (Or.inl rfl) (pcall DC hr1 (pa_cons (pv 2) pa_nil)))
      (pss_cons (ps_set (i := 6) nd rfl (Or.inl rfl) (pe_callTy call_list_of (by rfl) T.list PyProof.Rows.boot_list (pa_cons (pv 3) pa_nil)))
      (pss_cons (ps_set (i := 7) nd rfl (Or.inl rfl) (pcall DSd hr5 (pa_cons (pv 5) (pa_cons (pv 6) pa_nil))))
      (pss_cons (ps_if (pw_or (pt_cmpR (op_neD hu) (pv 5) (pv 2) (nomark _)) (pw_or (pt_cmpR (op_neD hu) (pv 6) (pv 3) (nomark _)) (pw_or1 (pt_not (pt_val (pcall DR hr2 (pa_cons (pv 5) pa_nil))))))).pt (pss_one (ps_ret pe_bl)) (pss_nil))
      (pss_cons (ps_if (pw_or (pt_not (pt_val (pe_callB call_isi (by rfl) T.isi PyProof.Rows.boot_isinstance (pa_cons (pv 7) (pa_cons (pe_bltn (v := .ty "tuple") (by rfl) T3.tuple PyProof.Rows.boot_tuple rfl) pa_nil))))) (pw_or (pt_cmpR op_lt (pe_callB call_len_seq (by rfl) T.len PySem.boot_len (pa_cons (pv 7) pa_nil)) pe_int (nomark _)) (pw_or1 (pt_not (pt_val (pe_callB call_isi (by rfl) T.isi PyProof.Rows.boot_isinstance (pa_cons (pe_ix ix_tup (pv 7) pe_int (fun _ _ => rfl)) (pa_cons (pe_bltn (v := .ty "str") (by rfl) T3.str PyProof.Rows.boot_str rfl) pa_nil)))))))).pt (pss_one (ps_ret pe_bl)) (pss_nil))
      (pss_cons (ps_if (pt_not (pt_val (pcall DR hr2 (pa_cons (pe_callTy call_list_of (by rfl) T.list PyProof.Rows.boot_list (pa_cons (pe_slice sl_tup (pv 7) (po_some pe_int) po_none) pa_nil)) pa_nil)))) (pss_one (ps_ret pe_bl)) (pss_nil))
      (pss_cons (ps_set (i := 8) nd rfl (Or.inl rfl) (pcall DO hr2 (pa_cons (pv 2) pa_nil)))
      (pss_cons (ps_set (i := 9) nd rfl (Or.inr rfl) (pcall DNo hr1 (pa_cons (pv 8) pa_nil)))
      (pss_cons (ps_set (i := 10) nd rfl (Or.inr rfl) (pe_comp (te := _) rfl (Blk.plain rfl (by decide +kernel) (by decide +kernel)) (pi_list (pv 3)) (fun _ _ _ _ => pts_nil) (fun _ _ _ _ => (pe_op op_fdiv (pv 0) pe_int))))
      (pss_cons (ps_setComp (i0 := 11) (tc := tTest (tOp (rIn K true) (tVar 0) (tVar 1))) (te := tVar 0) nd rfl (Or.inl rfl) rfl (Blk.captN (caps := [10]) ["_law_script", "_law_mode", "_law_rounds", "_law_ring", "_law_ends", "_law_handed", "_law_given", "_law_found", "_law_told", "_law_number", "_law_barred", "_law_open_ropes", "_law_pairs", "_law_heads", "_law_due", "_law_end", "_law_head"] (defScope sLaw).names rfl rfl rfl (by decide +kernel) (by decide +kernel) (by decide +kernel)) (pi_range1 (by rfl) T.range (pa_cons (pe_op op_fdiv (pv 4) pe_int) pa_nil)) (fun _ _ _ _ => pts_one (pt_cmpR op_notIn_seq (pv 0) (pv 1) rfl)) (fun _ _ _ _ => pv 0))
      (pss_cons (ps_setComp (i0 := 12) (te := _) nd rfl (Or.inl rfl) rfl (Blk.captN (caps := [9]) ["_law_script", "_law_mode", "_law_rounds", "_law_ring", "_law_ends", "_law_handed", "_law_given", "_law_found", "_law_told", "_law_number", "_law_barred", "_law_open_ropes", "_law_pairs", "_law_heads", "_law_due", "_law_end", "_law_head"] (defScope sLaw).names rfl rfl rfl (by decide +kernel) (by decide +kernel) (by decide +kernel)) (pi_list (pv 11)) (fun _ _ _ _ => pts_nil) (fun _ _ _ _ => (pe_tup (pa_cons (pe_dget hu1 (pv 1) (pe_op op_mul pe_int (pv 0)) (fun _ _ => rfl)) (pa_cons (pe_dget hu1 (pv 1) (pe_op op_add (pe_op op_mul pe_int (pv 0)) pe_int) (fun _ _ => rfl)) pa_nil)))))
      (pss_cons (ps_set (i := 13) nd rfl (Or.inr rfl) (pcall DGr hr1 (pa_cons (pe_callB call_len_seq (by rfl) T.len PySem.boot_len (pa_cons (pv 8) pa_nil)) (pa_cons (pv 12) pa_nil))))
      (pss_cons (ps_set (i := 14) nd rfl (Or.inl rfl) (pe_lst pa_nil))
      (pss_cons (ps_for PassesOwn.never rfl (pi_list (pe_lst (pa_cons (pe_ix ix_list (pv 3) pe_int (fun _ _ => rfl)) (pa_cons (pcall DA hr1 (pa_cons (pe_ix ix_list (pv 3) pe_int (fun _ _ => rfl)) pa_nil)) pa_nil)))) (pg_name (i := 15) nd rfl (Or.inl rfl)) (pss_cons (ps_set (i := 16) nd rfl (Or.inr rfl) (pe_ix ix_list (pv 13) (pe_dget hu1 (pv 9) (pv 15) (fun _ _ => rfl)) (fun _ _ => rfl)))
      (pss_one (ps_expr (pe_bm PySem.F.plainAttrs_list PySem.F.slot_list_append PySem.F.type_list_append mt_append (pv 14) (pa_cons (pe_compC (te := tVar 0) (tc := tTest (tOp rEq (tOp (rIxL K) (tVar 1) (tVar 0)) (tVar 2))) rfl (Blk.captN (caps := [13, 16]) ["_law_script", "_law_mode", "_law_rounds", "_law_ring", "_law_ends", "_law_handed", "_law_given", "_law_found", "_law_told", "_law_number", "_law_barred", "_law_open_ropes", "_law_pairs", "_law_heads", "_law_due", "_law_end", "_law_head"] (defScope sLaw).names rfl rfl rfl (by decide +kernel) (by decide +kernel) (by decide +kernel)) (pi_range1 (by rfl) T.range (pa_cons (pe_callB call_len_seq (by rfl) T.len PySem.boot_len (pa_cons (pv 8) pa_nil)) pa_nil)) (fun _ _ _ _ => pts_one (pt_cmpR op_eq (pe_ix ix_list (pv 1) (pv 0) (fun _ _ => rfl)) (pv 2) (nomark _))) (fun _ _ _ _ => pv 0)) pa_nil))))))
      (pss_cons (ps_if (pt_cmpR (op_eqD hu) (pe_ix ix_list (pv 14) pe_int (fun _ _ => rfl)) (pe_ix ix_list (pv 14) pe_int (fun _ _ => rfl)) (nomark _)) (pss_one (ps_ret (pe_and (pe_cmpR op_eq (pv 1) pe_int (nomark _)) (pe_one (pe_cmpR (op_eqD hu) (pv 7) (pe_tup (pa_cons pe_str (pa_cons (pe_ix ix_list (pv 14) pe_int (fun _ _ => rfl)) pa_nil))) (nomark _)))))) (pss_nil))
      (pss_cons (ps_if (pt_cmpR (op_neD hu) (pv 7) (pe_tup (pa_cons pe_str (pa_cons (pe_ix ix_list (pv 14) pe_int (fun _ _ => rfl)) (pa_cons (pe_ix ix_list (pv 14) pe_int (fun _ _ => rfl)) pa_nil)))) (nomark _)) (pss_one (ps_ret pe_bl)) (pss_nil))
      (pss_cons (ps_if (pt_cmpR op_eq (pv 1) pe_int (nomark _)) (pss_one (ps_ret pe_bl)) (pss_nil))
      (pss_cons (ps_for PassesOwn.never rfl (pi_list (pv 3)) (pg_name (i := 15) nd rfl (Or.inl rfl)) (pss_one (ps_if (pw_or (pt_cmpR op_notIn_seq (pe_dget hu1 (pv 9) (pv 15) (fun _ _ => rfl)) (pe_ix ix_list (pv 14) pe_int (fun _ _ => rfl)) rfl) (pw_or1 (pt_cmpR op_notIn_seq (pe_dget hu1 (pv 9) (pcall DA hr1 (pa_cons (pv 15) pa_nil)) (fun _ _ => rfl)) (pe_ix ix_list (pv 14) pe_int (fun _ _ => rfl)) rfl))).pt (pss_one (ps_ret pe_bl)) (pss_nil))))
      (pss_one (ps_ret pe_bl)))))))))))))))))))))))), ?_⟩
    refine hide fun uT hT => ?_
    refine ⟨_, rfl, _, rfl, a, _, rfl, hS, fun a1 h1 => ?_⟩
    rw [hsc]
    have hS1 : SqL K (L2.upd H a1 (.lst (sc.map V.int))) a1 (sc.map V.int) := .of upd_same
    obtain ⟨cs, hcs, lcs, lcs2⟩ := cut_ints sc (some 2) (some 30)
    have hc28 : cs.length ≤ 28 := by
      have e1 : HT.sIx sc.length sc.length (some 30) = min 30 sc.length := sIx_le (k := 30)
      have e2 : HT.sIx sc.length 0 (some 2) = min 2 sc.length := sIx_le (k := 2)
      rw [e1, e2] at lcs2
      omega
    subst hT
    try dsimp only [gName, tNext]
    refine hide fun uT hT => ?_
    refine ⟨_, rfl, a1, sc, 0, rfl, hS1, _, _, rfl, rfl, (by show (0 : Int) < 3; decide), ?_⟩
    dsimp only [gName]
    rw [← hmode]
    clear hmode
    subst hT
    try dsimp only [gName, tNext]
    refine hide fun uT hT => ?_
    refine ⟨_, rfl, _, rfl, _, rfl, a1, sc, 30, 98, rfl, hS1, by omega, _, rfl, a1, _, rfl, hS1, fun a2 h2 => ?_⟩
    rw [hcs]
    have s2 : Same (L2.upd H a1 (.lst (sc.map V.int))) (L2.upd (L2.upd H a1 (.lst (sc.map V.int))) a2 (.lst (cs.map V.int))) := (Same.refl _).put h2
    have hS2 := s2.seq hS1
    refine ⟨_, rfl, a2, cs, mode, rfl, .of upd_same, by omega, fun p ps rs0 n0 H3 d hn0 hrs0 => ?_⟩
    have hS3 := d.same.seq hS2
    have hf : sc.getD 1 0 % 2 = 0 ∨ sc.getD 1 0 % 2 = 1 := by omega
    subst hT
    try dsimp only [gName, tNext]
    refine hide fun uT hT => ?_
    refine ⟨_, rfl, _, rfl, a1, sc, 1, rfl, hS3, _, _, rfl, rfl, ⟨by decide, by decide⟩, _, rfl, a1, sc, 1, rfl, hS3, _, _, rfl, rfl, (by show (0 : Int) < 2; decide), p, ps, rs0, n0, _, _, rfl, d.rows, d.made, by omega, by omega, hf, fun rl q rs n H4 md hn4 hrl4 R4 hQ4 hin hring hql => ?_⟩
    have D := md.dr
    have n2 := md.le2
    have hn64 : n < 64 := by omega
    have hr64 : rs.length < 64 := by omega
    obtain ⟨x0, qt, rfl⟩ : ∃ x t, q = x :: t := List.exists_cons_of_ne_nil hring.1
    have hx0 := hin x0 (by simp)
    have ax0 := acr_lt D.even hx0.1 hx0.2
    subst hT
    try dsimp only [gName, tNext]
    refine hide fun uT hT => ?_
    refine ⟨_, rfl, p, rfl, ⟨_, .of R4.out⟩, fun D' hD => lens_comp R4 hD (by omega) fun H5 s5 hd => ?_⟩
    refine ⟨D', rs.map fun r => (r.length : Int), rfl, .of (by rw [hd, List.map_map]; rfl), ?_⟩
    have e : (rs.map fun r => (r.length : Int)).sum = ((n : Nat) : Int) := by rw [lens_sum, D.len]
    dsimp only [gName]
    rw [e]
    have R5 := R4.same s5
    have hQ5 := s5 _ _ hQ4
    subst hT
    try dsimp only [gName, tNext]
    refine hide fun uT hT => ?_
    refine ⟨_, rfl, p, ps, rs, rfl, R5, by omega, fun p5 ps5 H6 R6 s6 _ _ => ?_⟩
    have hQ6 := s6 _ _ hQ5
    subst hT
    try dsimp only [gName, tNext]
    refine hide fun uT hT => ?_
    refine ⟨_, rfl, rl, _, rfl, .inl (.of hQ6), fun gl hgl => ?_⟩
    have s7 : Same H6 (L2.upd H6 gl (.lst ((x0 :: qt).map V.int))) := (Same.refl H6).put hgl
    have hG7 := upd_same (H := H6) (a := gl) (o := .lst ((x0 :: qt).map V.int))
    generalize L2.upd H6 gl (.lst ((x0 :: qt).map V.int)) = H7 at s7 hG7
    subst hT
    try dsimp only [gName, tNext]
    refine hide fun uT hT => ?_
    refine ⟨_, rfl, _, rfl, p5, gl, ps5, rs, n, x0 :: qt, rfl, R6.same s7, D, hn64, hr64, hG7, by omega, fun no => absurd hin no, fun _ no => absurd hring no, fun _ _ fs t H8 hF ht hTold s8 => ?_⟩
    have r8 := ((R5.same s6).same s7).same s8
    have R8 := (R6.same s7).same s8
    have hG8 := s8 _ _ hG7
    have hQ8 := s8 _ _ (s7 _ _ hQ6)
    subst hT
    try dsimp only [gName, tNext]
    refine hide fun uT hT => ?_
    refine ⟨_, rfl, _, rfl, rowsD rs, rowsD rs, R8.dat, r8.dat, lay_rows _, lay_rows _, Nat.le_trans (depth_rows _) (by decide), _, rfl, ?_⟩
    rw [eqv_rows]
    refine iteNS rfl ?_
    refine ⟨_, rfl, _, rfl, intsD _, intsD _, .ints (.of hG8), .ints (.of hQ8), lay_ints _, lay_ints _, Nat.le_trans (depth_ints _) (by decide), _, rfl, ?_⟩
    rw [eqv_ints]
    refine iteNS rfl ?_
    refine ⟨_, rfl, p5, ps5, rs, rfl, R8, _, rfl, iteF ?_⟩
    obtain ⟨wd, ls, As, hAns, hcase⟩ := hTold.ans
    have hlen : 1 ≤ ls.length ∧ ls.length ≤ 2 := by
      rw [hAns.len]
      rcases hcase with ⟨_, _, z⟩ | ⟨_, _, z⟩ <;> rw [z] <;> simp
    subst hT
    try dsimp only [gName, tNext]
    refine hide fun uT hT => ?_
    refine ⟨_, rfl, _, _, _, rfl, .tt (.of hAns.out), _, rfl, iteF ?_⟩
    refine ⟨_, rfl, t, _, rfl, .inr (.of hAns.out), _, _, rfl, rfl, _, rfl, ?_⟩
    refine ite2 (fun h => absurd (of_decide_eq_true h) (by rw [List.length_cons, List.length_map]; omega)) (fun _ => ?_)
    refine ⟨_, rfl, t, _, _, _, rfl, rfl, .of hAns.out, atI_nat (j := 0) rfl, _, _, _, rfl, .ss _, _, rfl, iteF ?_⟩
    have ecut : cutV (V.str wd :: ls.map V.ref) (some 1) none = ls.map V.ref := by
      unfold cutV
      have e1 : HT.sIx (V.str wd :: ls.map V.ref).length 0 (some 1) = min 1 (V.str wd :: ls.map V.ref).length := sIx_le (k := 1)
      have e2 : HT.sIx (V.str wd :: ls.map V.ref).length (V.str wd :: ls.map V.ref).length none = (V.str wd :: ls.map V.ref).length := rfl
      rw [e1, e2, show min 1 (V.str wd :: ls.map V.ref).length = 1 by rw [List.length_cons]; omega]
      show (ls.map V.ref).take _ = _
      exact List.take_of_length_le (by rw [List.length_cons]; exact Nat.le_refl _)
    subst hT
    try dsimp only [gName, tNext]
    refine hide fun uT hT => ?_
    refine ⟨_, rfl, _, rfl, t, _, rfl, .of hAns.out, ?_, fun tp htp => ?_⟩
    · intro z
      have e1 : HT.sIx (V.str wd :: ls.map V.ref).length 0 (some 1) = min 1 (V.str wd :: ls.map V.ref).length := sIx_le (k := 1)
      have z1 := z.1
      rw [e1, List.length_cons] at z1
      omega
    rw [ecut]
    have w1 : Same H8 (L2.upd H8 tp (.tup (ls.map V.ref))) := (Same.refl H8).put htp
    have hTp := upd_same (H := H8) (a := tp) (o := .tup (ls.map V.ref))
    generalize L2.upd H8 tp (.tup (ls.map V.ref)) = H9 at w1 hTp
    refine ⟨tp, _, rfl, .inr (.of hTp), fun ll hll => ?_⟩
    have w2 : Same H9 (L2.upd H9 ll (.lst (ls.map V.ref))) := (Same.refl H9).put hll
    have hLl := upd_same (H := H9) (a := ll) (o := .lst (ls.map V.ref))
    generalize L2.upd H9 ll (.lst (ls.map V.ref)) = H10 at w2 hLl
    have w12 := w1.trans w2
    have A10 := hAns.same w12
    refine ⟨ll, ls, As, rfl, ⟨hLl, A10.nd, A10.len, A10.row⟩, _, rfl, iteF ?_⟩
    have r10 := r8.same w12
    have hQ10 := w12 _ _ hQ8
    subst hT
    try dsimp only [gName, tNext]
    refine hide fun uT hT => ?_
    refine ⟨_, rfl, p, ps, rs, n, rfl, r10, D, by omega, fun p8 ps8 fs' H11 hF' R11 s11 _ _ => ?_⟩
    have ef : fs' = fs := hF'.uniq hF
    subst ef
    have cF := D.faces hF
    have DL : Dr fs' n := cF.dr D.even
    have lf : fs'.length ≤ n := by
      have := flat_ge (k := 1) (L := fs') fun r hr => List.length_pos_iff.mpr (cF.cyc r hr).ne
      rw [cF.len] at this
      omega
    have hQ11 := s11 _ _ hQ10
    have A11 := A10.same s11
    subst hT
    try dsimp only [gName, tNext]
    refine hide fun uT hT => ?_
    refine ⟨_, rfl, p8, ps8, fs', n, rfl, R11, DL, by omega, by omega, fun dn H12 hdn TBn s12 => ?_⟩
    have hQ12 := s12 _ _ hQ11
    have A12 := A11.same s12
    have R12 := R11.same s12
    subst hT
    try dsimp only [gName, tNext]
    refine hide fun uT hT => ?_
    refine ⟨_, rfl, rl, rfl, ⟨_, .of hQ12⟩, fun bl hbl => comp_list (xs := (x0 :: qt).map V.int) (fun j H2 => Same H12 H2 ∧ H2 bl = some (.lst ((((x0 :: qt).take j).map fun e => e / 2).map V.int))) ⟨(Same.refl H12).put hbl, upd_same⟩ (fun j H2 _ ⟨s2, _⟩ => .of (s2 _ _ hQ12)) ?_ ?_⟩
    · rintro j z H2 hj ⟨s2', hL⟩
      obtain ⟨x, hx, rfl⟩ := int_of hj
      have hjl : j < (x0 :: qt).length := (List.getElem?_eq_some_iff.mp hx).1
      refine yes_go ⟨_, rfl, _, _, rfl, rfl, ⟨by decide, by decide⟩, _, hL, (by rw [List.length_map, List.length_map, List.length_take]; omega), s2'.put hbl, ?_⟩
      rw [upd_same, take_at hx, List.map_append, List.map_append]; rfl
    rintro H13 ⟨s13, hB13⟩
    rw [List.length_map, List.take_length] at hB13
    have hm2 : ((n : Nat) : Int) / 2 = ((n / 2 : Nat) : Int) := by omega
    subst hT
    try dsimp only [gName, tNext]
    refine hide fun uT hT => ?_
    refine ⟨_, rfl, _, _, rfl, rfl, ⟨by decide, by decide⟩, _, rfl, ?_, ?_, fun ol hol => ?_⟩
    · show -(2 ^ 62) ≤ ((n : Nat) : Int) / 2; omega
    · show ((n : Nat) : Int) / 2 < 2 ^ 62; omega
    show ∃ W : Nat → Nat → Hp → Prop, _
    rw [hm2, Int.toNat_natCast]
    refine comp_range (fun i H2 => Same H13 H2 ∧ H2 ol = some (.lst ((ofN (butR (List.range i) ((x0 :: qt).map rope))).map V.int))) ⟨(Same.refl H13).put hol, upd_same⟩ ?_ ?_
    · rintro i H2 hi ⟨s2', hL⟩
      rw [show (0 : Int) + (i : Int) = (i : Int) by omega]
      have hb : (butR (List.range i) ((x0 :: qt).map rope)).length ≤ i := Nat.le_trans (List.length_filter_le _ _) (by rw [List.length_range]; exact Nat.le_refl _)
      have hiff : ((i : Int) ∈ (x0 :: qt).map fun e => e / 2) ↔ i ∈ (x0 :: qt).map rope := by
        have := rope_in hin (e := 2 * (i : Int)) (by omega)
        rw [rope_even, show 2 * (i : Int) / 2 = (i : Int) by omega] at this
        exact this.symm
      refine ⟨_, rfl, _, rfl, bl, _, rfl, .inl (.of (s2' _ _ hB13)), rfl, flat_ints _, _, rfl, ?_⟩
      rw [in_ints]
      refine ite2 (fun hin' => ?_) (fun hin' => ?_)
      · have hi2 : i ∉ (x0 :: qt).map rope := fun z => by
          rw [decide_eq_true (hiff.mpr z)] at hin'
          exact absurd hin' (by decide)
        refine ⟨_, rfl, _, hL, (by rw [List.length_map, ofN_length]; omega), s2'.put hol, ?_⟩
        rw [upd_same, List.range_succ]
        unfold butR
        rw [List.filter_append, List.filter_cons, if_pos (by simpa using hi2), ofN_append, List.map_append]
        rfl
      · have hi2 : i ∈ (x0 :: qt).map rope := by
          apply Classical.byContradiction
          intro z
          exact hin' (by rw [decide_eq_false fun y => z (hiff.mp y)]; rfl)
        refine ⟨s2', ?_⟩
        rw [List.range_succ]
        unfold butR at hL ⊢
        rw [List.filter_append, List.filter_cons, if_neg (fun z => absurd hi2 (of_decide_eq_true z)), List.filter_nil, List.append_nil]
        exact hL
    rintro H14 ⟨s14, hO14⟩
    have eO : butR (List.range (n / 2)) ((x0 :: qt).map rope) = openR n (x0 :: qt) := rfl
    rw [eO] at hO14
    have hOl := openR_lt D.even (x0 :: qt)
    have lO : (openR n (x0 :: qt)).length ≤ n / 2 := Nat.le_trans (List.length_filter_le _ _) (by unfold allR; rw [List.length_range]; exact Nat.le_refl _)
    have TB14 := (TBn.same s13).same s14
    subst hT
    try dsimp only [gName, tNext]
    refine hide fun uT hT => ?_
    refine ⟨_, rfl, ol, rfl, ⟨_, .of hO14⟩, fun pl hpl => comp_list (xs := (ofN (openR n (x0 :: qt))).map V.int) (fun j H2 => ∃ ts, Same H14 H2 ∧ Prs H2 pl ts (((openR n (x0 :: qt)).map (rp fs')).take j)) ⟨[], (Same.refl H14).put hpl, ⟨upd_same, rfl, fun i t p e => by simp at e⟩⟩ (fun j H2 _ ⟨_, s2', _⟩ => .of (s2' _ _ hO14)) ?_ ?_⟩
    · rintro j z H2 hj ⟨ts, s2', hP⟩
      obtain ⟨x, hx, rfl⟩ := int_of hj
      obtain ⟨r, hr', rfl⟩ := ofN_at hx
      have hjl : j < (openR n (x0 :: qt)).length := (List.getElem?_eq_some_iff.mp hr').1
      have hrn := hOl r (List.mem_of_getElem? hr')
      have T2' := TB14.same s2'
      have hts : ts.length = j := by rw [hP.len, List.length_take, List.length_map]; omega
      refine yes_go ⟨_, rfl, _, rfl, _, _, rfl, rfl, .inl ⟨by decide, by decide⟩, dn, _, rfl, T2'.get (e := 2 * (r : Int)) (by omega), _, rfl, _, rfl, _, _, rfl, rfl, .inl ⟨by decide, by decide⟩, _, _, rfl, rfl, dn, _, rfl, T2'.get (e := 2 * (r : Int) + 1) (by omega), (sz 2), fun t ht => ⟨ts.map V.ref, ?_, ?_, ts ++ [t], ?_, ?_⟩⟩
      · rw [upd_ne (ne_of_none hP.out ht)]; exact hP.out
      · rw [List.length_map]; omega
      · exact (s2'.put (s2'.free ht)).put hpl
      · rw [take_at (by rw [List.getElem?_map, hr']; rfl)]
        exact hP.snoc (p := rp fs' r) ht
    rintro H15 ⟨ts, s15, hP⟩
    rw [List.length_map, ofN_length, ← List.length_map (f := rp fs'), List.take_length] at hP
    have R15 := ((R12.same s13).same s14).same s15
    subst hT
    try dsimp only [gName, tNext]
    refine hide fun uT hT => ?_
    refine ⟨_, rfl, p8, _, rfl, .inl (.of R15.out), _, rfl, fs'.length, pl, ts, (openR n (x0 :: qt)).map (rp fs'), by rw [List.length_map, R15.len]; rfl, hP, rp_below DL hOl, by omega, fun hl H16 hhl hL16 s16 => ?_⟩
    have hh16 : H16 hl = some (.lst ((jn fs' (openR n (x0 :: qt))).map V.int)) := hL16
    have jlen : (jn fs' (openR n (x0 :: qt))).length = fs'.length := jn_length _ _
    have s26 := ((s13.trans s14).trans s15).trans s16
    have A16 := A12.same s26
    have hQ16 := s26 _ _ hQ12
    have TB16 := TBn.same s26
    have R16 := R15.same s16
    subst hT
    try dsimp only [gName, tNext]
    refine hide fun uT hT => ?_
    refine ⟨(sz 0), fun du hdu => ?_⟩
    have s17 : Same H16 (L2.upd H16 du (.lst [])) := (Same.refl H16).put hdu
    have hDu := upd_same (H := H16) (a := du) (o := .lst [])
    generalize L2.upd H16 du (.lst []) = H17 at s17 hDu
    have hQ17 := s17 _ _ hQ16
    subst hT
    try dsimp only [gName, tNext]
    refine hide fun uT hT => ?_
    refine ⟨_, rfl, rl, _, _, _, rfl, rfl, .of hQ17, atI_nat (j := 0) rfl, _, rfl, rl, _, _, _, rfl, rfl, .of hQ17, atI_nat (j := 0) rfl, x0, rfl, (sz 2), fun el hel => ?_⟩
    have s18 : Same H17 (L2.upd H17 el (.lst [.int x0, .int (acr x0)])) := (Same.refl H17).put hel
    have hEl := upd_same (H := H17) (a := el) (o := .lst [.int x0, .int (acr x0)])
    have hDu18 := s18 _ _ hDu
    generalize L2.upd H17 el (.lst [.int x0, .int (acr x0)]) = H18 at s18 hEl hDu18
    have s68 := s17.trans s18
    have lbd : ∀ i, rlb fs' n (x0 :: qt) i = (jn fs' (openR n (x0 :: qt))).getD i 0 := fun i => rfl
    refine ⟨el, rfl, ⟨_, .of hEl⟩, for_list (K := K) (a := el) (xs := [.int x0, .int (acr x0)]) (fun i σ H2 => ∃ v15 v16 qs, σ = [some (.ref a1), some (.int mode), some (.ref p), some (.ref rl), some (.int (n : Nat)), some (.ref p5), some (.ref gl), some (.ref t), some (.ref p8), some (.ref dn), some (.ref bl), some (.ref ol), some (.ref pl), some (.ref hl), some (.ref du), v15, v16] ∧ Same H16 H2 ∧ H2 el = some (.lst [.int x0, .int (acr x0)]) ∧ Rows H2 du qs (([x0, acr x0].take i).map fun y => cls (rlb fs' n (x0 :: qt)) fs'.length (pt fs' y)))
      ⟨none, none, [], rfl, s68, hEl, ⟨hDu18, List.nodup_nil, rfl, fun i q r e => by simp at e⟩⟩ (fun i σ H2 _ ⟨_, _, _, _, _, h, _⟩ => .of h) ?_ ?_⟩
    · rintro i y σ H2 hi ⟨v15, v16, qs, rfl, s2', hE2, R2⟩
      have hy : ∃ y' : Int, y = .int y' ∧ [x0, acr x0][i]? = some y' ∧ (0 ≤ y' ∧ y' < (n : Int)) := by
        match i, hi with
        | 0, hi => cases hi; exact ⟨_, rfl, rfl, hx0⟩
        | 1, hi => cases hi; exact ⟨_, rfl, rfl, ax0⟩
        | i + 2, hi => simp at hi
      obtain ⟨y, rfl, hiy, hyr⟩ := hy
      have hi2 : i < 2 := by have := (List.getElem?_eq_some_iff.mp hiy).1; simpa using this
      have hqs : qs.length = i := by rw [R2.len, List.length_map, List.length_take]; simp; omega
      have hpy := DL.pt_lt hyr
      refine ⟨_, rfl, _, rfl, _, rfl, dn, _, rfl, (TB16.same s2').get hyr, hl, _, _, _, rfl, rfl, .of (s2' _ _ hh16), int_at (i := pt fs' y) (by omega) rfl, ?_⟩
      have R28 := R16.same s2'
      refine ⟨_, rfl, .inl ⟨rfl, _, .of R2.out⟩, _, rfl, p8, _, rfl, .inl (.of R28.out), _, rfl, by omega, (by rw [List.length_map, R28.len]; omega), fun ce hce => ?_⟩
      rw [Int.toNat_natCast, List.length_map, R28.len]
      refine comp_range (fun j H3 => Same H2 H3 ∧ H3 ce = some (.lst (((nums j).filter fun z => decide (rlb fs' n (x0 :: qt) z.toNat = rlb fs' n (x0 :: qt) (pt fs' y))).map V.int))) ⟨(Same.refl H2).put hce, upd_same⟩ ?_ ?_
      · rintro j H3 hj ⟨s3', hL⟩
        rw [show (0 : Int) + (j : Int) = (j : Int) by omega]
        have hle := List.length_filter_le (fun z : Int => decide (rlb fs' n (x0 :: qt) z.toNat = rlb fs' n (x0 :: qt) (pt fs' y))) (nums j)
        rw [nums_length] at hle
        refine ⟨_, rfl, _, rfl, hl, _, _, _, rfl, rfl, .of (s3' _ _ (s2' _ _ hh16)), int_at (i := j) (by omega) rfl, _, rfl, rfl, _, rfl, ?_⟩
        refine ite2 (fun h => ?_) (fun h => ?_)
        · have h' := of_decide_eq_true h
          injection h' with h'
          have hl' : rlb fs' n (x0 :: qt) j = rlb fs' n (x0 :: qt) (pt fs' y) := h'
          refine ⟨_, rfl, _, hL, by rw [List.length_map]; omega, s3'.put hce, ?_⟩
          rw [upd_same, nums_succ, List.filter_append, List.map_append]
          have e1 : (List.filter (fun z : Int => decide (rlb fs' n (x0 :: qt) z.toNat = rlb fs' n (x0 :: qt) (pt fs' y))) [(j : Int)]).map V.int = [V.int (j : Int)] := by
            rw [List.filter_cons, if_pos (by rw [Int.toNat_natCast]; exact decide_eq_true hl')]
            rfl
          rw [e1]
        · have hl' : ¬ rlb fs' n (x0 :: qt) j = rlb fs' n (x0 :: qt) (pt fs' y) := fun z => h (decide_eq_true (congrArg V.int z))
          refine ⟨s3', ?_⟩
          rw [hL, nums_succ, List.filter_append]
          have e1 : List.filter (fun z : Int => decide (rlb fs' n (x0 :: qt) z.toNat = rlb fs' n (x0 :: qt) (pt fs' y))) [(j : Int)] = [] := by
            rw [List.filter_cons, if_neg (by rw [Int.toNat_natCast, decide_eq_false hl']; decide)]
            rfl
          rw [e1, List.append_nil]
      rintro H3 ⟨s3', hL3⟩
      have R3 := R2.same s3'
      have hcd : ce ≠ du := fun z => by rw [z, R2.out] at hce; cases hce
      refine ⟨du, _, _, rfl, rfl, R3.out, (by rw [List.length_map]; omega), _, _, qs ++ [ce], rfl, (s2'.trans s3').put hdu, ?_, ?_⟩
      · rw [upd_ne (fun z => by rw [z, R2.out] at hE2; rcases qs with _ | ⟨a0, _ | ⟨b0, cc⟩⟩ <;> simp at hE2)]
        exact s3' _ _ hE2
      · rw [take_at hiy, List.map_append]
        exact R3.snoc hL3 (mem_ne R2 hce) hcd
    rintro σ H19 ⟨v15, v16, qs, rfl, s19, _, R19⟩
    have A19 := A16.same s19
    have hQ19 := s19 _ _ hQ16
    have TB19 := TB16.same s19
    obtain ⟨q1, hq1, hR1⟩ := R19.get (i := 0) rfl
    obtain ⟨q2, hq2, hR2⟩ := R19.get (i := 1) rfl
    have i1 := atI_nat (j := 0) (show (qs.map V.ref)[0]? = some (V.ref q1) by rw [List.getElem?_map, hq1]; rfl)
    have i2 := atI_nat (j := 1) (show (qs.map V.ref)[1]? = some (V.ref q2) by rw [List.getElem?_map, hq2]; rfl)
    have hR1 : H19 q1 = some (.lst ((cls (rlb fs' n (x0 :: qt)) fs'.length (pt fs' x0)).map V.int)) := hR1
    have hR2 : H19 q2 = some (.lst ((cls (rlb fs' n (x0 :: qt)) fs'.length (pt fs' (acr x0))).map V.int)) := hR2
    have hcase : (cls (rlb fs' n (x0 :: qt)) fs'.length (pt fs' x0) = cls (rlb fs' n (x0 :: qt)) fs'.length (pt fs' (acr x0)) ∧ wd = "one" ∧ As = [cls (rlb fs' n (x0 :: qt)) fs'.length (pt fs' x0)]) ∨ (cls (rlb fs' n (x0 :: qt)) fs'.length (pt fs' x0) ≠ cls (rlb fs' n (x0 :: qt)) fs'.length (pt fs' (acr x0)) ∧ wd = "two" ∧ As = [cls (rlb fs' n (x0 :: qt)) fs'.length (pt fs' x0), cls (rlb fs' n (x0 :: qt)) fs'.length (pt fs' (acr x0))]) := hcase
    generalize hAd : cls (rlb fs' n (x0 :: qt)) fs'.length (pt fs' x0) = CA at hR1 hcase
    generalize hBd : cls (rlb fs' n (x0 :: qt)) fs'.length (pt fs' (acr x0)) = CB at hR2 hcase
    have Q := RingB.ring hin hring
    have DD' : Dual rs fs' n := .of D cF
    subst hT
    try dsimp only [gName, tNext]
    refine hide fun uT hT => ?_
    refine ⟨_, rfl, du, _, _, _, rfl, rfl, .of R19.out, i1, _, rfl, du, _, _, _, rfl, rfl, .of R19.out, i2, intsD CA, intsD CB, .ints (.of hR1), .ints (.of hR2), lay_ints _, lay_ints _, Nat.le_trans (depth_ints _) (by decide), _, rfl, ?_⟩
    rw [eqv_ints]
    have hDu19 := R19.out
    have hpx := DL.pt_lt hx0
    have hpa := DL.pt_lt ax0
    have same_of : CA = CB → jl fs' (openR n (x0 :: qt)) x0 = jl fs' (openR n (x0 :: qt)) (acr x0) := fun z => by
      have h1 : ((pt fs' x0 : Nat) : Int) ∈ CA := by rw [← hAd]; exact mem_cls_self hpx
      rw [z, ← hBd] at h1
      have h2 := (cls_mem.mp h1).2
      rw [Int.toNat_natCast] at h2
      exact h2
    refine ite2 (fun h => ?_) (fun h => ?_)
    · have hAB : CA = CB := of_decide_eq_true h
      obtain ⟨_, ew, eA⟩ := hcase.resolve_right (fun z => z.1 hAB)
      subst ew
      subst eA
      have hm : mode = 2 := Classical.byContradiction fun hm => by
        obtain ⟨F, C, ct, _, ee⟩ := md.euler
        have ee := ee hm
        obtain ⟨L, cL, hL⟩ := ct.fcs
        have hc : fs'.length = L.length := cF.count cL
        exact Q.parts D cF ct.pcs (by omega) rfl (same_of hAB)
      refine ⟨_, rfl, rfl, _, rfl, ?_⟩
      rw [hm]
      refine iteT ⟨_, rfl, _, rfl, du, _, _, _, rfl, rfl, .of hDu19, i1, (sz 2), fun tt htt => ⟨_, .tuple (.str "one" :: [CA].map intsD), (A19.same ((Same.refl H19).put htt)).dat, .tup (.of upd_same) (.cons (.str _) (.cons (.ints (.of (((Same.refl H19).put htt) _ _ hR1))) .nil)), lay_ans (by decide +kernel) _, lay_ans (by decide +kernel) _, depth_ans _ _, ?_⟩⟩
      rw [eqv_ans]
      exact k _
    · have hAB : CA ≠ CB := fun z => h (decide_eq_true z)
      subst hT
      obtain ⟨_, ew, eA⟩ := hcase.resolve_left (fun z => hAB z.1)
      subst ew
      subst eA
      refine ⟨_, rfl, _, rfl, du, _, _, _, rfl, rfl, .of hDu19, i1, _, rfl, du, _, _, _, rfl, rfl, .of hDu19, i2, (sz 3), fun tt htt => ⟨_, .tuple (.str "two" :: [CA, CB].map intsD), (A19.same ((Same.refl H19).put htt)).dat, .tup (.of upd_same) (.cons (.str _) (.cons (.ints (.of (((Same.refl H19).put htt) _ _ hR1))) (.cons (.ints (.of (((Same.refl H19).put htt) _ _ hR2))) .nil))), lay_ans (by decide +kernel) _, lay_ans (by decide +kernel) _, depth_ans _ _, _, rfl, ?_⟩⟩
      rw [eqv_ans]
      refine iteF ?_
      have s20 : Same H19 (L2.upd H19 tt (.tup [.str "two", .ref q1, .ref q2])) := (Same.refl H19).put htt
      generalize L2.upd H19 tt (.tup [.str "two", .ref q1, .ref q2]) = H20 at s20
      refine ⟨_, rfl, rfl, _, rfl, ?_⟩
      refine ite2 (fun _ => k _) (fun _ => ?_)
      have hQ20 := s20 _ _ hQ19
      have TB20 := TB19.same s20
      refine ⟨_, rfl, rl, rfl, ⟨_, .of hQ20⟩, for_list (K := K) (a := rl) (xs := (x0 :: qt).map V.int) (fun i σ H2 => ∃ w15, σ = [some (.ref a1), some (.int mode), some (.ref p), some (.ref rl), some (.int (n : Nat)), some (.ref p5), some (.ref gl), some (.ref t), some (.ref p8), some (.ref dn), some (.ref bl), some (.ref ol), some (.ref pl), some (.ref hl), some (.ref du), w15, v16] ∧ Same H20 H2) ⟨_, rfl, Same.refl _⟩ (fun i σ H2 _ ⟨_, _, s⟩ => .of (s _ _ hQ20)) ?_ ?_⟩
      · rintro i y σ H2 hi ⟨w15, rfl, s2'⟩
        obtain ⟨x, hx, rfl⟩ := int_of hi
        have hxr := hin x (List.mem_of_getElem? hx)
        have axr := acr_lt D.even hxr.1 hxr.2
        have sd := Q.side DD' rfl i x hx
        have TB2 := TB20.same s2'
        have m1 : ((pt fs' x : Nat) : Int) ∈ CA := by
          rw [← hAd]
          exact cls_mem.mpr ⟨by have := DL.pt_lt hxr; omega, by rw [Int.toNat_natCast]; exact sd.1⟩
        have m2 : ((pt fs' (acr x) : Nat) : Int) ∈ CB := by
          rw [← hBd]
          exact cls_mem.mpr ⟨by have := DL.pt_lt axr; omega, by rw [Int.toNat_natCast]; exact sd.2⟩
        refine ⟨_, rfl, _, rfl, dn, _, rfl, TB2.get hxr, _, rfl, du, _, _, _, rfl, rfl, .of (s2' _ _ (s20 _ _ hDu19)), i1, q1, _, rfl, .inl (.of (s2' _ _ (s20 _ _ hR1))), rfl, flat_ints _, _, rfl, ?_⟩
        rw [in_ints]
        refine iteNS m1 ?_
        refine ⟨_, rfl, _, rfl, x, rfl, dn, _, rfl, TB2.get axr, _, rfl, du, _, _, _, rfl, rfl, .of (s2' _ _ (s20 _ _ hDu19)), i2, q2, _, rfl, .inl (.of (s2' _ _ (s20 _ _ hR2))), rfl, flat_ints _, _, rfl, ?_⟩
        rw [in_ints]
        exact iteNS m2 ⟨_, rfl, s2'⟩
      · rintro σ H3 ⟨w15, rfl, s3⟩
        exact k _
end
end Ink

namespace Ink
open PySem L2
theorem len1 {α : Type} {l : List α} (h : l.length = 1) : ∃ a0, l = [a0] := by
  match l, h with
  | [a0], _ => exact ⟨a0, rfl⟩
theorem len2 {α : Type} {l : List α} (h : l.length = 2) : ∃ a0 a1, l = [a0, a1] := by
  match l, h with
  | [a0, a1], _ => exact ⟨a0, a1, rfl⟩
theorem len3 {α : Type} {l : List α} (h : l.length = 3) : ∃ a0 a1 a2, l = [a0, a1, a2] := by
  match l, h with
  | [a0, a1, a2], _ => exact ⟨a0, a1, a2, rfl⟩
theorem all_mk {l : PySem.W.OpenLaw} {w : World} {K : PySem.W.Frag} {h : Heap} {mg : Str → Option Value} {fa f0 f1 f2 f3 f4 f5 f6 f7 f8 f9 f10 f11 f12 f13 f14 f15 f16 f17 f18 f19 f20 f21 f22 f23 f24 f25 f26 f27 f28 f29 f30 f31 : Addr} (X : K.In h) (G : h.Ns mainGlobals mg) (hfa : mg "law" = some (.ref fa))
    {od0 an0 : Option Addr} {sl0 : Array (Option Value)} {oc0 kV0 dc0 pm0 cd0 ct0 : Value}
    {od1 an1 : Option Addr} {sl1 : Array (Option Value)} {oc1 kV1 dc1 pm1 cd1 ct1 : Value}
    {od2 an2 : Option Addr} {sl2 : Array (Option Value)} {oc2 kV2 dc2 pm2 cd2 ct2 : Value}
    {od3 an3 : Option Addr} {sl3 : Array (Option Value)} {oc3 kV3 dc3 pm3 cd3 ct3 : Value}
    {od4 an4 : Option Addr} {sl4 : Array (Option Value)} {oc4 kV4 dc4 pm4 cd4 ct4 : Value}
    {od5 an5 : Option Addr} {sl5 : Array (Option Value)} {oc5 kV5 dc5 pm5 cd5 ct5 : Value}
    {od6 an6 : Option Addr} {sl6 : Array (Option Value)} {oc6 kV6 dc6 pm6 cd6 ct6 : Value}
    {od7 an7 : Option Addr} {sl7 : Array (Option Value)} {oc7 kV7 dc7 pm7 cd7 ct7 : Value}
    {od8 an8 : Option Addr} {sl8 : Array (Option Value)} {oc8 kV8 dc8 pm8 cd8 ct8 : Value}
    {od9 an9 : Option Addr} {sl9 : Array (Option Value)} {oc9 kV9 dc9 pm9 cd9 ct9 : Value}
    {od10 an10 : Option Addr} {sl10 : Array (Option Value)} {oc10 kV10 dc10 pm10 cd10 ct10 : Value}
    {od11 an11 : Option Addr} {sl11 : Array (Option Value)} {oc11 kV11 dc11 pm11 cd11 ct11 : Value}
    {od12 an12 : Option Addr} {sl12 : Array (Option Value)} {oc12 kV12 dc12 pm12 cd12 ct12 : Value}
    {od13 an13 : Option Addr} {sl13 : Array (Option Value)} {oc13 kV13 dc13 pm13 cd13 ct13 : Value}
    {od14 an14 : Option Addr} {sl14 : Array (Option Value)} {oc14 kV14 dc14 pm14 cd14 ct14 : Value}
    {od15 an15 : Option Addr} {sl15 : Array (Option Value)} {oc15 kV15 dc15 pm15 cd15 ct15 : Value}
    {od16 an16 : Option Addr} {sl16 : Array (Option Value)} {oc16 kV16 dc16 pm16 cd16 ct16 : Value}
    {od17 an17 : Option Addr} {sl17 : Array (Option Value)} {oc17 kV17 dc17 pm17 cd17 ct17 : Value}
    {od18 an18 : Option Addr} {sl18 : Array (Option Value)} {oc18 kV18 dc18 pm18 cd18 ct18 : Value}
    {od19 an19 : Option Addr} {sl19 : Array (Option Value)} {oc19 kV19 dc19 pm19 cd19 ct19 : Value}
    {od20 an20 : Option Addr} {sl20 : Array (Option Value)} {oc20 kV20 dc20 pm20 cd20 ct20 : Value}
    {od21 an21 : Option Addr} {sl21 : Array (Option Value)} {oc21 kV21 dc21 pm21 cd21 ct21 : Value}
    {od22 an22 : Option Addr} {sl22 : Array (Option Value)} {oc22 kV22 dc22 pm22 cd22 ct22 : Value}
    {od23 an23 : Option Addr} {sl23 : Array (Option Value)} {oc23 kV23 dc23 pm23 cd23 ct23 : Value}
    {od24 an24 : Option Addr} {sl24 : Array (Option Value)} {oc24 kV24 dc24 pm24 cd24 ct24 : Value}
    {od25 an25 : Option Addr} {sl25 : Array (Option Value)} {oc25 kV25 dc25 pm25 cd25 ct25 : Value}
    {od26 an26 : Option Addr} {sl26 : Array (Option Value)} {oc26 kV26 dc26 pm26 cd26 ct26 : Value}
    {od27 an27 : Option Addr} {sl27 : Array (Option Value)} {oc27 kV27 dc27 pm27 cd27 ct27 : Value}
    {od28 an28 : Option Addr} {sl28 : Array (Option Value)} {oc28 kV28 dc28 pm28 cd28 ct28 : Value}
    {od29 an29 : Option Addr} {sl29 : Array (Option Value)} {oc29 kV29 dc29 pm29 cd29 ct29 : Value}
    {od30 an30 : Option Addr} {sl30 : Array (Option Value)} {oc30 kV30 dc30 pm30 cd30 ct30 : Value}
    {od31 an31 : Option Addr} {sl31 : Array (Option Value)} {oc31 kV31 dc31 pm31 cd31 ct31 : Value}
    (a0 : PySem.W.nsIn K mainGlobals "_law_upto" = some (some (.ref f0))) (l0 : K.lookup f0 = some ⟨oc0, od0, .func (PySem.W.fnOf "_law_upto" "_law_upto" (defArgs sUpto) (defBody sUpto) (defScope sUpto) .none kV0 dc0 pm0 an0 cd0 ct0), sl0⟩) (c0 : PySem.W.codeIn K cd0 "_law_upto" = true) (k0 : PySem.W.keepIn K (.ref f0) = true)
    (a1 : PySem.W.nsIn K mainGlobals "_law_at" = some (some (.ref f1))) (l1 : K.lookup f1 = some ⟨oc1, od1, .func (PySem.W.fnOf "_law_at" "_law_at" (defArgs sAt) (defBody sAt) (defScope sAt) .none kV1 dc1 pm1 an1 cd1 ct1), sl1⟩) (c1 : PySem.W.codeIn K cd1 "_law_at" = true) (k1 : PySem.W.keepIn K (.ref f1) = true)
    (a2 : PySem.W.nsIn K mainGlobals "_law_across" = some (some (.ref f2))) (l2 : K.lookup f2 = some ⟨oc2, od2, .func (PySem.W.fnOf "_law_across" "_law_across" (defArgs sAcross) (defBody sAcross) (defScope sAcross) .none kV2 dc2 pm2 an2 cd2 ct2), sl2⟩) (c2 : PySem.W.codeIn K cd2 "_law_across" = true) (k2 : PySem.W.keepIn K (.ref f2) = true)
    (a3 : PySem.W.nsIn K mainGlobals "_law_next_in" = some (some (.ref f3))) (l3 : K.lookup f3 = some ⟨oc3, od3, .func (PySem.W.fnOf "_law_next_in" "_law_next_in" (defArgs sNextIn) (defBody sNextIn) (defScope sNextIn) .none kV3 dc3 pm3 an3 cd3 ct3), sl3⟩) (c3 : PySem.W.codeIn K cd3 "_law_next_in" = true) (k3 : PySem.W.keepIn K (.ref f3) = true)
    (a4 : PySem.W.nsIn K mainGlobals "_law_face_of" = some (some (.ref f4))) (l4 : K.lookup f4 = some ⟨oc4, od4, .func (PySem.W.fnOf "_law_face_of" "_law_face_of" (defArgs sFaceOf) (defBody sFaceOf) (defScope sFaceOf) .none kV4 dc4 pm4 an4 cd4 ct4), sl4⟩) (c4 : PySem.W.codeIn K cd4 "_law_face_of" = true) (k4 : PySem.W.keepIn K (.ref f4) = true)
    (a5 : PySem.W.nsIn K mainGlobals "_law_put" = some (some (.ref f5))) (l5 : K.lookup f5 = some ⟨oc5, od5, .func (PySem.W.fnOf "_law_put" "_law_put" (defArgs sPut) (defBody sPut) (defScope sPut) .none kV5 dc5 pm5 an5 cd5 ct5), sl5⟩) (c5 : PySem.W.codeIn K cd5 "_law_put" = true) (k5 : PySem.W.keepIn K (.ref f5) = true)
    (a6 : PySem.W.nsIn K mainGlobals "_law_drawn" = some (some (.ref f6))) (l6 : K.lookup f6 = some ⟨oc6, od6, .func (PySem.W.fnOf "_law_drawn" "_law_drawn" (defArgs sDrawn) (defBody sDrawn) (defScope sDrawn) .none kV6 dc6 pm6 an6 cd6 ct6), sl6⟩) (c6 : PySem.W.codeIn K cd6 "_law_drawn" = true) (k6 : PySem.W.keepIn K (.ref f6) = true)
    (a7 : PySem.W.nsIn K mainGlobals "_law_point_of" = some (some (.ref f7))) (l7 : K.lookup f7 = some ⟨oc7, od7, .func (PySem.W.fnOf "_law_point_of" "_law_point_of" (defArgs sPointL) (defBody sPointL) (defScope sPointL) .none kV7 dc7 pm7 an7 cd7 ct7), sl7⟩) (c7 : PySem.W.codeIn K cd7 "_law_point_of" = true) (k7 : PySem.W.keepIn K (.ref f7) = true)
    (a8 : PySem.W.nsIn K mainGlobals "_law_ring_from" = some (some (.ref f8))) (l8 : K.lookup f8 = some ⟨oc8, od8, .func (PySem.W.fnOf "_law_ring_from" "_law_ring_from" (defArgs sRingFrom) (defBody sRingFrom) (defScope sRingFrom) .none kV8 dc8 pm8 an8 cd8 ct8), sl8⟩) (c8 : PySem.W.codeIn K cd8 "_law_ring_from" = true) (k8 : PySem.W.keepIn K (.ref f8) = true)
    (a9 : PySem.W.nsIn K mainGlobals "_law_some_ring" = some (some (.ref f9))) (l9 : K.lookup f9 = some ⟨oc9, od9, .func (PySem.W.fnOf "_law_some_ring" "_law_some_ring" (defArgs sSomeRing) (defBody sSomeRing) (defScope sSomeRing) .none kV9 dc9 pm9 an9 cd9 ct9), sl9⟩) (c9 : PySem.W.codeIn K cd9 "_law_some_ring" = true) (k9 : PySem.W.keepIn K (.ref f9) = true)
    (a10 : PySem.W.nsIn K mainGlobals "_law_copies" = some (some (.ref f10))) (l10 : K.lookup f10 = some ⟨oc10, od10, .func (PySem.W.fnOf "_law_copies" "_law_copies" (defArgs sCopies) (defBody sCopies) (defScope sCopies) .none kV10 dc10 pm10 an10 cd10 ct10), sl10⟩) (c10 : PySem.W.codeIn K cd10 "_law_copies" = true) (k10 : PySem.W.keepIn K (.ref f10) = true)
    (a11 : PySem.W.nsIn K mainGlobals "all_ends" = some (some (.ref f11))) (l11 : K.lookup f11 = some ⟨oc11, od11, .func (PySem.W.fnOf "all_ends" "all_ends" (defArgs sAllEnds) (defBody sAllEnds) (defScope sAllEnds) .none kV11 dc11 pm11 an11 cd11 ct11), sl11⟩) (c11 : PySem.W.codeIn K cd11 "all_ends" = true) (k11 : PySem.W.keepIn K (.ref f11) = true)
    (a12 : PySem.W.nsIn K mainGlobals "is_drawing" = some (some (.ref f12))) (l12 : K.lookup f12 = some ⟨oc12, od12, .func (PySem.W.fnOf "is_drawing" "is_drawing" (defArgs sIsDrawing) (defBody sIsDrawing) (defScope sIsDrawing) .none kV12 dc12 pm12 an12 cd12 ct12), sl12⟩) (c12 : PySem.W.codeIn K cd12 "is_drawing" = true) (k12 : PySem.W.keepIn K (.ref f12) = true)
    (a13 : PySem.W.nsIn K mainGlobals "refuse_no_drawing" = some (some (.ref f13))) (l13 : K.lookup f13 = some ⟨oc13, od13, .func (PySem.W.fnOf "refuse_no_drawing" "refuse_no_drawing" (defArgs sRefuse) (defBody sRefuse) (defScope sRefuse) .none kV13 dc13 pm13 an13 cd13 ct13), sl13⟩) (c13 : PySem.W.codeIn K cd13 "refuse_no_drawing" = true) (k13 : PySem.W.keepIn K (.ref f13) = true)
    (a14 : PySem.W.nsIn K mainGlobals "points_of_ends" = some (some (.ref f14))) (l14 : K.lookup f14 = some ⟨oc14, od14, .func (PySem.W.fnOf "points_of_ends" "points_of_ends" (defArgs sPointsOf) (defBody sPointsOf) (defScope sPointsOf) .none kV14 dc14 pm14 an14 cd14 ct14), sl14⟩) (c14 : PySem.W.codeIn K cd14 "points_of_ends" = true) (k14 : PySem.W.keepIn K (.ref f14) = true)
    (a15 : PySem.W.nsIn K mainGlobals "refuse_no_ends" = some (some (.ref f15))) (l15 : K.lookup f15 = some ⟨oc15, od15, .func (PySem.W.fnOf "refuse_no_ends" "refuse_no_ends" (defArgs sRefNoEnds) (defBody sRefNoEnds) (defScope sRefNoEnds) .none kV15 dc15 pm15 an15 cd15 ct15), sl15⟩) (c15 : PySem.W.codeIn K cd15 "refuse_no_ends" = true) (k15 : PySem.W.keepIn K (.ref f15) = true)
    (a16 : PySem.W.nsIn K mainGlobals "across" = some (some (.ref f16))) (l16 : K.lookup f16 = some ⟨oc16, od16, .func (PySem.W.fnOf "across" "across" (defArgs sAcrossP) (defBody sAcrossP) (defScope sAcrossP) .none kV16 dc16 pm16 an16 cd16 ct16), sl16⟩) (c16 : PySem.W.codeIn K cd16 "across" = true) (k16 : PySem.W.keepIn K (.ref f16) = true)
    (a17 : PySem.W.nsIn K mainGlobals "leads_round" = some (some (.ref f17))) (l17 : K.lookup f17 = some ⟨oc17, od17, .func (PySem.W.fnOf "leads_round" "leads_round" (defArgs sLeads) (defBody sLeads) (defScope sLeads) .none kV17 dc17 pm17 an17 cd17 ct17), sl17⟩) (c17 : PySem.W.codeIn K cd17 "leads_round" = true) (k17 : PySem.W.keepIn K (.ref f17) = true)
    (a18 : PySem.W.nsIn K mainGlobals "nothing_twice" = some (some (.ref f18))) (l18 : K.lookup f18 = some ⟨oc18, od18, .func (PySem.W.fnOf "nothing_twice" "nothing_twice" (defArgs sTwice) (defBody sTwice) (defScope sTwice) .none kV18 dc18 pm18 an18 cd18 ct18), sl18⟩) (c18 : PySem.W.codeIn K cd18 "nothing_twice" = true) (k18 : PySem.W.keepIn K (.ref f18) = true)
    (a19 : PySem.W.nsIn K mainGlobals "refuse_no_ring" = some (some (.ref f19))) (l19 : K.lookup f19 = some ⟨oc19, od19, .func (PySem.W.fnOf "refuse_no_ring" "refuse_no_ring" (defArgs sRefNoRing) (defBody sRefNoRing) (defScope sRefNoRing) .none kV19 dc19 pm19 an19 cd19 ct19), sl19⟩) (c19 : PySem.W.codeIn K cd19 "refuse_no_ring" = true) (k19 : PySem.W.keepIn K (.ref f19) = true)
    (a20 : PySem.W.nsIn K mainGlobals "next_ends" = some (some (.ref f20))) (l20 : K.lookup f20 = some ⟨oc20, od20, .func (PySem.W.fnOf "next_ends" "next_ends" (defArgs sNextEnds) (defBody sNextEnds) (defScope sNextEnds) .none kV20 dc20 pm20 an20 cd20 ct20), sl20⟩) (c20 : PySem.W.codeIn K cd20 "next_ends" = true) (k20 : PySem.W.keepIn K (.ref f20) = true)
    (a21 : PySem.W.nsIn K mainGlobals "face_from" = some (some (.ref f21))) (l21 : K.lookup f21 = some ⟨oc21, od21, .func (PySem.W.fnOf "face_from" "face_from" (defArgs sFaceFrom) (defBody sFaceFrom) (defScope sFaceFrom) .none kV21 dc21 pm21 an21 cd21 ct21), sl21⟩) (c21 : PySem.W.codeIn K cd21 "face_from" = true) (k21 : PySem.W.keepIn K (.ref f21) = true)
    (a22 : PySem.W.nsIn K mainGlobals "faces" = some (some (.ref f22))) (l22 : K.lookup f22 = some ⟨oc22, od22, .func (PySem.W.fnOf "faces" "faces" (defArgs sFaces) (defBody sFaces) (defScope sFaces) .none kV22 dc22 pm22 an22 cd22 ct22), sl22⟩) (c22 : PySem.W.codeIn K cd22 "faces" = true) (k22 : PySem.W.keepIn K (.ref f22) = true)
    (a23 : PySem.W.nsIn K mainGlobals "ends_off_ropes" = some (some (.ref f23))) (l23 : K.lookup f23 = some ⟨oc23, od23, .func (PySem.W.fnOf "ends_off_ropes" "ends_off_ropes" (defArgs sOffRopes) (defBody sOffRopes) (defScope sOffRopes) .none kV23 dc23 pm23 an23 cd23 ct23), sl23⟩) (c23 : PySem.W.codeIn K cd23 "ends_off_ropes" = true) (k23 : PySem.W.keepIn K (.ref f23) = true)
    (a24 : PySem.W.nsIn K mainGlobals "piece_from" = some (some (.ref f24))) (l24 : K.lookup f24 = some ⟨oc24, od24, .func (PySem.W.fnOf "piece_from" "piece_from" (defArgs sPieceFrom) (defBody sPieceFrom) (defScope sPieceFrom) .none kV24 dc24 pm24 an24 cd24 ct24), sl24⟩) (c24 : PySem.W.codeIn K cd24 "piece_from" = true) (k24 : PySem.W.keepIn K (.ref f24) = true)
    (a25 : PySem.W.nsIn K mainGlobals "sides" = some (some (.ref f25))) (l25 : K.lookup f25 = some ⟨oc25, od25, .func (PySem.W.fnOf "sides" "sides" (defArgs sSides) (defBody sSides) (defScope sSides) .none kV25 dc25 pm25 an25 cd25 ct25), sl25⟩) (c25 : PySem.W.codeIn K cd25 "sides" = true) (k25 : PySem.W.keepIn K (.ref f25) = true)
    (a26 : PySem.W.nsIn K mainGlobals "_law_whole" = some (some (.ref f26))) (l26 : K.lookup f26 = some ⟨oc26, od26, .func (PySem.W.fnOf "_law_whole" "_law_whole" (defArgs sWhole) (defBody sWhole) (defScope sWhole) .none kV26 dc26 pm26 an26 cd26 ct26), sl26⟩) (c26 : PySem.W.codeIn K cd26 "_law_whole" = true) (k26 : PySem.W.keepIn K (.ref f26) = true)
    (a27 : PySem.W.nsIn K mainGlobals "_law_are_rows" = some (some (.ref f27))) (l27 : K.lookup f27 = some ⟨oc27, od27, .func (PySem.W.fnOf "_law_are_rows" "_law_are_rows" (defArgs sAreRows) (defBody sAreRows) (defScope sAreRows) .none kV27 dc27 pm27 an27 cd27 ct27), sl27⟩) (c27 : PySem.W.codeIn K cd27 "_law_are_rows" = true) (k27 : PySem.W.keepIn K (.ref f27) = true)
    (a28 : PySem.W.nsIn K mainGlobals "_law_faces_of" = some (some (.ref f28))) (l28 : K.lookup f28 = some ⟨oc28, od28, .func (PySem.W.fnOf "_law_faces_of" "_law_faces_of" (defArgs sFacesOf) (defBody sFacesOf) (defScope sFacesOf) .none kV28 dc28 pm28 an28 cd28 ct28), sl28⟩) (c28 : PySem.W.codeIn K cd28 "_law_faces_of" = true) (k28 : PySem.W.keepIn K (.ref f28) = true)
    (a29 : PySem.W.nsIn K mainGlobals "_law_number_of" = some (some (.ref f29))) (l29 : K.lookup f29 = some ⟨oc29, od29, .func (PySem.W.fnOf "_law_number_of" "_law_number_of" (defArgs sNumberOf) (defBody sNumberOf) (defScope sNumberOf) .none kV29 dc29 pm29 an29 cd29 ct29), sl29⟩) (c29 : PySem.W.codeIn K cd29 "_law_number_of" = true) (k29 : PySem.W.keepIn K (.ref f29) = true)
    (a30 : PySem.W.nsIn K mainGlobals "_law_groups_of" = some (some (.ref f30))) (l30 : K.lookup f30 = some ⟨oc30, od30, .func (PySem.W.fnOf "_law_groups_of" "_law_groups_of" (defArgs sGroups) (defBody sGroups) (defScope sGroups) .none kV30 dc30 pm30 an30 cd30 ct30), sl30⟩) (c30 : PySem.W.codeIn K cd30 "_law_groups_of" = true) (k30 : PySem.W.keepIn K (.ref f30) = true)
    (a31 : PySem.W.nsIn K mainGlobals "law" = some (some (.ref f31))) (l31 : K.lookup f31 = some ⟨oc31, od31, .func (PySem.W.fnOf "law" "law" (defArgs sLaw) (defBody sLaw) (defScope sLaw) .none kV31 dc31 pm31 an31 cd31 ct31), sl31⟩) (c31 : PySem.W.codeIn K cd31 "law" = true) (k31 : PySem.W.keepIn K (.ref f31) = true)
    (z0 : PySem.W.nsIn K mainGlobals "len" = some none) (z1 : PySem.W.nsIn K mainGlobals "range" = some none) (z2 : PySem.W.nsIn K mainGlobals "sum" = some none) (z3 : PySem.W.nsIn K mainGlobals "list" = some none) (z4 : PySem.W.nsIn K mainGlobals "int" = some none) (z5 : PySem.W.nsIn K mainGlobals "bool" = some none) (z6 : PySem.W.nsIn K mainGlobals "isinstance" = some none) (z7 : PySem.W.nsIn K mainGlobals "sorted" = some none) (z8 : PySem.W.nsIn K mainGlobals "enumerate" = some none) (z9 : PySem.W.nsIn K mainGlobals "set" = some none) (z10 : PySem.W.nsIn K mainGlobals "tuple" = some none) (z11 : PySem.W.nsIn K mainGlobals "str" = some none)
     :
    ∃ fd : FuncData, (∀ (s : Shared) (v : Value), BindsTo s fd ⟨[v], []⟩ [("_law_script", v)]) ∧ ∀ base : Heap, K.In base → base.Ns mainGlobals mg → FnOk l.prog w K mg base CX0 6 fa fd ["_law_script"] (spLaw K) := by
  have e := hfa.symm.trans (PySem.W.mg_of X G a31)
  cases e
  have T : Txt mg := ⟨PySem.W.mg_none_of X G z0, PySem.W.mg_none_of X G z1, PySem.W.mg_none_of X G z2, PySem.W.mg_none_of X G z3, PySem.W.mg_none_of X G z4, PySem.W.mg_none_of X G z5, PySem.W.mg_none_of X G z6, PySem.W.mg_none_of X G z7, PySem.W.mg_none_of X G z8⟩
  have T2 : Txt3 mg := ⟨PySem.W.mg_none_of X G z9, PySem.W.mg_none_of X G z10, PySem.W.mg_none_of X G z11⟩
  have F0 := fun_mk (st := sUpto) l0 c0 k0
  have b0 := F0.binds (ps := ["_law_script", "_law_small", "_law_great"]) fun _ _ _ _ _ _ us hl => by obtain ⟨_, _, _, rfl⟩ := len3 hl; rfl
  have F1 := fun_mk (st := sAt) l1 c1 k1
  have b1 := F1.binds (ps := ["_law_script", "_law_k"]) fun _ _ _ _ _ _ us hl => by obtain ⟨_, _, rfl⟩ := len2 hl; rfl
  have F2 := fun_mk (st := sAcross) l2 c2 k2
  have b2 := F2.binds (ps := ["_law_end"]) fun _ _ _ _ _ _ us hl => by obtain ⟨_, rfl⟩ := len1 hl; rfl
  have F3 := fun_mk (st := sNextIn) l3 c3 k3
  have b3 := F3.binds (ps := ["_law_rounds", "_law_end"]) fun _ _ _ _ _ _ us hl => by obtain ⟨_, _, rfl⟩ := len2 hl; rfl
  have F4 := fun_mk (st := sFaceOf) l4 c4 k4
  have b4 := F4.binds (ps := ["_law_rounds", "_law_end"]) fun _ _ _ _ _ _ us hl => by obtain ⟨_, _, rfl⟩ := len2 hl; rfl
  have F5 := fun_mk (st := sPut) l5 c5 k5
  have b5 := F5.binds (ps := ["_law_rounds", "_law_behind", "_law_end"]) fun _ _ _ _ _ _ us hl => by obtain ⟨_, _, _, rfl⟩ := len3 hl; rfl
  have F6 := fun_mk (st := sDrawn) l6 c6 k6
  have b6 := F6.binds (ps := ["_law_cells", "_law_mode"]) fun _ _ _ _ _ _ us hl => by obtain ⟨_, _, rfl⟩ := len2 hl; rfl
  have F7 := fun_mk (st := sPointL) l7 c7 k7
  have b7 := F7.binds (ps := ["_law_rounds"]) fun _ _ _ _ _ _ us hl => by obtain ⟨_, rfl⟩ := len1 hl; rfl
  have F8 := fun_mk (st := sRingFrom) l8 c8 k8
  have b8 := F8.binds (ps := ["_law_rounds", "_law_end", "_law_far"]) fun _ _ _ _ _ _ us hl => by obtain ⟨_, _, _, rfl⟩ := len3 hl; rfl
  have F9 := fun_mk (st := sSomeRing) l9 c9 k9
  have b9 := F9.binds (ps := ["_law_rounds", "_law_start", "_law_far"]) fun _ _ _ _ _ _ us hl => by obtain ⟨_, _, _, rfl⟩ := len3 hl; rfl
  have F10 := fun_mk (st := sCopies) l10 c10 k10
  have b10 := F10.binds (ps := ["_law_rounds"]) fun _ _ _ _ _ _ us hl => by obtain ⟨_, rfl⟩ := len1 hl; rfl
  have F11 := fun_mk (st := sAllEnds) l11 c11 k11
  have b11 := F11.binds (ps := ["rounds"]) fun _ _ _ _ _ _ us hl => by obtain ⟨_, rfl⟩ := len1 hl; rfl
  have F12 := fun_mk (st := sIsDrawing) l12 c12 k12
  have b12 := F12.binds (ps := ["rounds"]) fun _ _ _ _ _ _ us hl => by obtain ⟨_, rfl⟩ := len1 hl; rfl
  have F13 := fun_mk (st := sRefuse) l13 c13 k13
  have b13 := F13.binds (ps := ["rounds"]) fun _ _ _ _ _ _ us hl => by obtain ⟨_, rfl⟩ := len1 hl; rfl
  have F14 := fun_mk (st := sPointsOf) l14 c14 k14
  have b14 := F14.binds (ps := ["rounds"]) fun _ _ _ _ _ _ us hl => by obtain ⟨_, rfl⟩ := len1 hl; rfl
  have F15 := fun_mk (st := sRefNoEnds) l15 c15 k15
  have b15 := F15.binds (ps := ["point_of", "ring"]) fun _ _ _ _ _ _ us hl => by obtain ⟨_, _, rfl⟩ := len2 hl; rfl
  have F16 := fun_mk (st := sAcrossP) l16 c16 k16
  have b16 := F16.binds (ps := ["end"]) fun _ _ _ _ _ _ us hl => by obtain ⟨_, rfl⟩ := len1 hl; rfl
  have F17 := fun_mk (st := sLeads) l17 c17 k17
  have b17 := F17.binds (ps := ["point_of", "ring"]) fun _ _ _ _ _ _ us hl => by obtain ⟨_, _, rfl⟩ := len2 hl; rfl
  have F18 := fun_mk (st := sTwice) l18 c18 k18
  have b18 := F18.binds (ps := ["numbers"]) fun _ _ _ _ _ _ us hl => by obtain ⟨_, rfl⟩ := len1 hl; rfl
  have F19 := fun_mk (st := sRefNoRing) l19 c19 k19
  have b19 := F19.binds (ps := ["point_of", "ring"]) fun _ _ _ _ _ _ us hl => by obtain ⟨_, _, rfl⟩ := len2 hl; rfl
  have F20 := fun_mk (st := sNextEnds) l20 c20 k20
  have b20 := F20.binds (ps := ["rounds"]) fun _ _ _ _ _ _ us hl => by obtain ⟨_, rfl⟩ := len1 hl; rfl
  have F21 := fun_mk (st := sFaceFrom) l21 c21 k21
  have b21 := F21.binds (ps := ["behind", "start"]) fun _ _ _ _ _ _ us hl => by obtain ⟨_, _, rfl⟩ := len2 hl; rfl
  have F22 := fun_mk (st := sFaces) l22 c22 k22
  have b22 := F22.binds (ps := ["rounds"]) fun _ _ _ _ _ _ us hl => by obtain ⟨_, rfl⟩ := len1 hl; rfl
  have F23 := fun_mk (st := sOffRopes) l23 c23 k23
  have b23 := F23.binds (ps := ["ends", "ropes"]) fun _ _ _ _ _ _ us hl => by obtain ⟨_, _, rfl⟩ := len2 hl; rfl
  have F24 := fun_mk (st := sPieceFrom) l24 c24 k24
  have b24 := F24.binds (ps := ["rounds", "point_of", "start"]) fun _ _ _ _ _ _ us hl => by obtain ⟨_, _, _, rfl⟩ := len3 hl; rfl
  have F25 := fun_mk (st := sSides) l25 c25 k25
  have b25 := F25.binds (ps := ["rounds", "ring"]) fun _ _ _ _ _ _ us hl => by obtain ⟨_, _, rfl⟩ := len2 hl; rfl
  have F26 := fun_mk (st := sWhole) l26 c26 k26
  have b26 := F26.binds (ps := ["_law_found"]) fun _ _ _ _ _ _ us hl => by obtain ⟨_, rfl⟩ := len1 hl; rfl
  have F27 := fun_mk (st := sAreRows) l27 c27 k27
  have b27 := F27.binds (ps := ["_law_found"]) fun _ _ _ _ _ _ us hl => by obtain ⟨_, rfl⟩ := len1 hl; rfl
  have F28 := fun_mk (st := sFacesOf) l28 c28 k28
  have b28 := F28.binds (ps := ["_law_rounds"]) fun _ _ _ _ _ _ us hl => by obtain ⟨_, rfl⟩ := len1 hl; rfl
  have F29 := fun_mk (st := sNumberOf) l29 c29 k29
  have b29 := F29.binds (ps := ["_law_told"]) fun _ _ _ _ _ _ us hl => by obtain ⟨_, rfl⟩ := len1 hl; rfl
  have F30 := fun_mk (st := sGroups) l30 c30 k30
  have b30 := F30.binds (ps := ["_law_many", "_law_pairs"]) fun _ _ _ _ _ _ us hl => by obtain ⟨_, _, rfl⟩ := len2 hl; rfl
  have F31 := fun_mk (st := sLaw) l31 c31 k31
  refine ⟨PySem.W.fnOf "law" "law" (defArgs sLaw) (defBody sLaw) (defScope sLaw) .none kV31 dc31 pm31 an31 cd31 ct31, fun s v => .of_eq rfl, fun base _ _ => ?_⟩
  have D0 : Def l.prog w K mg base "_law_upto" 1 ["_law_script", "_law_small", "_law_great"] (spUpto K) := ⟨⟨_, _, ok_upto F0 T, PySem.W.mg_of X G a0, k0, b0⟩⟩
  have D1 : Def l.prog w K mg base "_law_at" 1 ["_law_script", "_law_k"] (spAt K) := ⟨⟨_, _, ok_at F1 T, PySem.W.mg_of X G a1, k1, b1⟩⟩
  have D2 : Def l.prog w K mg base "_law_across" 1 ["_law_end"] spAcross := ⟨⟨_, _, ok_across F2, PySem.W.mg_of X G a2, k2, b2⟩⟩
  have D3 : Def l.prog w K mg base "_law_next_in" 1 ["_law_rounds", "_law_end"] spNextIn := ⟨⟨_, _, ok_nextIn F3 T, PySem.W.mg_of X G a3, k3, b3⟩⟩
  have D4 : Def l.prog w K mg base "_law_face_of" 2 ["_law_rounds", "_law_end"] spFaceOf := ⟨⟨_, _, ok_faceOf F4 D2 D3, PySem.W.mg_of X G a4, k4, b4⟩⟩
  have D5 : Def l.prog w K mg base "_law_put" 1 ["_law_rounds", "_law_behind", "_law_end"] spPut := ⟨⟨_, _, ok_put F5, PySem.W.mg_of X G a5, k5, b5⟩⟩
  have D6 : Def l.prog w K mg base "_law_drawn" 3 ["_law_cells", "_law_mode"] (spDrawn K) := ⟨⟨_, _, ok_drawn F6 T D2 D3 D4 D5, PySem.W.mg_of X G a6, k6, b6⟩⟩
  have D7 : Def l.prog w K mg base "_law_point_of" 1 ["_law_rounds"] spPointsOf := ⟨⟨_, _, ok_pointL F7 T, PySem.W.mg_of X G a7, k7, b7⟩⟩
  have D8 : Def l.prog w K mg base "_law_ring_from" 2 ["_law_rounds", "_law_end", "_law_far"] spRingFrom := ⟨⟨_, _, ok_ringFrom F8 T D7 D2, PySem.W.mg_of X G a8, k8, b8⟩⟩
  have D9 : ∀ any : Prop, Def l.prog w K mg base "_law_some_ring" 3 ["_law_rounds", "_law_start", "_law_far"] (spSomeRing any) := fun any => ⟨⟨_, _, ok_someRing any F9 T D8 D5, PySem.W.mg_of X G a9, k9, b9⟩⟩
  have D10 : Def l.prog w K mg base "_law_copies" 1 ["_law_rounds"] spCopies := ⟨⟨_, _, ok_copies F10 T, PySem.W.mg_of X G a10, k10, b10⟩⟩
  have D11 : Def l.prog w K mg base "all_ends" 1 ["rounds"] spAllEnds := ⟨⟨_, _, ok_allEnds F11, PySem.W.mg_of X G a11, k11, b11⟩⟩
  have D12 : Def l.prog w K mg base "is_drawing" 2 ["rounds"] spIsDrawing := ⟨⟨_, _, ok_isDrawing F12 T D11, PySem.W.mg_of X G a12, k12, b12⟩⟩
  have D13 : Def l.prog w K mg base "refuse_no_drawing" 3 ["rounds"] spRefuse := ⟨⟨_, _, ok_refuse F13 D12, PySem.W.mg_of X G a13, k13, b13⟩⟩
  have D14 : Def l.prog w K mg base "points_of_ends" 1 ["rounds"] spPointsX := ⟨⟨_, _, ok_pointsX F14 T, PySem.W.mg_of X G a14, k14, b14⟩⟩
  have D15 : Def l.prog w K mg base "refuse_no_ends" 1 ["point_of", "ring"] spRefNoEnds := ⟨⟨_, _, ok_refNoEnds F15, PySem.W.mg_of X G a15, k15, b15⟩⟩
  have D16 : Def l.prog w K mg base "across" 1 ["end"] spAcross := ⟨⟨_, _, ok_acrossP F16, PySem.W.mg_of X G a16, k16, b16⟩⟩
  have D17 : Def l.prog w K mg base "leads_round" 2 ["point_of", "ring"] spLeads := ⟨⟨_, _, ok_leads F17 T D16, PySem.W.mg_of X G a17, k17, b17⟩⟩
  have D18 : Def l.prog w K mg base "nothing_twice" 1 ["numbers"] spTwice := ⟨⟨_, _, ok_twice F18 T ⟨T2.set⟩, PySem.W.mg_of X G a18, k18, b18⟩⟩
  have D19 : Def l.prog w K mg base "refuse_no_ring" 3 ["point_of", "ring"] spRefNoRing := ⟨⟨_, _, ok_refNoRing F19 T D17 D18, PySem.W.mg_of X G a19, k19, b19⟩⟩
  have D20 : Def l.prog w K mg base "next_ends" 1 ["rounds"] spNextEnds := ⟨⟨_, _, ok_nextEnds F20 T, PySem.W.mg_of X G a20, k20, b20⟩⟩
  have D21 : Def l.prog w K mg base "face_from" 2 ["behind", "start"] spFaceFrom := ⟨⟨_, _, ok_faceFrom F21 D16, PySem.W.mg_of X G a21, k21, b21⟩⟩
  have D22 : Def l.prog w K mg base "faces" 4 ["rounds"] spFaces := ⟨⟨_, _, ok_faces F22 T D13 D20 D21, PySem.W.mg_of X G a22, k22, b22⟩⟩
  have D23 : Def l.prog w K mg base "ends_off_ropes" 1 ["ends", "ropes"] spOff := ⟨⟨_, _, ok_off F23, PySem.W.mg_of X G a23, k23, b23⟩⟩
  have D24 : Def l.prog w K mg base "piece_from" 2 ["rounds", "point_of", "start"] spPieceG := ⟨⟨_, _, ok_pieceG F24 T D16, PySem.W.mg_of X G a24, k24, b24⟩⟩
  have D25 : Def l.prog w K mg base "sides" 5 ["rounds", "ring"] spSides := ⟨⟨_, _, ok_sides F25 T D13 D14 D15 D19 D22 D23 D24 D16, PySem.W.mg_of X G a25, k25, b25⟩⟩
  have D26 : Def l.prog w K mg base "_law_whole" 1 ["_law_found"] spWhole := ⟨⟨_, _, ok_whole F26 T, PySem.W.mg_of X G a26, k26, b26⟩⟩
  have D27 : Def l.prog w K mg base "_law_are_rows" 2 ["_law_found"] spAreRows := ⟨⟨_, _, ok_areRows F27 T D26, PySem.W.mg_of X G a27, k27, b27⟩⟩
  have D28 : Def l.prog w K mg base "_law_faces_of" 2 ["_law_rounds"] spFaces := ⟨⟨_, _, ok_facesOf F28 T D2, PySem.W.mg_of X G a28, k28, b28⟩⟩
  have D29 : Def l.prog w K mg base "_law_number_of" 1 ["_law_told"] spPointsOf := ⟨⟨_, _, ok_numberOf F29 T, PySem.W.mg_of X G a29, k29, b29⟩⟩
  have D30 : Def l.prog w K mg base "_law_groups_of" 1 ["_law_many", "_law_pairs"] spGroups := ⟨⟨_, _, ok_groups F30 T, PySem.W.mg_of X G a30, k30, b30⟩⟩
  exact ok_law F31 T T2 D0 D1 D6 D9 D10 D25 D27 D28 D29 D30 D2
theorem walk {l : PySem.W.OpenLaw} {q : Program} {loose : List Str} {XP : (Str → Option Value) → Heap → Prop} {YP : World → Heap → Prop} {d : DefRec} {K : Params → PySem.W.Frag} (hn : l.most = some 63) (hdf : d.params.defaults = [])
    (hY : ∀ (w : World) (h : Heap), YP w h → (K w.params).In h)
    (F : ∀ (w : World) (mg : Str → Option Value) (fa : Addr) (h : Heap), (K w.params).In h → h.Ns mainGlobals mg → mg d.name = some (.ref fa) →
      ∃ fd : FuncData, (∀ (s : Shared) (u : Value), BindsTo s fd ⟨[u], []⟩ [("_law_script", u)]) ∧ ∀ base : Heap, (K w.params).In base → base.Ns mainGlobals mg → FnOk l.prog w (K w.params) mg base CX0 6 fa fd ["_law_script"] (spLaw (K w.params))) :
    PySem.W.WalkO q loose XP YP l.row.toRowW d [] (fun f vs => PySem.call f vs) :=
  L2.walk_of (n := 63) (k := 6) (x := "_law_script") (CX := fun _ => CX0) (sp := fun w => spLaw (K w.params)) hn (by decide) hdf ⟨rfl, by decide, by decide⟩ hY F (fun _ _ a ns hl _ hS => ⟨a, ns, rfl, hS, hl, fun _ => rfl⟩) fun _ _ _ _ _ z => z
end Ink
open PySem PySem.W PyProof.Rows
noncomputable def _root_.PySem.W.Fast.tw5478530516398941369 : PySem.Program := PySem.Challenge.pw_inkmap_k06_whole_sides
theorem _root_.PySem.W.Fast.te5478530516398941369 : PySem.Challenge.pw_inkmap_k06_whole_sides = PySem.W.Fast.tw5478530516398941369 := rfl
set_option maxRecDepth 100000 in
set_option maxHeartbeats 0 in
theorem PySem.Challenge.cw_inkmap_k06_whole_sides_holds : PySem.Challenge.rw_inkmap_k06_whole_sides.Holds := by
  w_on; o_law; k_head; (case hw => w_witness2)
  k_fill
  refine Ink.walk (l := PySem.Challenge.rw_inkmap_k06_whole_sides) rfl rfl (fun w h Y => PySem.W.kIn_of Y) ?F
  case F =>
    intro w mg fa h KX G hmg
    refine' Ink.all_mk KX G hmg ?a0 ?l0 ?c0 ?k0 ?a1 ?l1 ?c1 ?k1 ?a2 ?l2 ?c2 ?k2 ?a3 ?l3 ?c3 ?k3 ?a4 ?l4 ?c4 ?k4 ?a5 ?l5 ?c5 ?k5 ?a6 ?l6 ?c6 ?k6 ?a7 ?l7 ?c7 ?k7 ?a8 ?l8 ?c8 ?k8 ?a9 ?l9 ?c9 ?k9 ?a10 ?l10 ?c10 ?k10 ?a11 ?l11 ?c11 ?k11 ?a12 ?l12 ?c12 ?k12 ?a13 ?l13 ?c13 ?k13 ?a14 ?l14 ?c14 ?k14 ?a15 ?l15 ?c15 ?k15 ?a16 ?l16 ?c16 ?k16 ?a17 ?l17 ?c17 ?k17 ?a18 ?l18 ?c18 ?k18 ?a19 ?l19 ?c19 ?k19 ?a20 ?l20 ?c20 ?k20 ?a21 ?l21 ?c21 ?k21 ?a22 ?l22 ?c22 ?k22 ?a23 ?l23 ?c23 ?k23 ?a24 ?l24 ?c24 ?k24 ?a25 ?l25 ?c25 ?k25 ?a26 ?l26 ?c26 ?k26 ?a27 ?l27 ?c27 ?k27 ?a28 ?l28 ?c28 ?k28 ?a29 ?l29 ?c29 ?k29 ?a30 ?l30 ?c30 ?k30 ?a31 ?l31 ?c31 ?k31 ?z0 ?z1 ?z2 ?z3 ?z4 ?z5 ?z6 ?z7 ?z8 ?z9 ?z10 ?z11
    (case a0 => k_is)
    (case l0 => k_is)
    (case c0 => k_is)
    (case k0 => k_is)
    (case a1 => k_is)
    (case l1 => k_is)
    (case c1 => k_is)
    (case k1 => k_is)
    (case a2 => k_is)
    (case l2 => k_is)
    (case c2 => k_is)
    (case k2 => k_is)
    (case a3 => k_is)
    (case l3 => k_is)
    (case c3 => k_is)
    (case k3 => k_is)
    (case a4 => k_is)
    (case l4 => k_is)
    (case c4 => k_is)
    (case k4 => k_is)
    (case a5 => k_is)
    (case l5 => k_is)
    (case c5 => k_is)
    (case k5 => k_is)
    (case a6 => k_is)
    (case l6 => k_is)
    (case c6 => k_is)
    (case k6 => k_is)
    (case a7 => k_is)
    (case l7 => k_is)
    (case c7 => k_is)
    (case k7 => k_is)
    (case a8 => k_is)
    (case l8 => k_is)
    (case c8 => k_is)
    (case k8 => k_is)
    (case a9 => k_is)
    (case l9 => k_is)
    (case c9 => k_is)
    (case k9 => k_is)
    (case a10 => k_is)
    (case l10 => k_is)
    (case c10 => k_is)
    (case k10 => k_is)
    (case a11 => k_is)
    (case l11 => k_is)
    (case c11 => k_is)
    (case k11 => k_is)
    (case a12 => k_is)
    (case l12 => k_is)
    (case c12 => k_is)
    (case k12 => k_is)
    (case a13 => k_is)
    (case l13 => k_is)
    (case c13 => k_is)
    (case k13 => k_is)
    (case a14 => k_is)
    (case l14 => k_is)
    (case c14 => k_is)
    (case k14 => k_is)
    (case a15 => k_is)
    (case l15 => k_is)
    (case c15 => k_is)
    (case k15 => k_is)
    (case a16 => k_is)
    (case l16 => k_is)
    (case c16 => k_is)
    (case k16 => k_is)
    (case a17 => k_is)
    (case l17 => k_is)
    (case c17 => k_is)
    (case k17 => k_is)
    (case a18 => k_is)
    (case l18 => k_is)
    (case c18 => k_is)
    (case k18 => k_is)
    (case a19 => k_is)
    (case l19 => k_is)
    (case c19 => k_is)
    (case k19 => k_is)
    (case a20 => k_is)
    (case l20 => k_is)
    (case c20 => k_is)
    (case k20 => k_is)
    (case a21 => k_is)
    (case l21 => k_is)
    (case c21 => k_is)
    (case k21 => k_is)
    (case a22 => k_is)
    (case l22 => k_is)
    (case c22 => k_is)
    (case k22 => k_is)
    (case a23 => k_is)
    (case l23 => k_is)
    (case c23 => k_is)
    (case k23 => k_is)
    (case a24 => k_is)
    (case l24 => k_is)
    (case c24 => k_is)
    (case k24 => k_is)
    (case a25 => k_is)
    (case l25 => k_is)
    (case c25 => k_is)
    (case k25 => k_is)
    (case a26 => k_is)
    (case l26 => k_is)
    (case c26 => k_is)
    (case k26 => k_is)
    (case a27 => k_is)
    (case l27 => k_is)
    (case c27 => k_is)
    (case k27 => k_is)
    (case a28 => k_is)
    (case l28 => k_is)
    (case c28 => k_is)
    (case k28 => k_is)
    (case a29 => k_is)
    (case l29 => k_is)
    (case c29 => k_is)
    (case k29 => k_is)
    (case a30 => k_is)
    (case l30 => k_is)
    (case c30 => k_is)
    (case k30 => k_is)
    (case a31 => k_is)
    (case l31 => k_is)
    (case c31 => k_is)
    (case k31 => k_is)
    (case z0 => k_is)
    (case z1 => k_is)
    (case z2 => k_is)
    (case z3 => k_is)
    (case z4 => k_is)
    (case z5 => k_is)
    (case z6 => k_is)
    (case z7 => k_is)
    (case z8 => k_is)
    (case z9 => k_is)
    (case z10 => k_is)
    (case z11 => k_is)
