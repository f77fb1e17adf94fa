import PyProof.Rows.All
import Wide.All
import OpenK.AllK
import Wide.FinOn
import Lean
import PyProof.EqAt
import PyProof.EqKinds
import PyProof.TupleCall
import KE.RegKTryMore
import KE.RegKIsAll
import PySem.Challenge.RW_inkmap_k10_whole_paper
set_option Elab.async false
set_option linter.all false
set_option maxRecDepth 100000
namespace L2
open PySem PySem.Spec PyProof.Rows
abbrev Key := Sum Int Str
def keyIs : Key → Value → Bool
  | .inl k, v => Value.isInt k v
  | .inr x, v => Value.isStrOf x v
def keyH (w : World) : Key → Int
  | .inl k => hashInt k
  | .inr x => hashStr w x
theorem keyIs_shape : ∀ {k : Key} {v : Value}, keyIs k v = true → (∃ i t, k = Sum.inl i ∧ v = Value.int i t) ∨ (∃ x t, k = Sum.inr x ∧ v = Value.str x t)
  | .inl i, v, h => by
    obtain ⟨t, e⟩ := Value.isInt_shape (k := i) (v := v) h
    exact .inl ⟨i, t, rfl, e⟩
  | .inr x, v, h => by
    obtain ⟨t, e⟩ := Value.isStrOf_shape (x := x) (v := v) h
    exact .inr ⟨x, t, rfl, e⟩
theorem keyIs_int (i : Int) (t : Tok) : keyIs (.inl i) (.int i t) = true := by simp [keyIs, Value.isInt]
theorem keyIs_str (x : Str) (t : Tok) : keyIs (.inr x) (.str x t) = true := by simp [keyIs, Value.isStrOf]
theorem key_ll (a b : Int) : decide ((Sum.inl a : Key) = Sum.inl b) = (a == b) := by
  by_cases e : a = b
  · subst e; simp
  · have h : ¬ (Sum.inl a : Key) = Sum.inl b := fun q => e (Sum.inl.inj q)
    rw [decide_eq_false h]
    exact (beq_eq_false_iff_ne.mpr e).symm
theorem key_rr (a b : Str) : decide ((Sum.inr a : Key) = Sum.inr b) = decide (a = b) := by
  by_cases e : a = b
  · subst e; simp
  · have h : ¬ (Sum.inr a : Key) = Sum.inr b := fun q => e (Sum.inr.inj q)
    rw [decide_eq_false h, decide_eq_false e]
theorem key_lr (a : Int) (b : Str) : decide ((Sum.inl a : Key) = Sum.inr b) = false := decide_eq_false (fun q => nomatch q)
theorem key_rl (a : Str) (b : Int) : decide ((Sum.inr a : Key) = Sum.inl b) = false := decide_eq_false (fun q => nomatch q)
def mixKind (prog : Program) (w : World) : PySem.KeyKind prog w Key where
  is := keyIs
  hash := keyH w
  inj := fun v a b ha hb => by
    rcases keyIs_shape ha with ⟨i, t, rfl, rfl⟩ | ⟨x, t, rfl, rfl⟩
    · rcases keyIs_shape hb with ⟨j, u, rfl, e⟩ | ⟨y, u, rfl, e⟩
      · injection e with e1 _; rw [e1]
      · exact nomatch e
    · rcases keyIs_shape hb with ⟨j, u, rfl, e⟩ | ⟨y, u, rfl, e⟩
      · exact nomatch e
      · injection e with e1 _; rw [e1]
  byValue := fun k v h => by
    rcases keyIs_shape h with ⟨i, t, rfl, rfl⟩ | ⟨x, t, rfl, rfl⟩ <;> rfl
  pyHash := fun hv h => by
    rcases keyIs_shape hv with ⟨i, t, rfl, rfl⟩ | ⟨x, t, rfl, rfl⟩
    · exact wpAny_pyHash_int h
    · exact wpAny_pyHash_str h
  eqBool := fun hu hv h => by
    rcases keyIs_shape hu with ⟨i, t, rfl, rfl⟩ | ⟨x, t, rfl, rfl⟩
    · rcases keyIs_shape hv with ⟨j, u, rfl, rfl⟩ | ⟨y, u, rfl, rfl⟩
      · rw [key_ll] at h; exact wpAny_eqBool_int h
      · rw [key_lr] at h; exact SeqAt.EqAt.int_str i t y u _ _ _ _ h
    · rcases keyIs_shape hv with ⟨j, u, rfl, rfl⟩ | ⟨y, u, rfl, rfl⟩
      · rw [key_rl] at h; exact SeqAt.EqAt.str_int x t j u _ _ _ _ h
      · rw [key_rr] at h; exact wpAny_eqBool_str h
  «strs» := fun k x t v h => by
    rcases keyIs_shape h with ⟨i, u, rfl, e⟩ | ⟨y, u, rfl, e⟩
    · exact nomatch e
    · injection e with e1 _
      subst e1
      cases v <;> rfl
theorem mixKind_int (prog : Program) (w : World) (i : Int) (t : Tok) : (mixKind prog w).is (.inl i) (.int i t) = true := keyIs_int i t
theorem mixKind_str (prog : Program) (w : World) (x : Str) (t : Tok) : (mixKind prog w).is (.inr x) (.str x t) = true := keyIs_str x t
end L2
namespace L2
open PySem PySem.Spec PyProof.Rows
inductive V where
  | non | bl (b : Bool) | int (i : Int) | str (x : Str) | byt (b : Array UInt8) | flt (b : UInt64) | ref (a : Addr) | ty (n : String)
  deriving DecidableEq
def RelV : V → Value → Prop
  | .non, u => u = Value.none
  | .bl b, u => u = Value.bool b
  | .int i, u => ∃ t, u = Value.int i t
  | .str x, u => ∃ t, u = Value.str x t
  | .byt b, u => ∃ t, u = Value.bytes b t
  | .flt b, u => ∃ t, u = Value.float b t
  | .ref a, u => u = Value.ref a
  | .ty n, u => u = Value.type n
abbrev Vals : List V → List Value → Prop := Paired RelV
theorem Vals.length {xs : List V} {us : List Value} (r : Vals xs us) : xs.length = us.length := Paired.length r
theorem Vals.get : ∀ {xs : List V} {us : List Value} {i : Nat} {x : V}, Vals xs us → xs[i]? = some x → ∃ u, us[i]? = some u ∧ RelV x u
  | _, _, _, _, .nil, e => by simp at e
  | _, _, 0, _, .cons r _, e => by simp at e; subst e; exact ⟨_, rfl, r⟩
  | _, _, i + 1, x, .cons _ t, e => by
    obtain ⟨u, h1, h2⟩ := Vals.get (i := i) (x := x) t (by simpa using e)
    exact ⟨u, by simpa using h1, h2⟩
theorem Vals.append : ∀ {xs ys : List V} {us ws : List Value}, Vals xs us → Vals ys ws → Vals (xs ++ ys) (us ++ ws)
  | _, _, _, _, .nil, s => s
  | _, _, _, _, .cons r t, s => .cons r (Vals.append t s)
theorem Vals.take : ∀ {xs : List V} {us : List Value} (n : Nat), Vals xs us → Vals (xs.take n) (us.take n)
  | _, _, 0, _ => .nil
  | _, _, _ + 1, .nil => .nil
  | _, _, n + 1, .cons r t => .cons r (Vals.take n t)
theorem Vals.drop : ∀ {xs : List V} {us : List Value} (n : Nat), Vals xs us → Vals (xs.drop n) (us.drop n)
  | _, _, 0, r => r
  | _, _, _ + 1, .nil => .nil
  | _, _, n + 1, .cons _ t => Vals.drop n t
def RelO : Option V → Option Value → Prop
  | some v, some u => RelV v u
  | none, none => True
  | _, _ => False
def KV {κ : Type} : List (κ × V) → List (κ × Value) → Prop := Paired fun (p : κ × V) (q : κ × Value) => p.1 = q.1 ∧ RelV p.2 q.2
def kV : Key → V
  | .inl i => .int i
  | .inr x => .str x
inductive HO where
  /-- a list -/
  | lst (xs : List V)
  /-- a tuple (never changes) -/
  | tup (xs : List V)
  /-- a dict whose keys are ints and texts; one whose keys are tuples of ints and texts (the empty one is both) -/
  | dK (kvs : List (Key × V)) | dT (kvs : List (List Key × V))
  /-- a set of ints: its members, its size -/
  | set (S : Int → Bool) (n : Nat)
  /-- an instance of the class at C, its dict at dx, its attributes -/
  | ins (C dx : Addr) (fs : List (Str × V))
  /-- the dict of the instance at x -/
  | own (x : Addr)
  /-- the dict of an exception -/
  | xd (fs : List (Str × V))
  /-- a bound method, f of x -/
  | met (f x : Addr)
  /-- a range object lo, lo + 1, .. below hi -/
  | rng (lo hi : Int)
  /-- a thing that is known to the object (the script; a dict while a loop walks it): read, never written while it is so -/
  | frz (o : Obj) (u : HO)
  /-- a code object's table -/
  | tbl (ps : Array Value)
  /-- any other thing, by what is true of its one object (a def of one's own: SetO a S n := HO.ext fun h => ..) -/
  | ext (φ : Heap → Prop)
abbrev Hp := Addr → Option HO
def upd (H : Hp) (a : Addr) (o : HO) : Hp := fun b => if b = a then some o else H b
theorem upd_same {H : Hp} {a : Addr} {o : HO} : upd H a o a = some o := by unfold upd; rw [if_pos rfl]
theorem upd_ne {H : Hp} {a b : Addr} {o : HO} (h : b ≠ a) : upd H a o b = H b := by unfold upd; rw [if_neg h]
theorem ne_of {H : Hp} {a b : Addr} {o u : HO} (h : H a = some o) (h' : H b = some u) (d : o ≠ u) : a ≠ b := by
  intro e; subst e; rw [h] at h'; exact d (Option.some.inj h')
theorem ne_of_none {H : Hp} {a b : Addr} {o : HO} (h : H a = some o) (h' : H b = none) : a ≠ b := by
  intro e; subst e; rw [h] at h'; cases h'
section
variable (P : Program) (w : World)
def ObjOk (H : Hp) (h : Heap) (a : Addr) : HO → Prop
  | .lst xs => xs.length ≤ sizeLine ∧ ∃ (its : List Value) (n : Nat), Vals xs its ∧ h.get? a = some { cls := .type "list", data := .seq its.toArray n }
  | .tup xs => xs.length ≤ sizeLine ∧ ∃ its : List Value, Vals xs its ∧ IsTup h a its.toArray
  | .dK kvs => kvs.length ≤ sizeLine ∧ (a == sysModules) = false ∧ ∃ vs, KV kvs vs ∧ h.DictOf (mixKind P w) a vs
  | .dT kvs => kvs.length ≤ sizeLine ∧ (a == sysModules) = false ∧ ∃ xs : List (List Key × Addr × Value),
      Paired (fun (p : List Key × V) (q : List Key × Addr × Value) => p.1 = q.1 ∧ H q.2.1 = some (.tup (p.1.map kV)) ∧ RelV p.2 q.2.2) kvs xs ∧
      ∃ o es ep, h.get? a = some o ∧ o.ExactDict ∧ o.data = .dict es ep ∧ es.toList = xs.map (entryOfKey (tupleKind (mixKind P w))) ∧ (xs.map (·.1)).Nodup
  | .set S n => h.SetOf (intKind P w) a S n
  | .ins C dx fs => H dx = some (.own a) ∧ fs.length ≤ 1000 ∧ dx ≠ a ∧ h.get? a = some (PySem.W.instObj C dx) ∧
      ∃ mA, h.Ns1 dx mA ∧ (∀ f, RelO (fs.lookup f) (mA f)) ∧ PySem.Within mA (fs.map (·.1))
  | .own _ => ∃ o, h.get? a = some o
  | .xd fs => ∃ mA, h.Ns1 a mA ∧ ∀ f, RelO (fs.lookup f) (mA f)
  | .rng lo hi => ∃ t u v, h.get? a = some { cls := .type "range", data := .fields #[.int lo t, .int hi u, .int 1 v] }
  | .frz o u => h.get? a = some o ∧ ObjOk H h a u
  | .tbl ps => h.get? a = some { cls := .none, data := .fields ps }
  | .met f x => h.get? a = some (PySem.W.methodObj (.ref f) (.ref x))
  | .ext φ => φ h ∧ (∃ o, h.get? a = some o) ∧ ∀ h1 h2 : Heap, φ h1 → (∀ o, h1.get? a = some o → h2.get? a = some o) → φ h2
def HOk (H : Hp) (h : Heap) : Prop := ∀ a o, H a = some o → ObjOk P w H h a o
end
section
variable {P : Program} {w : World} {H H' : Hp} {h h' : Heap} {a : Addr} {o : HO}
theorem ObjOk.lt (x : ObjOk P w H h a o) : a < h.objs.size := by
  cases o with
  | lst xs => obtain ⟨_, _, _, _, e⟩ := x; exact Heap.lt_size e
  | tup xs => obtain ⟨_, _, _, p⟩ := x; exact p.lt
  | dK kvs => obtain ⟨_, _, _, _, o, _, _, e, _⟩ := x; exact Heap.lt_size e
  | dT kvs => obtain ⟨_, _, _, _, o, _, _, e, _⟩ := x; exact Heap.lt_size e
  | set S n => obtain ⟨o, _, _, _, e, _⟩ := x; exact Heap.lt_size e
  | ins C dx fs => obtain ⟨_, _, _, e, _⟩ := x; exact Heap.lt_size e
  | own y => obtain ⟨_, e⟩ := x; exact Heap.lt_size e
  | xd fs => obtain ⟨_, ⟨_, _, _, e, _⟩, _⟩ := x; exact Heap.lt_size e
  | rng lo hi => obtain ⟨_, _, _, e⟩ := x; exact Heap.lt_size e
  | frz ob u => obtain ⟨e, _⟩ := x; exact Heap.lt_size e
  | tbl ps => exact Heap.lt_size (show h.get? a = some _ from x)
  | met f y => exact Heap.lt_size (show h.get? a = some _ from x)
  | ext φ => obtain ⟨_, ⟨_, e⟩, _⟩ := x; exact Heap.lt_size e
theorem Paired.mapP {α β : Type} {F G : α → β → Prop} : ∀ {l₁ : List α} {l₂ : List β}, Paired F l₁ l₂ → (∀ a b, F a b → G a b) → Paired G l₁ l₂
  | _, _, .nil, _ => .nil
  | _, _, .cons r t, f => .cons (f _ _ r) (Paired.mapP t f)
theorem ObjOk.stay (x : ObjOk P w H h a o) (k : ∀ b u, (b = a ∨ H b = some (.own a)) → h.get? b = some u → h'.get? b = some u)
    (ho : ∀ b, H b = some (.own a) → H' b = some (.own a)) (ht : ∀ b xs, H b = some (.tup xs) → H' b = some (.tup xs)) : ObjOk P w H' h' a o := by
  induction o with
  | lst xs => obtain ⟨z, its, n, r, e⟩ := x; exact ⟨z, its, n, r, k _ _ (.inl rfl) e⟩
  | tup xs => obtain ⟨z, its, r, ob, e, c⟩ := x; exact ⟨z, its, r, ob, k _ _ (.inl rfl) e, c⟩
  | dK kvs => obtain ⟨z, y, vs, r, ob, es, ep, e, c⟩ := x; exact ⟨z, y, vs, r, ob, es, ep, k _ _ (.inl rfl) e, c⟩
  | dT kvs =>
    obtain ⟨z, y, xs, r, ob, es, ep, e, c⟩ := x
    exact ⟨z, y, xs, Paired.mapP r fun p q z => ⟨z.1, ht _ _ z.2.1, z.2.2⟩, ob, es, ep, k _ _ (.inl rfl) e, c⟩
  | set S n => obtain ⟨ob, es, ep, t, e, c⟩ := x; exact ⟨ob, es, ep, t, k _ _ (.inl rfl) e, c⟩
  | ins C dx fs =>
    obtain ⟨d, z, ne, e, mA, ⟨od, es, ep, e2, c⟩, r⟩ := x
    exact ⟨ho _ d, z, ne, k _ _ (.inl rfl) e, mA, ⟨od, es, ep, k _ _ (.inr d) e2, c⟩, r⟩
  | own y => obtain ⟨ob, e⟩ := x; exact ⟨ob, k _ _ (.inl rfl) e⟩
  | xd fs => obtain ⟨mA, ⟨od, es, ep, e, c⟩, r⟩ := x; exact ⟨mA, ⟨od, es, ep, k _ _ (.inl rfl) e, c⟩, r⟩
  | rng lo hi => obtain ⟨t, u, v, e⟩ := x; exact ⟨t, u, v, k _ _ (.inl rfl) e⟩
  | frz ob u ih => obtain ⟨e, q⟩ := x; exact ⟨k _ _ (.inl rfl) e, ih q⟩
  | tbl ps =>
    have e : h.get? a = some { cls := .none, data := .fields ps } := x
    show h'.get? a = some { cls := .none, data := .fields ps }
    exact k a _ (.inl rfl) e
  | met f y =>
    have e : h.get? a = some (PySem.W.methodObj (.ref f) (.ref y)) := x
    show h'.get? a = some (PySem.W.methodObj (.ref f) (.ref y))
    exact k a _ (.inl rfl) e
  | ext φ => obtain ⟨p, ⟨o, e⟩, st⟩ := x; exact ⟨st _ _ p fun o q => k _ _ (.inl rfl) q, ⟨o, k _ _ (.inl rfl) e⟩, st⟩
theorem HOk.lt (x : HOk P w H h) (e : H a = some o) : a < h.objs.size := (x a o e).lt
theorem HOk.fresh (x : HOk P w H h) (e : h.objs.size ≤ a) : H a = none := by
  cases q : H a with
  | none => rfl
  | some u => exact absurd (Nat.lt_of_lt_of_le (x.lt q) e) (Nat.lt_irrefl _)
theorem HOk.kept (x : HOk P w H h) (k : ∀ b u, h.get? b = some u → h'.get? b = some u) : HOk P w H h' := fun a o e =>
  (x a o e).stay (fun b u _ q => k b u q) (fun _ q => q) fun _ _ q => q
theorem HOk.laid (x : HOk P w H h) (k : ∀ b u, h.get? b = some u → h'.get? b = some u) (hp : h.objs.size ≤ a) (new : ObjOk P w (upd H a o) h' a o) : HOk P w (upd H a o) h' := fun b u e => by
  have hn := x.fresh hp
  by_cases hb : b = a
  · subst hb; rw [upd_same] at e; cases e; exact new
  · rw [upd_ne hb] at e
    exact (x b u e).stay (fun c v _ q => k c v q) (fun c q => by rw [upd_ne (ne_of_none q hn)]; exact q) fun c xs q => by rw [upd_ne (ne_of_none q hn)]; exact q
end
def Rd (H : Hp) (a : Addr) (u : HO) : Prop := H a = some u ∨ ∃ o, H a = some (.frz o u)
theorem Rd.ok {P : Program} {w : World} {H : Hp} {h : Heap} {a : Addr} {u : HO} (r : Rd H a u) (x : HOk P w H h) : ObjOk P w H h a u := by
  rcases r with r | ⟨o, r⟩
  · exact x a u r
  · obtain ⟨_, q⟩ := x a _ r
    exact q
def Mut : Option HO → Prop
  | some (.lst _) => True
  | some (.dK _) => True
  | some (.dT _) => True
  | some (.set _ _) => True
  | some (.ins _ _ _) => True
  | some (.ext _) => True
  | _ => False
section
variable {P : Program} {w : World} {H : Hp} {h h' : Heap} {x e : Addr} {o' : HO}
theorem HOk.write (ok : HOk P w H h) (mu : Mut (H x)) (he : e = x ∨ H e = some (.own x)) (k : ∀ b u, b ≠ e → h.get? b = some u → h'.get? b = some u) (heo : ∃ u, h'.get? e = some u)
    (new : ObjOk P w (upd H x o') h' x o') : HOk P w (upd H x o') h' := fun b u q => by
  have nown : ∀ c y, H c = some (.own y) → c ≠ x := fun c y r z => by subst z; rw [r] at mu; exact mu
  have ntup : ∀ c xs, H c = some (.tup xs) → c ≠ x := fun c xs r z => by subst z; rw [r] at mu; exact mu
  by_cases hb : b = x
  · subst hb; rw [upd_same] at q; cases q; exact new
  · rw [upd_ne hb] at q
    by_cases hbe : b = e
    · have q' : H b = some (.own x) := by
        rcases he with z | z
        · exact absurd (hbe.trans z) hb
        · rw [hbe]; exact z
      rw [q] at q'; cases q'
      obtain ⟨v, hv⟩ := heo
      exact ⟨v, by rw [hbe]; exact hv⟩
    · refine (ok b u q).stay (fun c v hc r => k c v ?_ r) (fun c r => by rw [upd_ne (nown c b r)]; exact r) fun c xs r => by rw [upd_ne (ntup c xs r)]; exact r
      rcases hc with rfl | hc
      · exact hbe
      · rintro rfl
        rcases he with z | z
        · exact nown c b hc z
        · rw [hc] at z; cases z; exact hb rfl
end
structure Un (fs ex : List Addr) (H H' : Hp) (h h' : Heap) : Prop where
  keep : ∀ b o, h.get? b = some o → H b = none → b ∉ fs → b ∉ ex → h'.get? b = some o
  slot : ∀ b o, h.get? b = some o → H b = none → b ∈ fs → b ∉ ex → ∃ sl, h'.get? b = some { o with slots := sl }
  free : ∀ b o, h.get? b = some o → H b = none → b ∉ ex → H' b = none
  there : ∀ b o, h.get? b = some o → b ∉ ex → ∃ o', h'.get? b = some o'
  tups : ∀ b xs, H b = some (.tup xs) → H' b = some (.tup xs)
  frzs : ∀ b o u, H b = some (.frz o u) → H' b = some (.frz o u)
  tbls : ∀ b ps, H b = some (.tbl ps) → ∃ more, H' b = some (.tbl (ps ++ more))
section
variable {fs fs' ex ex' : List Addr} {H H1 H2 : Hp} {h h1 h2 h' : Heap} {a x e : Addr} {o : HO}
theorem Un.any (u : Un fs ex H H1 h h1) {b : Addr} {ob : Obj} (q : h.get? b = some ob) (n : H b = none) (hx : b ∉ ex) : ∃ sl, h1.get? b = some { ob with slots := sl } := by
  by_cases hb : b ∈ fs
  · exact u.slot b ob q n hb hx
  · exact ⟨ob.slots, u.keep b ob q n hb hx⟩
theorem Un.kept (k : ∀ b u, h.get? b = some u → h'.get? b = some u) : Un fs ex H H h h' :=
  ⟨fun b ob q _ _ _ => k b ob q, fun b ob q _ _ _ => ⟨ob.slots, k b ob q⟩, fun _ _ _ n _ => n, fun b ob q _ => ⟨ob, k b ob q⟩, fun _ _ q => q, fun _ _ _ q => q, fun _ ps q => ⟨#[], by rw [q]; simp⟩⟩
theorem Un.refl : Un fs ex H H h h := Un.kept fun _ _ q => q
theorem Un.laid (k : ∀ b u, h.get? b = some u → h'.get? b = some u) (hp : h.objs.size ≤ a) (hn : H a = none) : Un fs ex H (upd H a o) h h' where
  keep := fun b u q _ _ _ => k b u q
  slot := fun b u q _ _ _ => ⟨u.slots, k b u q⟩
  free := fun b u q n _ => by rw [upd_ne (Nat.ne_of_lt (Nat.lt_of_lt_of_le (Heap.lt_size q) hp))]; exact n
  there := fun b u q _ => ⟨u, k b u q⟩
  tups := fun b xs q => by rw [upd_ne (ne_of_none q hn)]; exact q
  frzs := fun b u xs q => by rw [upd_ne (ne_of_none q hn)]; exact q
  tbls := fun b ps q => ⟨#[], by rw [upd_ne (ne_of_none q hn), q]; simp⟩
theorem Un.write (mu : Mut (H x)) (he : e = x ∨ H e = some (.own x)) (k : ∀ b u, b ≠ e → h.get? b = some u → h'.get? b = some u) (heo : ∃ u, h'.get? e = some u) : Un fs ex H (upd H x o) h h' := by
  have hx : ∀ b, H b = none → b ≠ x := fun b n z => by subst z; rw [n] at mu; exact mu
  have hb : ∀ b, H b = none → b ≠ e := fun b n z => by
    subst z
    rcases he with r | r
    · exact hx b n r
    · rw [n] at r; cases r
  have hm : ∀ b u, H b = some u → ¬ Mut (some u) → b ≠ x := fun b u q nm z => by subst z; rw [q] at mu; exact nm mu
  refine ⟨fun b u q n _ _ => k b u (hb b n) q, fun b u q n _ _ => ⟨u.slots, k b u (hb b n) q⟩, fun b u q n _ => by rw [upd_ne (hx b n)]; exact n, fun b u q _ => ?_,
    fun b xs q => by rw [upd_ne (hm b _ q fun z => z)]; exact q, fun b u xs q => by rw [upd_ne (hm b _ q fun z => z)]; exact q, fun b ps q => ⟨#[], by rw [upd_ne (hm b _ q fun z => z), q]; simp⟩⟩
  by_cases hbe : b = e
  · subst hbe; exact heo
  · exact ⟨u, k b u hbe q⟩
end
def trk (h : Heap) (H : Hp) : List Addr := (List.range h.objs.size).filter fun a => (H a).isSome
def hidT (h : Heap) (H : Hp) : Heap := PySem.W.hideAll h (trk h H)
theorem hidT_size (h : Heap) (H : Hp) : (hidT h H).objs.size = h.objs.size := PySem.W.hideAll_size _ _
theorem hidT_get {h : Heap} {H : Hp} {b : Addr} {o : Obj} (e : h.get? b = some o) (n : H b = none) : (hidT h H).get? b = some o :=
  PySem.W.hideAll_get _ e fun hm => by
    have q : (H b).isSome = true := (List.mem_filter.mp hm).2
    rw [n] at q; simp at q
theorem of_hidT {h : Heap} {H : Hp} {b : Addr} {o : Obj} (e : (hidT h H).get? b = some o) : h.get? b = some o ∧ H b = none := by
  have e' : h.get? b = some o := PySem.W.of_hideAll (trk h H) e
  refine ⟨e', ?_⟩
  cases q : H b with
  | none => rfl
  | some x =>
    have hm : b ∈ trk h H := List.mem_filter.mpr ⟨List.mem_range.mpr (Heap.lt_size e'), by simp [q]⟩
    have z : (hidT h H).get? b = none := PySem.W.hideAll_none (trk h H) hm
    rw [z] at e; cases e
def allNews (g h : Heap) (L : Addr) : List (Addr × Obj) := (List.range h.objs.size).filterMap fun a => if a = L ∨ (g.get? a).isSome = true then none else (h.get? a).map fun o => (a, o)
def rest (g h : Heap) (L d : Addr) : List (Addr × Obj) := (allNews g h L).filter fun p => decide (p.1 ≠ d)
end L2
namespace L2
open PySem PySem.Spec PyProof.Rows
structure Mod (K : PySem.W.Frag) (mg : Str → Option Value) (base : Heap) : Prop where
  kin : K.In base
  glob : base.Ns mainGlobals mg
  blt : ∃ mb, base.Ns builtinsNs mb ∧ ∀ x : Str, x ≠ "__name__" → mb x = bootBuiltins x
  nolimit : base.NoLimit
structure Cx where
  prog : Program
  w : World
  K : PySem.W.Frag
  mg : Str → Option Value
  base : Heap
  A : Around
  N : List Str
  s₀ : Shared
  H₀ : Hp
  env : Env
  outer : List Env
  stack : List Env
  ex : List Addr
  fn : Str → Bool
  calm : Bool
  pn : List (Addr × Obj)
  xe : Value → Shared → Prop
def frs (l : List Env) : List Addr := l.filterMap (·.frame)
abbrev Cx.fs (X : Cx) : List Addr := frs X.outer
def Vis (sc : Scope) (x : Str) : Prop := sc.names.lookup x = some .local ∨ sc.names.lookup x = some .cell ∨ sc.names.lookup x = some .free
def Loc (sc : Scope) (x : Str) : Prop := sc.names.lookup x = some .local ∨ sc.names.lookup x = some .cell
def Look (env : Env) (h : Heap) (m : Str → Option Value) (x : Str) (u : Value) : Prop :=
  (env.kindOf x = some .local ∧ m x = some u) ∨ ((env.kindOf x = some .cell ∨ env.kindOf x = some .free) ∧ ∃ c, env.cells.lookup x = some c ∧ h.IsCell c (some u))
structure Cx.Ok (X : Cx) : Prop where
  mod : Mod X.K X.mg X.base
  kind : X.env.scope.kind = .function
  glob : X.env.globals = mainGlobals
  blt : X.env.builtins = builtinsNs
  above : X.s₀.heap.objs.size ≤ X.env.locals
  inj : ∀ x y c, X.env.cells.lookup x = some c → X.env.cells.lookup y = some c → x = y
  has : ∀ x, (X.env.kindOf x = some .cell ∨ X.env.kindOf x = some .free) → ∃ c, X.env.cells.lookup x = some c
  cab : ∀ x c, X.fn x = true → X.env.cells.lookup x = some c → X.s₀.heap.objs.size ≤ c
  hd : X.calm = true → X.A.handled = none
  frames : X.A.frames = some X.stack
  stk : X.stack = X.outer ∨ (X.stack = X.env :: X.outer ∧ X.env.frame = some X.env.locals)
  exf : ∀ b ∈ X.ex, b ≠ X.env.locals ∧ ∀ x c, X.env.cells.lookup x = some c → c ≠ b
  bs : ∀ b o, X.base.get? b = some o → X.s₀.heap.get? b = some o ∧ X.H₀ b = none
  bsz : X.base.objs.size ≤ X.s₀.heap.objs.size
  noex : ∀ b o, X.base.get? b = some o → b ∉ X.ex
  exfs : ∀ b ∈ X.ex, b ∉ X.fs
  funs : X.s₀.heap.FunFrames X.base X.outer
  frf : ∀ b ∈ X.fs, X.H₀ b = none
structure Inv (X : Cx) (pins : List (Addr × Obj)) (σ : List (Option V)) (H : Hp) (s : Shared) : Prop where
  ok : X.Ok
  os : s.os = X.s₀.os
  bare : AllBare s.gens
  base : Un X.fs X.ex X.H₀ H X.s₀.heap s.heap
  loc : ∃ m, s.heap.Ns X.env.locals m ∧ ∀ (i : Nat) (x : Str) (v : V), X.N[i]? = some x → σ[i]? = some (some v) → Vis X.env.scope x → ∃ u, RelV v u ∧ Look X.env s.heap m x u
  cell : ∀ x c, X.env.cells.lookup x = some c → ∃ v, s.heap.IsCell c v
  free : H X.env.locals = none
  freeC : ∀ x c, X.env.cells.lookup x = some c → H c = none
  pin : ∀ p ∈ X.pn ++ pins, s.heap.get? p.1 = some p.2 ∧ H p.1 = none ∧ p.1 ≠ X.env.locals ∧ p.1 ∉ X.fs ∧ ∀ v, p.2.data ≠ .cell v
  hok : HOk X.prog X.w H s.heap
  len : σ.length = X.N.length
section
variable {X : Cx} {pins : List (Addr × Obj)} {σ : List (Option V)} {H H' : Hp} {s : Shared} {h' : Heap}
theorem Cx.Ok.nofr (ok : X.Ok) {b : Addr} {o : Obj} (e : X.base.get? b = some o) : b ∉ X.fs := fun hb => by
  have := (ok.funs.mem hb).1
  rw [e] at this; cases this
theorem Inv.bs (I : Inv X pins σ H s) : ∀ b o, X.base.get? b = some o → s.heap.get? b = some o ∧ H b = none := fun b o e =>
  ⟨I.base.keep b o (I.ok.bs b o e).1 (I.ok.bs b o e).2 (I.ok.nofr e) (I.ok.noex b o e), I.base.free b o (I.ok.bs b o e).1 (I.ok.bs b o e).2 (I.ok.noex b o e)⟩
theorem Inv.bk (I : Inv X pins σ H s) : ∀ b o, X.base.get? b = some o → s.heap.get? b = some o := fun b o e => (I.bs b o e).1
theorem Inv.mod (I : Inv X pins σ H s) : Mod X.K X.mg X.base := I.ok.mod
theorem Inv.kIn (I : Inv X pins σ H s) : X.K.In s.heap := I.ok.mod.kin.keeps I.bk
theorem Inv.lt (I : Inv X pins σ H s) : X.env.locals < s.heap.objs.size := let ⟨_, hn, _⟩ := I.loc; hn.lt
theorem Inv.sz (I : Inv X pins σ H s) : X.s₀.heap.objs.size ≤ s.heap.objs.size := Nat.le_trans I.ok.above (Nat.le_of_lt I.lt)
theorem Inv.nofs (I : Inv X pins σ H s) {a : Addr} (h : s.heap.objs.size ≤ a) : a ∉ X.fs := fun hb => by
  obtain ⟨_, o, ho, _⟩ := I.ok.funs.mem hb
  exact absurd (Nat.lt_of_lt_of_le (Heap.lt_size ho) (Nat.le_trans I.sz h)) (Nat.lt_irrefl _)
theorem Inv.cne (I : Inv X pins σ H s) : ∀ x c, X.env.cells.lookup x = some c → c ≠ X.env.locals := fun x c e z => by
  obtain ⟨v, o, ho, hd⟩ := I.cell x c e
  obtain ⟨m, ⟨o', es, ep, ho', hd', _⟩, _⟩ := I.loc
  rw [z, ho'] at ho; cases ho; rw [hd'] at hd; cases hd
theorem Inv.funs (I : Inv X pins σ H s) : s.heap.FunFrames X.base X.outer := by
  have all : ∀ (l : List Env), (∀ b ∈ frs l, b ∈ X.fs) → X.s₀.heap.FunFrames X.base l → s.heap.FunFrames X.base l := by
    intro l
    induction l with
    | nil => intro _ _; trivial
    | cons env r ih =>
      intro hs hl
      obtain ⟨hk, ⟨L, o, hf, hn, ho, hd⟩, hr⟩ := hl
      have hL : L ∈ X.fs := hs L (by unfold frs; rw [List.filterMap_cons, hf]; exact List.mem_cons_self)
      obtain ⟨sl, e⟩ := I.base.slot L o ho (I.ok.frf L hL) hL fun z => I.ok.exfs L z hL
      exact ⟨hk, ⟨L, _, hf, hn, e, hd⟩, ih (fun b hb => hs b (by unfold frs; rw [List.filterMap_cons, hf]; exact List.mem_cons_of_mem _ hb)) hr⟩
  exact all X.outer (fun _ hb => hb) I.ok.funs
theorem Inv.stack (I : Inv X pins σ H s) : s.heap.FunFrames X.base X.stack := by
  rcases I.ok.stk with e | ⟨e, hf⟩
  · rw [e]; exact I.funs
  · rw [e]
    obtain ⟨m, hn, _⟩ := I.loc
    refine .cons (by rw [I.ok.kind]; decide) hf hn ?_ I.funs
    exact Heap.get?_none_of_le (Nat.le_trans I.ok.bsz I.ok.above)
theorem Inv.stkSub (I : Inv X pins σ H s) : ∀ b ∈ frs X.stack, b ∈ X.env.locals :: X.fs := fun b hb => by
  rcases I.ok.stk with e | ⟨e, hf⟩
  · rw [e] at hb; exact List.mem_cons_of_mem _ hb
  · rw [e] at hb
    unfold frs at hb
    rw [List.filterMap_cons, hf] at hb
    exact hb
theorem Inv.stkFree (I : Inv X pins σ H s) : ∀ b ∈ frs X.stack, H b = none := fun b hb => by
  rcases List.mem_cons.mp (I.stkSub b hb) with e | hb
  · rw [e]; exact I.free
  · obtain ⟨_, o, ho, _⟩ := I.ok.funs.mem hb
    exact I.base.free b o ho (I.ok.frf b hb) fun z => I.ok.exfs b z hb
theorem Inv.step {g' : Array GenState} {t' : Nat} {d' : Drawn} {ch : List Addr} (I : Inv X pins σ H s)
    (hch : ∀ b ∈ ch, (b ∈ X.ex ∨ X.s₀.heap.objs.size ≤ b) ∧ b ≠ X.env.locals ∧ (∀ x c, X.env.cells.lookup x = some c → c ≠ b) ∧ ∀ p ∈ X.pn ++ pins, p.1 ≠ b)
    (keep : ∀ b o, b ≠ X.env.locals → b ∉ X.fs → b ∉ ch → s.heap.get? b = some o → H b = none → h'.get? b = some o)
    (slot : ∀ b o, b ≠ X.env.locals → b ∈ X.fs → b ∉ ch → s.heap.get? b = some o → H b = none → ∃ sl, h'.get? b = some { o with slots := sl }) (free : ∀ b o, b ∉ ch → s.heap.get? b = some o → H b = none → H' b = none)
    (there : ∀ b o, b ∉ ch → s.heap.get? b = some o → ∃ o', h'.get? b = some o')
    (tups : ∀ b xs, H b = some (.tup xs) → H' b = some (.tup xs)) (frzs : ∀ b o u, H b = some (.frz o u) → H' b = some (.frz o u)) (tbls : ∀ b ps, H b = some (.tbl ps) → ∃ more, H' b = some (.tbl (ps ++ more)))
    (ns : ∀ m, s.heap.Ns X.env.locals m → h'.Ns X.env.locals m) (hok : HOk X.prog X.w H' h') (hg : AllBare g') :
    Inv X pins σ H' { s with heap := h', gens := g', drawn := d', toks := t' } := by
  have neL : ∀ b o, X.s₀.heap.get? b = some o → b ≠ X.env.locals := fun b o e => Nat.ne_of_lt (Nat.lt_of_lt_of_le (Heap.lt_size e) I.ok.above)
  have neC : ∀ b o, X.s₀.heap.get? b = some o → b ∉ X.ex → b ∉ ch := fun b o e hx hb => by
    rcases (hch b hb).1 with z | z
    · exact hx z
    · exact absurd (Nat.lt_of_lt_of_le (Heap.lt_size e) z) (Nat.lt_irrefl _)
  have cellK : ∀ x c, X.env.cells.lookup x = some c → ∀ v, s.heap.IsCell c v → h'.IsCell c v := fun x c e v ⟨o, ho, hd⟩ => by
    have nch : c ∉ ch := fun z => (hch c z).2.2.1 x c e rfl
    by_cases hc : c ∈ X.fs
    · obtain ⟨sl, q⟩ := slot c o (I.cne x c e) hc nch ho (I.freeC x c e)
      exact ⟨_, q, hd⟩
    · exact ⟨o, keep c o (I.cne x c e) hc nch ho (I.freeC x c e), hd⟩
  refine ⟨I.ok, I.os, hg, ⟨fun b o e n hb hx => ?_, fun b o e n hb hx => ?_, fun b o e n hx => ?_, fun b o e hx => ?_, fun b xs e => tups b xs (I.base.tups b xs e), fun b o xs e => frzs b o xs (I.base.frzs b o xs e), fun b ps e => ?_⟩, ?_, fun x c e => ?_, ?_, fun x c e => ?_, fun p hp => ?_, hok, I.len⟩
  · exact keep b o (neL b o e) hb (neC b o e hx) (I.base.keep b o e n hb hx) (I.base.free b o e n hx)
  · obtain ⟨sl, e1⟩ := I.base.slot b o e n hb hx
    obtain ⟨sl', e2⟩ := slot b _ (neL b o e) hb (neC b o e hx) e1 (I.base.free b o e n hx)
    exact ⟨sl', e2⟩
  · obtain ⟨o', e1⟩ := I.base.there b o e hx
    exact free b o' (neC b o e hx) e1 (I.base.free b o e n hx)
  · obtain ⟨o', e1⟩ := I.base.there b o e hx
    exact there b o' (neC b o e hx) e1
  · obtain ⟨m1, e1⟩ := I.base.tbls b ps e
    obtain ⟨m2, e2⟩ := tbls b _ e1
    exact ⟨m1 ++ m2, by rw [e2, Array.append_assoc]⟩
  · obtain ⟨m, hn, hl⟩ := I.loc
    refine ⟨m, ns m hn, fun i x v e1 e2 e3 => ?_⟩
    obtain ⟨u, r, l⟩ := hl i x v e1 e2 e3
    refine ⟨u, r, ?_⟩
    rcases l with l | ⟨k, c, e, z⟩
    · exact .inl l
    · exact .inr ⟨k, c, e, cellK x c e _ z⟩
  · obtain ⟨v, z⟩ := I.cell x c e
    exact ⟨v, cellK x c e v z⟩
  · obtain ⟨m, ⟨o, _, _, ho, _⟩, _⟩ := I.loc
    exact free _ o (fun z => (hch _ z).2.1 rfl) ho I.free
  · obtain ⟨v, o, ho, hd⟩ := I.cell x c e
    exact free c o (fun z => (hch c z).2.2.1 x c e rfl) ho (I.freeC x c e)
  · obtain ⟨e, n, ne, nf, d⟩ := I.pin p hp
    have nch : p.1 ∉ ch := fun z => (hch p.1 z).2.2.2 p hp rfl
    exact ⟨keep p.1 p.2 ne nf nch e n, free p.1 p.2 nch e n, ne, nf, d⟩
theorem Inv.un {t' : Nat} (I : Inv X pins σ H s) (u : Un X.fs [] H H' s.heap h') (hok : HOk X.prog X.w H' h') : Inv X pins σ H' { s with heap := h', toks := t' } := by
  obtain ⟨m, ⟨o, es, ep, ho, r⟩, _⟩ := id I.loc
  obtain ⟨sl, hL⟩ := u.any ho I.free (by simp)
  exact I.step (g' := s.gens) (d' := s.drawn) (ch := []) (fun _ z => nomatch z) (fun b o _ hb _ e n => u.keep b o e n hb (by simp)) (fun b o _ hb _ e n => u.slot b o e n hb (by simp)) (fun b o _ e n => u.free b o e n (by simp)) (fun b o _ e => u.there b o e (by simp)) u.tups u.frzs u.tbls (fun m' hm => by
    obtain ⟨o', es', ep', ho', r'⟩ := hm
    rw [ho] at ho'; cases ho'
    exact ⟨_, es', ep', hL, r'⟩) hok I.bare
theorem Inv.call {g' : Array GenState} {t' : Nat} {d' : Drawn} {ch : List Addr} (I : Inv X pins σ H s) (u : Un (frs X.stack) ch H H' s.heap h') (hok : HOk X.prog X.w H' h') (hg : AllBare g')
    (hch : ∀ b ∈ ch, (b ∈ X.ex ∨ X.s₀.heap.objs.size ≤ b) ∧ b ≠ X.env.locals ∧ (∀ x c, X.env.cells.lookup x = some c → c ≠ b) ∧ ∀ p ∈ X.pn ++ pins, p.1 ≠ b) :
    Inv X pins σ H' { s with heap := h', gens := g', drawn := d', toks := t' } := by
  obtain ⟨m, ⟨o, es, ep, ho, r⟩, _⟩ := id I.loc
  obtain ⟨sl, hL⟩ := u.any ho I.free fun z => (hch _ z).2.1 rfl
  exact I.step (ch := ch) hch (fun b o hL hb hc e n => u.keep b o e n (fun z => (List.mem_cons.mp (I.stkSub b z)).elim hL hb) hc) (fun b o _ _ hc e n => u.any e n hc) (fun b o hc e n => u.free b o e n hc) (fun b o hc e => u.there b o e hc) u.tups u.frzs u.tbls (fun m' hm => by
    obtain ⟨o', es', ep', ho', r'⟩ := hm
    rw [ho] at ho'; cases ho'
    exact ⟨_, es', ep', hL, r'⟩) hok hg
theorem Inv.turned {t' : Nat} {it : Addr} (I : Inv X pins σ H s) (k : ∀ b o, b ≠ it → s.heap.get? b = some o → h'.get? b = some o) (hn : H it = none) (hL : it ≠ X.env.locals)
    (h1 : it ∈ X.ex ∨ X.s₀.heap.objs.size ≤ it) (h2 : ∀ x c, X.env.cells.lookup x = some c → c ≠ it) (h3 : ∀ p ∈ X.pn ++ pins, p.1 ≠ it) : Inv X pins σ H { s with heap := h', toks := t' } := by
  have nit : ∀ b u, H b = some u → b ≠ it := fun b u e z => by rw [z, hn] at e; cases e
  refine I.step (g' := s.gens) (d' := s.drawn) (ch := [it]) (fun b hb => ?_) (fun b o _ _ hc e _ => k b o (fun z => hc (by simp [z])) e) (fun b o _ _ hc e _ => ⟨o.slots, k b o (fun z => hc (by simp [z])) e⟩) (fun _ _ _ _ n => n)
    (fun b o hc e => ⟨o, k b o (fun z => hc (by simp [z])) e⟩) (fun _ _ e => e) (fun _ _ _ e => e) (fun b ps e => ⟨#[], by rw [e]; simp⟩) (fun m hm => ?_) (fun b u e => ?_) I.bare
  · have e : b = it := by simpa using hb
    subst e
    exact ⟨h1, hL, h2, h3⟩
  · obtain ⟨o, es, ep, ho, r⟩ := hm
    exact ⟨o, es, ep, k _ o (Ne.symm hL) ho, r⟩
  · refine (I.hok b u e).stay (fun c v hc q => k c v ?_ q) (fun _ q => q) fun _ _ q => q
    rcases hc with z | z
    · rw [z]; exact nit b u e
    · exact nit c _ z
theorem Inv.tok (I : Inv X pins σ H s) (t : Nat) : Inv X pins σ H { s with toks := t } := I.un (h' := s.heap) (t' := t) Un.refl I.hok
theorem Inv.kept {t' : Nat} (I : Inv X pins σ H s) (k : ∀ b u, s.heap.get? b = some u → h'.get? b = some u) : Inv X pins σ H { s with heap := h', toks := t' } := I.un (Un.kept k) (I.hok.kept k)
theorem Inv.laid {a : Addr} {o : HO} {t' : Nat} (I : Inv X pins σ H s) (k : ∀ b u, s.heap.get? b = some u → h'.get? b = some u) (hp : s.heap.objs.size ≤ a) (new : ObjOk X.prog X.w (upd H a o) h' a o) :
    Inv X pins σ (upd H a o) { s with heap := h', toks := t' } := I.un (Un.laid k hp (I.hok.fresh hp)) (I.hok.laid k hp new)
theorem Inv.write {x e : Addr} {o : HO} {t' : Nat} (I : Inv X pins σ H s) (mu : Mut (H x)) (he : e = x ∨ H e = some (.own x)) (k : ∀ b u, b ≠ e → s.heap.get? b = some u → h'.get? b = some u) (heo : ∃ u, h'.get? e = some u)
    (new : ObjOk X.prog X.w (upd H x o) h' x o) : Inv X pins σ (upd H x o) { s with heap := h', toks := t' } := I.un (Un.write mu he k heo) (I.hok.write mu he k heo new)
theorem Inv.pins_of {pins' : List (Addr × Obj)} (I : Inv X pins σ H s) (h : ∀ p ∈ pins', s.heap.get? p.1 = some p.2 ∧ H p.1 = none ∧ p.1 ≠ X.env.locals ∧ p.1 ∉ X.fs ∧ ∀ v, p.2.data ≠ .cell v) : Inv X pins' σ H s :=
  ⟨I.ok, I.os, I.bare, I.base, I.loc, I.cell, I.free, I.freeC, fun p hp => (List.mem_append.mp hp).elim (fun z => I.pin p (List.mem_append_left _ z)) (h p), I.hok, I.len⟩
theorem nodup_ix {N : List Str} (hN : N.Nodup) {i j : Nat} {x : Str} (a : N[i]? = some x) (b : N[j]? = some x) : i = j := by
  obtain ⟨h1, e1⟩ := List.getElem?_eq_some_iff.mp a
  obtain ⟨h2, e2⟩ := List.getElem?_eq_some_iff.mp b
  exact (List.getElem_inj hN).mp (e1.trans e2.symm)
theorem store_ok2 {M : Model} {A : Around} {E : Value → Shared → Prop} {i : Nat} {x : Str} {v : V} {u : Value} {Q : Unit → Shared → Prop} (I : Inv X pins σ H s) (hN : X.N.Nodup) (hi : X.N[i]? = some x) (hx : Loc X.env.scope x) (r : RelV v u)
    (h : ∀ s', Inv X pins (σ.set i (some v)) H s' → (∃ a, Heap.SameBut a s.heap s'.heap ∧ (a = X.env.locals ∨ X.env.cells.lookup x = some a)) → Q () s') (hf : X.fn x = true ∨ X.env.scope.names.lookup x = some .local := by first | exact .inl rfl | exact .inr rfl | assumption) : wpAny M A (storeName X.env x u) Q E s := by
  obtain ⟨m, hn, hl⟩ := id I.loc
  have hcls : (X.env.scope.kind == .class || (X.env.scope.kind == .module && X.env.locals != X.env.globals)) = false := by rw [I.ok.kind]; rfl
  have hiσ : i < σ.length := by rw [I.len]; exact (List.getElem?_eq_some_iff.mp hi).1
  have cne := I.cne
  have tracked : ∀ {a : Addr} {h' : Heap}, (∃ o, s.heap.get? a = some o ∧ H a = none) → Heap.SameBut a s.heap h' → HOk X.prog X.w H h' := fun {a h'} ha hs b ob e => by
    obtain ⟨_, _, hfree⟩ := ha
    refine (I.hok b ob e).stay (fun c w' hc q => (hs.2 c ?_).trans q) (fun _ q => q) fun _ _ q => q
    rintro rfl
    rcases hc with rfl | hc
    · rw [hfree] at e; cases e
    · rw [hfree] at hc; cases hc
  rcases hx with hk | hk
  · refine wpAny_storeName_local hk hn (fun h' hn' hs => ?_) hcls
    obtain ⟨oL, _, _, hoL, _⟩ := id hn
    refine h _ ⟨I.ok, I.os, I.bare, ⟨fun b o e n hb hx => ?_, fun b o e n hb hx => ?_, I.base.free, fun b o e hx => ?_, I.base.tups, I.base.frzs, I.base.tbls⟩, ⟨_, hn', fun j y v' e1 e2 e3 => ?_⟩, fun y c e => ?_, I.free, I.freeC, fun p hp => ?_, tracked ⟨oL, hoL, I.free⟩ hs, by simpa using I.len⟩ ⟨_, hs, .inl rfl⟩
    · exact (hs.2 b (Nat.ne_of_lt (Nat.lt_of_lt_of_le (Heap.lt_size e) I.ok.above))).trans (I.base.keep b o e n hb hx)
    · obtain ⟨sl, e1⟩ := I.base.slot b o e n hb hx
      exact ⟨sl, (hs.2 b (Nat.ne_of_lt (Nat.lt_of_lt_of_le (Heap.lt_size e) I.ok.above))).trans e1⟩
    · obtain ⟨o', e1⟩ := I.base.there b o e hx
      exact ⟨o', (hs.2 b (Nat.ne_of_lt (Nat.lt_of_lt_of_le (Heap.lt_size e) I.ok.above))).trans e1⟩
    · by_cases hj : j = i
      · subst hj
        rw [hi] at e1; cases e1
        rw [List.getElem?_set_self hiσ] at e2
        cases e2
        exact ⟨u, r, .inl ⟨hk, by simp⟩⟩
      · rw [List.getElem?_set_ne (Ne.symm hj)] at e2
        obtain ⟨u', r', q⟩ := hl j y v' e1 e2 e3
        refine ⟨u', r', ?_⟩
        rcases q with ⟨k, e⟩ | ⟨k, c, e, z⟩
        · refine .inl ⟨k, ?_⟩
          have : y ≠ x := fun e => hj (nodup_ix hN e1 (e ▸ hi))
          simp [this, e]
        · exact .inr ⟨k, c, e, z.sameBut hs (cne y c e)⟩
    · obtain ⟨w', z⟩ := I.cell y c e
      exact ⟨w', z.sameBut hs (cne y c e)⟩
    · obtain ⟨e, n, ne, nf, d⟩ := I.pin p hp
      exact ⟨(hs.2 p.1 ne).trans e, n, ne, nf, d⟩
  · have hfn : X.fn x = true := by
      rcases hf with z | z
      · exact z
      · rw [z] at hk; cases hk
    obtain ⟨c, hc⟩ := I.ok.has x (.inl hk)
    obtain ⟨w', z⟩ := I.cell x c hc
    refine wpAny_storeName_cell I.ok.kind hk hc z (fun h' hc' hs => ?_)
    obtain ⟨oc, hoc, hocd⟩ := id z
    refine h { s with heap := h' } ⟨I.ok, I.os, I.bare, ⟨fun b o e n hb hx => ?_, fun b o e n hb hx => ?_, I.base.free, fun b o e hx => ?_, I.base.tups, I.base.frzs, I.base.tbls⟩, ⟨m, hn.sameBut hs (Ne.symm (cne x c hc)), fun j y v' e1 e2 e3 => ?_⟩, fun y c' e => ?_, I.free, I.freeC, fun p hp => ?_, tracked ⟨oc, hoc, I.freeC x c hc⟩ hs, by simpa using I.len⟩ ⟨c, hs, .inr hc⟩
    · exact (hs.2 b (Nat.ne_of_lt (Nat.lt_of_lt_of_le (Heap.lt_size e) (I.ok.cab x c hfn hc)))).trans (I.base.keep b o e n hb hx)
    · obtain ⟨sl, e1⟩ := I.base.slot b o e n hb hx
      exact ⟨sl, (hs.2 b (Nat.ne_of_lt (Nat.lt_of_lt_of_le (Heap.lt_size e) (I.ok.cab x c hfn hc)))).trans e1⟩
    · obtain ⟨o', e1⟩ := I.base.there b o e hx
      exact ⟨o', (hs.2 b (Nat.ne_of_lt (Nat.lt_of_lt_of_le (Heap.lt_size e) (I.ok.cab x c hfn hc)))).trans e1⟩
    · by_cases hj : j = i
      · subst hj
        rw [hi] at e1; cases e1
        rw [List.getElem?_set_self hiσ] at e2
        cases e2
        exact ⟨u, r, .inr ⟨.inl hk, c, hc, hc'⟩⟩
      · rw [List.getElem?_set_ne (Ne.symm hj)] at e2
        obtain ⟨u', r', q⟩ := hl j y v' e1 e2 e3
        refine ⟨u', r', ?_⟩
        rcases q with q | ⟨k, c', e, z'⟩
        · exact .inl q
        · refine .inr ⟨k, c', e, z'.sameBut hs ?_⟩
          rintro rfl
          exact hj (nodup_ix hN e1 (I.ok.inj _ _ _ e hc ▸ hi))
    · by_cases hcc : c' = c
      · subst hcc; exact ⟨_, hc'⟩
      · obtain ⟨w2, z2⟩ := I.cell y c' e
        exact ⟨w2, z2.sameBut hs hcc⟩
    · obtain ⟨e, n, ne, nf, d⟩ := I.pin p hp
      refine ⟨(hs.2 p.1 ?_).trans e, n, ne, nf, d⟩
      intro q
      rw [q, hoc] at e
      have q' : oc = p.2 := Option.some.inj e
      exact d w' (by rw [← q']; exact hocd)
theorem store_ok {M : Model} {A : Around} {E : Value → Shared → Prop} {i : Nat} {x : Str} {v : V} {u : Value} {Q : Unit → Shared → Prop} (I : Inv X pins σ H s) (hN : X.N.Nodup) (hi : X.N[i]? = some x) (hx : Loc X.env.scope x) (r : RelV v u)
    (h : ∀ s', Inv X pins (σ.set i (some v)) H s' → Q () s') (hf : X.fn x = true ∨ X.env.scope.names.lookup x = some .local := by first | exact .inl rfl | exact .inr rfl | assumption) : wpAny M A (storeName X.env x u) Q E s :=
  store_ok2 I hN hi hx r (fun s' I' _ => h s' I') hf
theorem Inv.call' {s' : Shared} {ch : List Addr} (I : Inv X pins σ H s) (ho : s'.os = s.os) (u : Un (frs X.stack) ch H H' s.heap s'.heap) (hok : HOk X.prog X.w H' s'.heap) (hg : AllBare s'.gens)
    (hch : ∀ b ∈ ch, (b ∈ X.ex ∨ X.s₀.heap.objs.size ≤ b) ∧ b ≠ X.env.locals ∧ (∀ x c, X.env.cells.lookup x = some c → c ≠ b) ∧ ∀ p ∈ X.pn ++ pins, p.1 ≠ b) : Inv X pins σ H' s' := by
  obtain ⟨h', g', d', t', o'⟩ := s'
  have e : o' = s.os := ho
  subst e
  exact I.call (g' := g') (t' := t') (d' := d') u hok hg hch
end
abbrev XK := Value → Option Addr → Hp → Prop
abbrev St := List (Option V)
abbrev VK := V → Hp → Prop
abbrev TE := St → Hp → VK → Prop
abbrev TT := St → Hp → (Bool → Hp → Prop) → Prop
abbrev TA := St → Hp → (List V → Hp → Prop) → Prop
structure Ends where
  nx : St → Hp → Prop
  rt : VK
  bk : St → Hp → Prop := fun _ _ => False
  ct : St → Hp → Prop := fun _ _ => False
abbrev TS := Ends → St → Hp → Prop
def EP (X : Cx) (pins : List (Addr × Obj)) (σ : St) (Q : VK) (u : Value) (s' : Shared) : Prop := ∃ v H', Inv X pins σ H' s' ∧ RelV v u ∧ Q v H'
def TP (X : Cx) (pins : List (Addr × Obj)) (σ : St) (Q : Bool → Hp → Prop) (b : Bool) (s' : Shared) : Prop := ∃ H', Inv X pins σ H' s' ∧ Q b H'
def AP (X : Cx) (pins : List (Addr × Obj)) (σ : St) (Q : List V → Hp → Prop) (us : List Value) (s' : Shared) : Prop := ∃ vs H', Inv X pins σ H' s' ∧ Vals vs us ∧ Q vs H'
def SP (X : Cx) (pins : List (Addr × Obj)) (D : Ends) (f : Flow) (s' : Shared) : Prop :=
  match f with
  | .next => ∃ σ' H', Inv X pins σ' H' s' ∧ D.nx σ' H'
  | .brk => ∃ σ' H', Inv X pins σ' H' s' ∧ D.bk σ' H'
  | .cont => ∃ σ' H', Inv X pins σ' H' s' ∧ D.ct σ' H'
  | .ret u => ∃ v σ' H', Inv X pins σ' H' s' ∧ RelV v u ∧ D.rt v H'
def PE (X : Cx) (e : Expr) (t : TE) : Prop :=
  ∀ (pins : List (Addr × Obj)) (s : Shared) (σ : St) (H : Hp) (Q : VK), Inv X pins σ H s → t σ H Q → wpAny (model X.prog X.w) X.A (eval e X.env) (EP X pins σ Q) X.xe s
def PT (X : Cx) (e : Expr) (t : TT) : Prop :=
  ∀ (pins : List (Addr × Obj)) (s : Shared) (σ : St) (H : Hp) (Q : Bool → Hp → Prop), Inv X pins σ H s → t σ H Q → wpAny (model X.prog X.w) X.A (isTrue e X.env (eval e X.env)) (TP X pins σ Q) X.xe s
def PW (X : Cx) (e : Expr) (t : TT) : Prop :=
  ∀ (whole : Sem Value) (pins : List (Addr × Obj)) (s : Shared) (σ : St) (H : Hp) (Q : Bool → Hp → Prop), Inv X pins σ H s → t σ H Q → wpAny (model X.prog X.w) X.A (isTrue e X.env whole) (TP X pins σ Q) X.xe s
theorem PW.pt {X : Cx} {e : Expr} {t : TT} (h : PW X e t) : PT X e t := h _
def PA (X : Cx) (es : List Expr) (t : TA) : Prop :=
  ∀ (pos : Pos) (pins : List (Addr × Obj)) (s : Shared) (σ : St) (H : Hp) (Q : List V → Hp → Prop), Inv X pins σ H s → t σ H Q → wpAny (model X.prog X.w) X.A (spliced (backTo pos (starEach es X.env))) (AP X pins σ Q) X.xe s
def PS (X : Cx) (st : Stmt) (t : TS) : Prop :=
  ∀ (pins : List (Addr × Obj)) (s : Shared) (σ : St) (H : Hp) (D : Ends), Inv X pins σ H s → t D σ H → wpAny (model X.prog X.w) X.A (exec st X.env) (SP X pins D) X.xe s
def PSs (X : Cx) (st : List Stmt) (t : TS) : Prop :=
  ∀ (pins : List (Addr × Obj)) (s : Shared) (σ : St) (H : Hp) (D : Ends), Inv X pins σ H s → t D σ H → wpAny (model X.prog X.w) X.A (execs st X.env) (SP X pins D) X.xe s
theorem thn {α : Type} {t : Sem α} {Q Q' : α → Shared → Prop} {M : Model} {A : Around} {E : Value → Shared → Prop} {s : Shared} (h : wpAny M A t Q E s) (hQ : ∀ a s, Q a s → Q' a s) : wpAny M A t Q' E s := wpAny_mono h hQ fun _ _ x => x
end L2
namespace L2
open PySem PySem.Spec PyProof.Rows
section
variable {X : Cx}
def tVar (i : Nat) : TE := fun σ H Q => ∃ v, σ[i]? = some (some v) ∧ Q v H
def tC (v : V) : TE := fun _ H Q => Q v H
theorem pe_var {i : Nat} {x : Str} {pos : Pos} (hN : X.N[i]? = some x) (hv : Vis X.env.scope x) (hd : (x == ("__debug__" : Str)) = false := by decide) (hcd : (x == ("__classdict__" : Str)) = false := by decide) : PE X (.Name x pos) (tVar i) := by
  intro pins s σ H Q I h
  obtain ⟨v, e, h⟩ := h
  obtain ⟨m, hn, hl⟩ := I.loc
  obtain ⟨u, r, l⟩ := hl i x v hN e hv
  have fin : EP X pins σ Q u s := ⟨v, H, I, r, h⟩
  rcases l with ⟨hk, hm⟩ | ⟨hk, c, hc, hcell⟩
  · exact wpAny_Name (wpAny_loadName_local I.ok.kind hk hn hm fin) hd
  · rcases hk with hk | hk
    · exact wpAny_Name (wpAny_loadName_cell I.ok.kind hk hc hcell fin) hd
    · exact wpAny_Name (wpAny_loadName_free I.ok.kind hk hc hcell fin hcd) hd
theorem pe_int {i j pos} : PE X (.Constant (.int i) j pos) (tC (.int i)) := fun _ _ _ H _ I h => wpAny_Constant_int ⟨.int i, H, I.tok _, ⟨_, rfl⟩, h⟩
theorem pe_bl {b j pos} : PE X (.Constant (.bool b) j pos) (tC (.bl b)) := fun _ _ _ H _ I h => Constant_bool ⟨.bl b, H, I, rfl, h⟩
theorem pe_str {x j pos} : PE X (.Constant (.str x) j pos) (tC (.str x)) := fun _ _ _ H _ I h => Calls.Constant_str ⟨.str x, H, I.tok _, ⟨_, rfl⟩, h⟩
def Gl (X : Cx) (x : Str) : Prop := X.env.kindOf x = some .globalImplicit
theorem ld_glob {E : Value → Shared → Prop} {pins : List (Addr × Obj)} {s : Shared} {σ : St} {H : Hp} {x : Str} {u : Value} {pos : Pos} {Q : Value → Shared → Prop} (I : Inv X pins σ H s) (hg : Gl X x) (hm : X.mg x = some u) (h : Q u s)
    (hd : (x == ("__debug__" : Str)) = false := by decide) : wpAny (model X.prog X.w) X.A (eval (.Name x pos) X.env) Q E s :=
  Calls.Name_function_global I.ok.kind hg (Calls.loadGlobal_global (by rw [I.ok.glob]; exact I.mod.glob.keeps I.bk) hm h) hd
theorem ld_blt {E : Value → Shared → Prop} {pins : List (Addr × Obj)} {s : Shared} {σ : St} {H : Hp} {x : Str} {u : Value} {pos : Pos} {Q : Value → Shared → Prop} (I : Inv X pins σ H s) (hg : Gl X x) (hm : X.mg x = none) (hv : bootBuiltins x = some u) (h : Q u s)
    (hn : x ≠ "__name__" := by decide) (hd : (x == ("__debug__" : Str)) = false := by decide) : wpAny (model X.prog X.w) X.A (eval (.Name x pos) X.env) Q E s := by
  obtain ⟨mb, h1, h2⟩ := I.mod.blt
  exact Calls.Name_function_global I.ok.kind hg (Calls.loadGlobal_builtin (by rw [I.ok.glob]; exact I.mod.glob.keeps I.bk) hm (by rw [I.ok.blt]; exact h1.keeps I.bk) ((h2 x hn).trans hv) h) hd
theorem pe_glob {x : Str} {v : V} {u : Value} {pos : Pos} (hg : Gl X x) (hm : X.mg x = some u) (r : RelV v u) (hd : (x == ("__debug__" : Str)) = false := by decide) : PE X (.Name x pos) (tC v) :=
  fun _ _ _ H _ I h => ld_glob I hg hm ⟨v, H, I, r, h⟩ hd
theorem pe_bltn {x : Str} {v : V} {u : Value} {pos : Pos} (hg : Gl X x) (hm : X.mg x = none) (hv : bootBuiltins x = some u) (r : RelV v u) (hn : x ≠ "__name__" := by decide) (hd : (x == ("__debug__" : Str)) = false := by decide) : PE X (.Name x pos) (tC v) :=
  fun _ _ _ H _ I h => ld_blt I hg hm hv ⟨v, H, I, r, h⟩ hn hd
variable {a b : Expr} {ta tb : TE} {pos : Pos}
def PC (X : Cx) (op : CmpOp) (a b : Expr) (t : TE) : Prop :=
  ∀ (pins : List (Addr × Obj)) (s : Shared) (σ : St) (H : Hp) (Q : VK), Inv X pins σ H s → t σ H Q →
    wpAny (model X.prog X.w) X.A (eval a X.env) (fun v s₁ => wpAny (model X.prog X.w) X.A (eval b X.env) (fun u s₂ => wpAny (model X.prog X.w) X.A (compareOp op v u) (EP X pins σ Q) X.xe s₂) X.xe s₁) X.xe s
theorem nobehind (b : Expr) {op : CmpOp} (h : op ≠ .In) (h2 : op ≠ .NotIn) : behindInMarks op b = false := by
  have e1 : (op == CmpOp.In) = false := by cases op <;> first | rfl | exact absurd rfl h
  have e2 : (op == CmpOp.NotIn) = false := by cases op <;> first | rfl | exact absurd rfl h2
  cases b <;> simp [behindInMarks, e1, e2]
def tIsN (ta : TE) : TE := fun σ H Q => ta σ H fun x H1 => Q (.bl (decide (x = .non))) H1
theorem RelV.none_iff {x : V} {v : Value} (r : RelV x v) : (v == Value.none) = decide (x = .non) := by
  cases x with
  | non => cases r; rfl
  | bl _ => cases r; rfl
  | int _ => obtain ⟨t, rfl⟩ := r; rfl
  | str _ => obtain ⟨t, rfl⟩ := r; rfl
  | byt _ => obtain ⟨t, rfl⟩ := r; rfl
  | flt _ => obtain ⟨t, rfl⟩ := r; rfl
  | ref _ => cases r; rfl
  | ty _ => cases r; rfl
theorem pc_isN {j pos'} (ha : PE X a ta) : PC X .Is a (.Constant .none j pos') (tIsN ta) := by
  intro pins s σ H Q I h
  refine thn (ha pins s σ H _ I h) fun v s1 ⟨x, H1, I1, r1, q1⟩ => ?_
  exact Constant_none (is_none_gen ⟨.bl _, H1, I1, by rw [r1.none_iff]; rfl, q1⟩)
def tB (t : TE) : TT := fun σ H Q => t σ H fun x H1 => ∃ c, x = .bl c ∧ Q c H1
theorem pt_cmp {op : CmpOp} {t : TE} (h : PC X op a b t) (h1 : behindInMarks op b = false := by first | exact nobehind _ (by decide) (by decide) | rfl) : PT X (.Compare a [op] [b] pos) (tB t) := by
  intro pins s σ H Q I hw
  refine wpAny_isTrue_Compare1 (thn (h pins s σ H _ I hw) fun v s1 h1 => thn h1 fun u s2 h2 => thn h2 fun c s3 ⟨x, H1, I1, r1, q1⟩ => ?_) h1
  obtain ⟨d, rfl, q⟩ := q1
  cases r1
  exact wpAny_truthy_bool ⟨H1, I1, q⟩
theorem pt_val {e : Expr} {t : TE} (h : PE X e t) (he : ∀ whole, isTrue e X.env whole = (do let v ← whole; standAt e.pos; holding [v] (truthy v)) := by intro _; rfl) : PT X e (tB t) := by
  intro pins s σ H Q I hw
  refine isTrue_plain (thn (h pins s σ H _ I hw) fun v s1 ⟨x, H1, I1, r1, q1⟩ => ?_) (he _)
  obtain ⟨d, rfl, q⟩ := q1
  cases r1
  exact wpAny_truthy_bool ⟨H1, I1, q⟩
variable {tA tB' : TT} {rest : List Expr}
def tAnd (t u : TT) : TT := fun σ H Q => t σ H fun c H1 => if c = true then u σ H1 Q else Q false H1
def tOr (t u : TT) : TT := fun σ H Q => t σ H fun c H1 => if c = true then Q true H1 else u σ H1 Q
def tNot (t : TT) : TT := fun σ H Q => t σ H fun c H1 => Q (!c) H1
theorem pw_and1 (ha : PT X a tA) : PW X (.BoolOp .And [a] pos) tA := by
  intro wh pins s σ H Q I h
  refine isTrue_and (thn (ha pins s σ H Q I h) fun c s1 e => ?_)
  cases c with
  | true => exact isTrue_and_nil e
  | false => exact e
theorem pw_or1 (ha : PT X a tA) : PW X (.BoolOp .Or [a] pos) tA := by
  intro wh pins s σ H Q I h
  refine isTrue_or (thn (ha pins s σ H Q I h) fun c s1 e => ?_)
  cases c with
  | false => exact isTrue_or_nil e
  | true => exact e
theorem pw_and (ha : PT X a tA) (hb : PW X (.BoolOp .And (b :: rest) pos) tB') : PW X (.BoolOp .And (a :: b :: rest) pos) (tAnd tA tB') := by
  intro wh pins s σ H Q I h
  refine isTrue_and (thn (ha pins s σ H _ I h) fun c s1 ⟨H1, I1, q1⟩ => ?_)
  cases c with
  | true => exact hb wh pins s1 σ H1 Q I1 q1
  | false => exact ⟨H1, I1, q1⟩
theorem pw_or (ha : PT X a tA) (hb : PW X (.BoolOp .Or (b :: rest) pos) tB') : PW X (.BoolOp .Or (a :: b :: rest) pos) (tOr tA tB') := by
  intro wh pins s σ H Q I h
  refine isTrue_or (thn (ha pins s σ H _ I h) fun c s1 ⟨H1, I1, q1⟩ => ?_)
  cases c with
  | true => exact ⟨H1, I1, q1⟩
  | false => exact hb wh pins s1 σ H1 Q I1 q1
theorem pt_not (ha : PT X a tA) : PT X (.UnaryOp .Not a pos) (tNot tA) := by
  intro pins s σ H Q I h
  exact isTrue_not (ha pins s σ H (fun c H1 => Q (!c) H1) I h)
def tAndV (ta tb : TE) : TE := fun σ H Q => ta σ H fun x H1 => ∃ c, x = .bl c ∧ if c = true then tb σ H1 Q else Q (.bl false) H1
def tNotV (ta : TE) : TE := fun σ H Q => ta σ H fun x H1 => ∃ c, x = .bl c ∧ Q (.bl (!c)) H1
theorem pe_one {op} {t : TE} (h : PE X a t) : PE X (.BoolOp op [a] pos) t := fun pins s σ H Q I hw => BoolOp_one (h pins s σ H Q I hw)
theorem pe_and (ha : PE X a ta) (hb : PE X (.BoolOp .And (b :: rest) pos) tb) : PE X (.BoolOp .And (a :: b :: rest) pos) (tAndV ta tb) := by
  intro pins s σ H Q I h
  refine BoolOp_and (thn (ha pins s σ H _ I h) fun v s1 ⟨x, H1, I1, r1, q1⟩ => ?_)
  obtain ⟨c, rfl, q1⟩ := q1
  cases r1
  refine wpAny_truthy_bool ?_
  cases c with
  | true => exact hb pins s1 σ H1 Q I1 q1
  | false => exact ⟨.bl false, H1, I1, rfl, q1⟩
theorem pe_not (ha : PE X a ta) : PE X (.UnaryOp .Not a pos) (tNotV ta) := by
  intro pins s σ H Q I h
  refine UnaryOp_ (thn (ha pins s σ H _ I h) fun v s1 ⟨x, H1, I1, r1, q1⟩ => ?_)
  obtain ⟨c, rfl, q1⟩ := q1
  cases r1
  exact not_of (wpAny_truthy_bool ⟨.bl (!c), H1, I1, rfl, q1⟩)
def tIf (t : TT) (ta tb : TE) : TE := fun σ H Q => t σ H fun c H1 => if c = true then ta σ H1 Q else tb σ H1 Q
theorem pe_ifExp {c : Expr} (hc : PT X c tA) (ha : PE X a ta) (hb : PE X b tb) : PE X (.IfExp c a b pos) (tIf tA ta tb) := by
  intro pins s σ H Q I h
  refine wpAny_IfExp (thn (hc pins s σ H _ I h) fun d s1 ⟨H1, I1, q1⟩ => ?_)
  cases d with
  | true => exact ha pins s1 σ H1 Q I1 q1
  | false => exact hb pins s1 σ H1 Q I1 q1
end
end L2
namespace L2
open PySem PySem.Spec PyProof.Rows
def SqL (K : PySem.W.Frag) (H : Hp) (a : Addr) (xs : List V) : Prop :=
  Rd H a (.lst xs) ∨
    ∃ (o : Obj) (its : Array Value) (n : Nat), K.lookup a = some o ∧ o.cls = .type "list" ∧ o.dict = none ∧ o.data = .seq its n ∧ its.size ≤ sizeLine ∧ Vals xs its.toList
def SqT (K : PySem.W.Frag) (H : Hp) (a : Addr) (xs : List V) : Prop :=
  Rd H a (.tup xs) ∨
    ∃ (o : Obj) (its : Array Value) (n : Nat), K.lookup a = some o ∧ o.cls = .type "tuple" ∧ o.data = .seq its n ∧ its.size ≤ sizeLine ∧ Vals xs its.toList
def absV : Value → Option V
  | .none => some .non
  | .bool b => some (.bl b)
  | .int i _ => some (.int i)
  | .str x _ => some (.str x)
  | .bytes b _ => some (.byt b)
  | .float b _ => some (.flt b)
  | .ref a => some (.ref a)
  | .type n => some (.ty n)
  | _ => none
theorem RelV.abs {x : V} {u : Value} (r : RelV x u) : absV u = some x := by
  cases x with
  | non => cases r; rfl
  | bl _ => cases r; rfl
  | int _ => obtain ⟨t, rfl⟩ := r; rfl
  | str _ => obtain ⟨t, rfl⟩ := r; rfl
  | byt _ => obtain ⟨t, rfl⟩ := r; rfl
  | flt _ => obtain ⟨t, rfl⟩ := r; rfl
  | ref _ => cases r; rfl
  | ty _ => cases r; rfl
theorem RelV.inj {x y : V} {u : Value} (r : RelV x u) (q : RelV y u) : x = y := Option.some.inj (r.abs.symm.trans q.abs)
theorem Vals.inj : ∀ {xs ys : List V} {us : List Value}, Vals xs us → Vals ys us → xs = ys
  | _, _, _, .nil, .nil => rfl
  | _, _, _, .cons r t, .cons r' t' => by rw [r.inj r', Vals.inj t t']
section
variable {X : Cx} {pins : List (Addr × Obj)} {σ : St} {H : Hp} {s : Shared} {a : Addr} {xs ys : List V}
theorem SqL.of {K : PySem.W.Frag} (h : H a = some (.lst xs)) : SqL K H a xs := .inl (.inl h)
theorem SqT.of {K : PySem.W.Frag} (h : H a = some (.tup xs)) : SqT K H a xs := .inl (.inl h)
theorem Inv.list (I : Inv X pins σ H s) (h : SqL X.K H a xs) : ∃ its : List Value, Vals xs its ∧ PlainL s.heap a its.toArray ∧ xs.length ≤ sizeLine := by
  rcases h with h | ⟨o, its, n, hk, hc, hd, hs, hz, r⟩
  · obtain ⟨z, its, n, r, e⟩ := h.ok I.hok
    exact ⟨its, r, ⟨_, n, e, rfl, rfl, rfl⟩, z⟩
  · refine ⟨its.toList, r, ⟨o, n, I.kIn a o hk, hc, hd, by simpa using hs⟩, ?_⟩
    have e := r.length
    simp only [Array.length_toList] at e
    omega
theorem Inv.tuple (I : Inv X pins σ H s) (h : SqT X.K H a xs) : ∃ its : List Value, Vals xs its ∧ IsTup s.heap a its.toArray ∧ xs.length ≤ sizeLine := by
  rcases h with h | ⟨o, its, n, hk, hc, hs, hz, r⟩
  · obtain ⟨z, its, r, p⟩ := h.ok I.hok
    exact ⟨its, r, p, z⟩
  · refine ⟨its.toList, r, ⟨o, I.kIn a o hk, hc, n, by simpa using hs⟩, ?_⟩
    have e := r.length
    simp only [Array.length_toList] at e
    omega
theorem Inv.list_inj (I : Inv X pins σ H s) (h : SqL X.K H a xs) (h' : SqL X.K H a ys) : xs = ys := by
  obtain ⟨its, r, ⟨o, n, e, _, _, d⟩, _⟩ := I.list h
  obtain ⟨its', r', ⟨o', n', e', _, _, d'⟩, _⟩ := I.list h'
  rw [e] at e'; cases e'
  rw [d] at d'
  injection d' with d1 _
  have : its = its' := by simpa using congrArg Array.toList d1
  subst this
  exact r.inj r'
end
abbrev Cx.wish (X : Cx) (E : Value → Shared → Prop) : Cx := { X with xe := E }
abbrev Cx.nox (X : Cx) : Cx := X.wish fun _ _ => False
theorem Cx.Ok.wish {X : Cx} (ok : X.Ok) (E : Value → Shared → Prop) : (X.wish E).Ok :=
  ⟨ok.mod, ok.kind, ok.glob, ok.blt, ok.above, ok.inj, ok.has, ok.cab, ok.hd, ok.frames, ok.stk, ok.exf, ok.bs, ok.bsz, ok.noex, ok.exfs, ok.funs, ok.frf⟩
theorem Cx.Ok.unwish {X : Cx} {E : Value → Shared → Prop} (ok : (X.wish E).Ok) : X.Ok :=
  ⟨ok.mod, ok.kind, ok.glob, ok.blt, ok.above, ok.inj, ok.has, ok.cab, ok.hd, ok.frames, ok.stk, ok.exf, ok.bs, ok.bsz, ok.noex, ok.exfs, ok.funs, ok.frf⟩
section
variable {X : Cx} {pins : List (Addr × Obj)} {σ : St} {H : Hp} {s : Shared} {E : Value → Shared → Prop}
theorem Inv.wish (I : Inv X pins σ H s) (E : Value → Shared → Prop) : Inv (X.wish E) pins σ H s := ⟨I.ok.wish E, I.os, I.bare, I.base, I.loc, I.cell, I.free, I.freeC, I.pin, I.hok, I.len⟩
theorem Inv.unwish (I : Inv (X.wish E) pins σ H s) : Inv X pins σ H s := ⟨I.ok.unwish, I.os, I.bare, I.base, I.loc, I.cell, I.free, I.freeC, I.pin, I.hok, I.len⟩
theorem SP.unwish {D : Ends} {f : Flow} {s' : Shared} (h : SP (X.wish E) pins D f s') : SP X pins D f s' := by
  cases f with
  | next => obtain ⟨σ', H', I, q⟩ := h; exact ⟨σ', H', I.unwish, q⟩
  | brk => obtain ⟨σ', H', I, q⟩ := h; exact ⟨σ', H', I.unwish, q⟩
  | cont => obtain ⟨σ', H', I, q⟩ := h; exact ⟨σ', H', I.unwish, q⟩
  | ret u => obtain ⟨v, σ', H', I, r, q⟩ := h; exact ⟨v, σ', H', I.unwish, r, q⟩
theorem PSs.nox {st : List Stmt} {t : TS} (h : PSs X.nox st t) : PSs X st t := fun pins s σ H D I hw =>
  wpAny_mono (h pins s σ H D (I.wish _) hw) (fun _ _ q => q.unwish) fun _ _ z => False.elim z
end
section
variable {X : Cx} {st : Stmt} {rest : List Stmt} {t u : TS} {e : Expr} {te : TE} {pos : Pos}
def tNext : TS := fun D σ H => D.nx σ H
def tSeq (t u : TS) : TS := fun D σ H => t { D with nx := u D } σ H
theorem pss_nil : PSs X [] tNext := fun _ _ σ H _ I h => wpAny_execs_nil ⟨σ, H, I, h⟩
theorem pss_cons (h1 : PS X st t) (h2 : PSs X rest u) : PSs X (st :: rest) (tSeq t u) := by
  intro pins s σ H D I h
  refine wpAny_execs_cons (thn (h1 pins s σ H { D with nx := u D } I h) fun f s1 q => ?_)
  cases f with
  | next =>
    obtain ⟨σ', H', I', q⟩ := q
    exact h2 pins s1 σ' H' D I' q
  | ret v => exact q
  | brk => exact q
  | cont => exact q
theorem pss_one (h1 : PS X st t) : PSs X [st] t := by
  intro pins s σ H D I h
  refine wpAny_execs_cons (thn (h1 pins s σ H D I h) fun f s1 q => ?_)
  cases f with
  | next => exact wpAny_execs_nil q
  | ret v => exact q
  | brk => exact q
  | cont => exact q
theorem Inv.quiet {pins : List (Addr × Obj)} {σ : St} {H : Hp} {s : Shared} (I : Inv X pins σ H s) : interactive X.env = false := by simp [interactive, I.ok.kind]
def tDrop (te : TE) : TS := fun D σ H => te σ H fun _ H1 => D.nx σ H1
theorem ps_expr (he : PE X e te) (hs : swapsWith e none pos.line X.env = pure false := by rfl) : PS X (.Expr e pos) (tDrop te) := by
  intro pins s σ H D I h
  exact wpAny_Expr_any (thn (he pins s σ H _ I h) fun v s1 ⟨x, H1, I1, r1, q1⟩ => ⟨σ, H1, I1, q1⟩) I.quiet hs
def tRet (te : TE) : TS := fun D σ H => te σ H D.rt
theorem ps_ret (he : PE X e te) : PS X (.Return (some e) pos) (tRet te) := by
  intro pins s σ H D I h
  exact wpAny_Return_some (thn (he pins s σ H _ I h) fun v s1 ⟨x, H1, I1, r1, q1⟩ => ⟨x, σ, H1, I1, r1, q1⟩)
def tIfS (c : TT) (t u : TS) : TS := fun D σ H => c σ H fun b H1 => if b = true then t D σ H1 else u D σ H1
theorem ps_if {c : Expr} {a b : List Stmt} {tc : TT} (hc : PT X c tc) (ha : PSs X a t) (hb : PSs X b u) : PS X (.If c a b pos) (tIfS tc t u) := by
  intro pins s σ H D I h
  refine wpAny_If (thn (hc pins s σ H _ I h) fun d s1 ⟨H1, I1, q1⟩ => ?_)
  cases d with
  | true => exact ha pins s1 σ H1 D I1 q1
  | false => exact hb pins s1 σ H1 D I1 q1
def tNever : TS := fun _ _ _ => False
theorem pss_never {sts : List Stmt} : PSs X sts tNever := fun _ _ _ _ _ _ h => h.elim
end
abbrev TG := V → St → Hp → (St → Hp → Prop) → Prop
abbrev TGs := List V → St → Hp → (St → Hp → Prop) → Prop
def PG (X : Cx) (target : Expr) (t : TG) : Prop :=
  ∀ (pins : List (Addr × Obj)) (s : Shared) (σ : St) (H : Hp) (v : V) (u : Value) (Q : St → Hp → Prop), Inv X pins σ H s → RelV v u → t v σ H Q →
    wpAny (model X.prog X.w) X.A (assign target X.env u) (fun _ s' => ∃ σ' H', Inv X pins σ' H' s' ∧ Q σ' H') X.xe s
def PGs (X : Cx) (ts : List Expr) (t : TGs) : Prop :=
  ∀ (pins : List (Addr × Obj)) (s : Shared) (σ : St) (H : Hp) (vs : List V) (us : List Value) (Q : St → Hp → Prop), Inv X pins σ H s → Vals vs us → t vs σ H Q →
    wpAny (model X.prog X.w) X.A (assignInOrder ((assignEach ts X.env).map (·.2)) us) (fun _ s' => ∃ σ' H', Inv X pins σ' H' s' ∧ Q σ' H') X.xe s
section
variable {X : Cx} {pos : Pos}
def gName (i : Nat) : TG := fun v σ H Q => Q (σ.set i (some v)) H
theorem pg_name {i : Nat} {x : Str} (hN : X.N.Nodup) (hi : X.N[i]? = some x) (hx : Loc X.env.scope x) (hf : X.fn x = true ∨ X.env.scope.names.lookup x = some .local := by first | exact .inl rfl | exact .inr rfl | assumption) : PG X (.Name x pos) (gName i) := by
  intro pins s σ H v u Q I r h
  exact wpAny_assign_Name (store_ok I hN hi hx r (fun s' I' => ⟨_, H, I', h⟩) hf)
def gNil : TGs := fun vs σ H Q => vs = [] ∧ Q σ H
def gCons (t : TG) (u : TGs) : TGs := fun vs σ H Q => ∃ v r, vs = v :: r ∧ t v σ H fun σ' H' => u r σ' H' Q
theorem pgs_nil : PGs X [] gNil := by
  intro pins s σ H vs us Q I r h
  obtain ⟨e, h⟩ := h
  subst e
  cases r
  exact assignInOrder_nil ⟨σ, H, I, h⟩
theorem pgs_cons {e : Expr} {es : List Expr} {t : TG} {u : TGs} (h1 : PG X e t) (h2 : PGs X es u)
    (hs : (assignEach (e :: es) X.env).map (·.2) = assign e X.env :: (assignEach es X.env).map (·.2) := by rfl) : PGs X (e :: es) (gCons t u) := by
  intro pins s σ H vs us Q I r h
  obtain ⟨v, vr, e1, h⟩ := h
  subst e1
  cases r with
  | cons r rr =>
    rw [hs]
    refine assignInOrder_cons (thn (h1 pins s σ H _ _ _ I r h) fun _ s1 ⟨σ1, H1, I1, q1⟩ => ?_)
    exact h2 pins s1 σ1 H1 _ _ Q I1 rr q1
def gTup (K : PySem.W.Frag) (n : Nat) (t : TGs) : TG := fun v σ H Q => ∃ a xs, v = .ref a ∧ SqT K H a xs ∧ xs.length = n ∧ t xs σ H Q
theorem pg_tup {es : List Expr} {k : Nat} {t : TGs} {n : Nat} (hc : X.calm = true) (h : PGs X es t)
    (hn : (assignEach es X.env).length = n := by rfl) (hst : (assignEach es X.env).findIdx? (·.1) = none := by rfl) : PG X (.Tuple es k pos) (gTup X.K n t) := by
  intro pins s σ H v u Q I r hw
  obtain ⟨a, xs, e1, hq, hl, hw⟩ := hw
  subst e1
  cases r
  obtain ⟨its, rv, ht, hz⟩ := I.tuple hq
  refine assign_Tuple_tuple (I.ok.hd hc) ht (by simp [hn, ← hl, rv.length]) hst fun h' hx => ?_
  have I1 : Inv X pins σ H { s with heap := h' } := I.kept (t' := s.toks) fun b o e => hx b o (Nat.ne_of_lt (Heap.lt_size e)) e
  exact h pins _ σ H xs _ Q I1 (by simpa using rv) hw
def tAsg (te : TE) (g : TG) : TS := fun D σ H => te σ H fun x H1 => g x σ H1 D.nx
theorem ps_set {i : Nat} {x : Str} {e : Expr} {te : TE} {pos' : Pos} (hN : X.N.Nodup) (hi : X.N[i]? = some x) (hx : Loc X.env.scope x) (he : PE X e te) (hs : swapsWith e (some (.Name x pos')) pos.line X.env = pure false := by rfl) (hf : X.fn x = true ∨ X.env.scope.names.lookup x = some .local := by first | exact .inl rfl | exact .inr rfl | assumption) :
    PS X (.Assign [.Name x pos'] e pos) (tAsg te (gName i)) := by
  intro pins s σ H D I h
  refine wpAny_Assign_Name (thn (he pins s σ H _ I h) fun v s1 ⟨y, H1, I1, r1, q1⟩ => ?_) hs
  exact store_ok I1 hN hi hx r1 (fun s2 I2 => ⟨_, H1, I2, q1⟩) hf
end
section
variable {X : Cx} {pos : Pos}
def tWhile (c : TT) (tb : TS) : TS := fun D σ H => ∃ W : Nat → St → Hp → Prop, (∃ m, W m σ H) ∧ ∀ m σ H, W m σ H →
  c σ H fun b H1 => if b = true then ∃ N : St → Hp → Prop, (∀ σ' H', N σ' H' → ∃ m', m' < m ∧ W m' σ' H') ∧ tb { D with nx := N, ct := N, bk := D.nx } σ H1 else D.nx σ H1
theorem ps_while {c : Expr} {body : List Stmt} {tc : TT} {tb : TS} (hp : PassesOwn (model X.prog X.w) X.A X.env X.xe) (hc : PT X c tc) (hb : PSs X body tb) : PS X (.While c body [] pos) (tWhile tc tb) := by
  intro pins s σ H D I h
  obtain ⟨W, ⟨m0, w0⟩, turn⟩ := h
  refine wpAny_While (codeAny_whileLoop (fun n s' => ∃ σ' H', Inv X pins σ' H' s' ∧ W n σ' H') ?_ m0 ⟨σ, H, I, w0⟩)
  rintro n s1 ⟨σ1, H1, I1, w1⟩
  refine wpAny_passesOwn hp (thn (hc pins s1 σ1 H1 _ I1 (turn n σ1 H1 w1)) fun b s2 ⟨H2, I2, q2⟩ => ?_)
  cases b with
  | true =>
    obtain ⟨N, hN, q2⟩ := q2
    rw [if_pos rfl]
    refine wpAny_passesOwn hp (thn (hb pins s2 σ1 H2 _ I2 q2) fun f s3 q3 => ?_)
    cases f with
    | next =>
      obtain ⟨σ3, H3, I3, n3⟩ := q3
      obtain ⟨m', hm, w3⟩ := hN σ3 H3 n3
      exact ⟨m', hm, σ3, H3, I3, w3⟩
    | cont =>
      obtain ⟨σ3, H3, I3, n3⟩ := q3
      obtain ⟨m', hm, w3⟩ := hN σ3 H3 n3
      exact ⟨m', hm, σ3, H3, I3, w3⟩
    | brk => exact q3
    | ret v => exact q3
  | false =>
    rw [if_neg Bool.false_ne_true]
    exact wpAny_execs_nil ⟨σ1, H2, I2, q2⟩
end
structure It where
  go : Nat → Hp → Prop
  yld : Nat → Hp → V → Hp → Prop
  stop : Nat → Hp → Prop
def FpOk (X : Cx) (pins : List (Addr × Obj)) (H : Hp) (b : Addr) : Prop :=
  H b = none ∧ b ≠ X.env.locals ∧ b ∉ X.fs ∧ (b ∈ X.ex ∨ X.s₀.heap.objs.size ≤ b) ∧ (∀ x c, X.env.cells.lookup x = some c → c ≠ b) ∧ ∀ p ∈ X.pn ++ pins, p.1 ≠ b
theorem Inv.fpOk {X : Cx} {pins : List (Addr × Obj)} {σ : St} {H H' : Hp} {s : Shared} {b : Addr} (I : Inv X pins σ H s) (hb : s.heap.objs.size ≤ b) (hn : H' b = none) : FpOk X pins H' b := by
  refine ⟨hn, Nat.ne_of_gt (Nat.lt_of_lt_of_le I.lt hb), I.nofs hb, .inr (Nat.le_trans I.sz hb), fun x c e z => ?_, fun p hp z => ?_⟩
  · obtain ⟨v, q⟩ := I.cell x c e
    exact absurd (Nat.lt_of_lt_of_le q.lt (by rw [z]; exact hb)) (Nat.lt_irrefl _)
  · exact absurd (Nat.lt_of_lt_of_le (Heap.lt_size (I.pin p hp).1) (by rw [z]; exact hb)) (Nat.lt_irrefl _)
structure Turn (P : Program) (w : World) (K : PySem.W.Frag) (tg : Expr) (J : It) (fp : List Addr) (it : Addr) (tn : Nat → Heap → Prop) : Prop where
  mem : it ∈ fp
  obj : ∀ i h, tn i h → ∀ b ∈ fp, ∃ o, h.get? b = some o ∧ ∀ v, o.data ≠ .cell v
  keep : ∀ i h h', tn i h → (∀ b ∈ fp, ∀ o, h.get? b = some o → h'.get? b = some o) → tn i h'
  item : ∀ (X : Cx), X.prog = P → X.w = w → X.K = K → X.calm = true → ∀ (i : Nat) (pins : List (Addr × Obj)) (s : Shared) (σ : St) (H : Hp) (E : Value → Shared → Prop), Inv X pins σ H s → (∀ b ∈ fp, FpOk X pins H b) → tn i s.heap → J.go i H →
    wpAny (model P w) X.A (pyNext (.ref it)) (fun r s1 => ∃ u, r = some u ∧
      wpAny (model P w) X.A (letOwnedTupleGo tg (.ref it) u) (fun _ s2 => ∃ x H', Inv X pins σ H' s2 ∧ RelV x u ∧ J.yld i H x H' ∧ tn (i + 1) s2.heap ∧ ∀ b ∈ fp, H' b = none) E s1) E s
  done : ∀ (X : Cx), X.prog = P → X.w = w → X.K = K → X.calm = true → ∀ (i : Nat) (pins : List (Addr × Obj)) (s : Shared) (σ : St) (H : Hp) (E : Value → Shared → Prop), Inv X pins σ H s → (∀ b ∈ fp, FpOk X pins H b) → tn i s.heap → J.stop i H →
    wpAny (model P w) X.A (pyNext (.ref it)) (fun r s1 => r = none ∧ Inv X pins σ H s1) E s
  self : ∀ (A : Around) (i : Nat) (s : Shared) (Q : Value → Shared → Prop) (E : Value → Shared → Prop), tn i s.heap → Q (.ref it) s → wpAny (model P w) A (pyIter (.ref it)) Q E s
abbrev TI := St → Hp → (It → Hp → Prop) → Prop
def PIE (X : Cx) (pins : List (Addr × Obj)) (σ : St) (tg : Expr) (R : It → Hp → Prop) (itv : Value) (s2 : Shared) : Prop :=
  ∃ (it : Addr) (fp : List Addr) (tn : Nat → Heap → Prop) (J : It) (H' : Hp), itv = .ref it ∧ Inv X pins σ H' s2 ∧ Turn X.prog X.w X.K tg J fp it tn ∧ tn 0 s2.heap ∧ (∀ b ∈ fp, FpOk X pins H' b) ∧ R J H'
def PI (X : Cx) (tg iter : Expr) (wi : TI) : Prop :=
  ∀ (pins : List (Addr × Obj)) (s : Shared) (σ : St) (H : Hp) (R : It → Hp → Prop), Inv X pins σ H s → wi σ H R →
    wpAny (model X.prog X.w) X.A (eval iter X.env) (fun v s1 => wpAny (model X.prog X.w) X.A (pyIter v) (PIE X pins σ tg R) X.xe s1) X.xe s
theorem go_of {M : Model} {A : Around} {E : Value → Shared → Prop} {s : Shared} {tg : Expr} {it : Addr} {u : Value} {o : Obj} {n : String} {vs : Array Value} {Q : Unit → Shared → Prop} (ho : s.heap.get? it = some o) (hc : o.cls = .type n) (hd : o.data = .fields vs)
    (hn : ["enumerate", "zip", "dict_itemiterator", "dict_reverseitemiterator", "odict_iterator", "itertools.zip_longest", "itertools.pairwise"].contains n = false) (hQ : Q () s) : wpAny M A (letOwnedTupleGo tg (.ref it) u) Q E s := by
  unfold letOwnedTupleGo
  cases tg <;> first
    | exact wpAny_pure hQ
    | (cases u <;> first
        | exact wpAny_pure hQ
        | (refine wpAny_bind (wpAny_load ho ?_)
           rw [hc, hd]
           show wpAny M A (if (["enumerate", "zip", "dict_itemiterator", "dict_reverseitemiterator", "odict_iterator", "itertools.zip_longest", "itertools.pairwise"].contains n && vs[0]? == some (rawInt _)) = true then _ else _) Q E s
           rw [if_neg (by intro h; rw [hn, Bool.false_and] at h; cases h)]
           exact wpAny_pure hQ))
def Itl (K : PySem.W.Frag) (a : Addr) : It :=
  ⟨fun i H => ∃ xs x, SqL K H a xs ∧ xs[i]? = some x, fun i H x H' => H' = H ∧ ∀ xs, SqL K H a xs → xs[i]? = some x, fun i H => ∃ xs, SqL K H a xs ∧ xs.length ≤ i⟩
def Itr (lo : Int) (n : Nat) : It := ⟨fun i _ => i < n, fun i H x H' => H' = H ∧ x = .int (lo + i), fun i _ => n ≤ i⟩
theorem turn_list {P : Program} {w : World} {K : PySem.W.Frag} {tg : Expr} (a it : Addr) : Turn P w K tg (Itl K a) [it] it (fun i h => h.IsListIter it a i) where
  mem := by simp
  obj := fun i h st b hb => by
    have e : b = it := by simpa using hb
    subst e
    obtain ⟨o, e, c, d⟩ := st
    exact ⟨o, e, fun v z => by rw [d] at z; cases z⟩
  keep := fun i h h' st k => st.at fun o e => k it (by simp) o e
  item := by
    intro X hP hw hK hc i pins s σ H E I hf st hg
    subst hP hw hK
    obtain ⟨xs, x, hq, hx⟩ := hg
    obtain ⟨its, rv, p, hz⟩ := I.list hq
    obtain ⟨u, hu, ru⟩ := rv.get hx
    obtain ⟨f0, f1, f2, f3, f4, f5⟩ := hf it (by simp)
    refine wpAny_pyNext_list_item st p.isList (x := u) (by simpa using hu) fun h' st' sb => ?_
    have I1 : Inv X pins σ H { s with heap := h' } := I.turned (t' := s.toks) (fun b o hb e => (sb.2 b hb).trans e) f0 f1 f3 f4 f5
    obtain ⟨o, e, c, d⟩ := id st'
    exact ⟨u, rfl, go_of (s := { s with heap := h' }) e c d (by decide) ⟨x, H, I1, ru, ⟨rfl, fun ys hy => by rw [I.list_inj hy hq]; exact hx⟩, st', fun b hb => (hf b hb).1⟩⟩
  done := by
    intro X hP hw hK hc i pins s σ H E I hf st hg
    subst hP hw hK
    obtain ⟨xs, hq, hx⟩ := hg
    obtain ⟨its, rv, p, hz⟩ := I.list hq
    obtain ⟨f0, f1, f2, f3, f4, f5⟩ := hf it (by simp)
    have hl := rv.length
    exact wpAny_pyNext_list_end (I.ok.hd hc) st p.isList (by simp; omega) fun h' eb => ⟨rfl, I.turned (t' := s.toks) (fun b o hb e => eb b o hb e) f0 f1 f3 f4 f5⟩
  self := fun _ _ _ _ _ st h => wpAny_pyIter_listiter st h
theorem turn_range {P : Program} {w : World} {K : PySem.W.Frag} {tg : Expr} (it : Addr) (lo : Int) (n : Nat) : Turn P w K tg (Itr lo n) [it] it (fun i h => IsRangeIter h it (lo + (i : Nat) * 1) ((n : Int) - (i : Nat)) 1) where
  mem := by simp
  obj := fun i h st b hb => by
    have e : b = it := by simpa using hb
    subst e
    exact ⟨_, st, fun v z => by
      have z' : Data.fields _ = Data.cell v := z
      cases z'⟩
  keep := fun i h h' st k => k it (by simp) _ st
  item := by
    intro X hP hw hK hc i pins s σ H E I hf st hg
    subst hP hw hK
    obtain ⟨f0, f1, f2, f3, f4, f5⟩ := hf it (by simp)
    have W := Walks.range (prog := X.prog) (w := X.w) (I.ok.hd hc) it lo 1 n
    refine W.item i s _ _ hg st fun v h' tk hv st' kk => ?_
    obtain ⟨t, rfl⟩ := hv
    have I1 : Inv X pins σ H { s with heap := h', toks := tk } := I.turned (fun b o hb e => kk b o (by simpa using hb) e) f0 f1 f3 f4 f5
    refine ⟨_, rfl, go_of (s := { s with heap := h', toks := tk }) (n := "range_iterator") st' rfl rfl (by decide) ⟨.int (lo + i), H, I1, ⟨t, ?_⟩, ⟨rfl, rfl⟩, st', fun b hb => (hf b hb).1⟩⟩
    rw [Int.mul_one]
  done := by
    intro X hP hw hK hc i pins s σ H E I hf st hg
    subst hP hw hK
    obtain ⟨f0, f1, f2, f3, f4, f5⟩ := hf it (by simp)
    exact wpAny_pyNext_range_end (I.ok.hd hc) st (by have : n ≤ i := hg; omega) fun h' eb => ⟨rfl, I.turned (t' := s.toks) (fun b o hb e => eb b o hb e) f0 f1 f3 f4 f5⟩
  self := fun _ _ _ _ _ st h => wpAny_pyIter_rangeiter st h
end L2
namespace L2
open PySem PySem.Spec PyProof.Rows
section
variable {X : Cx} {tg : Expr}
def iList (K : PySem.W.Frag) (tl : TE) : TI := fun σ H R => tl σ H fun x H1 => ∃ a, x = .ref a ∧ (∃ xs, SqL K H1 a xs) ∧ R (Itl K a) H1
theorem pi_list {l : Expr} {tl : TE} (hl : PE X l tl) : PI X tg l (iList X.K tl) := by
  intro pins s σ H R I h
  refine thn (hl pins s σ H _ I h) fun v s1 ⟨x, H1, I1, r1, q1⟩ => ?_
  obtain ⟨a, e, ⟨xs, hq⟩, q⟩ := q1
  subst e
  cases r1
  obtain ⟨its, rv, p, hz⟩ := I1.list hq
  refine wpAny_pyIter_list p.isList ?_
  refine ⟨s1.heap.objs.size, [s1.heap.objs.size], _, _, H1, rfl, I1.kept (t' := s1.toks) fun b o e => Heap.get?_push_of_some _ e, turn_list a _, ⟨_, Heap.get?_push_size _ rfl, rfl, rfl⟩, fun b hb => ?_, q⟩
  have e : b = s1.heap.objs.size := by simpa using hb
  subst e
  exact I1.fpOk (Nat.le_refl _) (I1.hok.fresh (Nat.le_refl _))
theorem range_it {pins : List (Addr × Obj)} {σ : St} {H : Hp} {s : Shared} {R : It → Hp → Prop} {E : Value → Shared → Prop} {lo hi : Int} {t u v : Tok} {tk : Nat} (I : Inv X pins σ H s) (h1 : -(2 ^ 62) ≤ lo) (h2 : lo < 2 ^ 62) (h3 : -(2 ^ 62) ≤ hi) (h4 : hi < 2 ^ 62)
    (q : R (Itr lo (hi - lo).toNat) H) : wpAny (model X.prog X.w) X.A (pyIter (.ref s.heap.objs.size)) (PIE X pins σ tg R) E { s with heap := s.heap.push { cls := .type "range", data := .fields #[.int lo t, .int hi u, .int 1 v] }, toks := tk } := by
  refine wpAny_pyIter_range (IsRange.new ..) (small_one h1 h2 h3 h4) ?_
  have I1 : Inv X pins σ H { s with heap := s.heap.push { cls := .type "range", data := .fields #[.int lo t, .int hi u, .int 1 v] }, toks := tk } := I.kept fun b o e => Heap.get?_push_of_some _ e
  refine ⟨(s.heap.push { cls := .type "range", data := .fields #[.int lo t, .int hi u, .int 1 v] }).objs.size, [(s.heap.push { cls := .type "range", data := .fields #[.int lo t, .int hi u, .int 1 v] }).objs.size], _, _, H, rfl,
    I1.kept (t' := tk) fun b o e => Heap.get?_push_of_some _ e, turn_range _ lo (hi - lo).toNat, ?_, fun b hb => ?_, q⟩
  · have e1 : lo + ((0 : Nat) : Int) * 1 = lo := by simp
    have e2 : (((hi - lo).toNat : Nat) : Int) - ((0 : Nat) : Int) = Builtin.Range.rangeSize lo hi 1 := by rw [rangeSize_one]; split <;> omega
    show IsRangeIter _ _ (lo + ((0 : Nat) : Int) * 1) ((((hi - lo).toNat : Nat) : Int) - ((0 : Nat) : Int)) 1
    rw [e1, e2]
    exact Heap.get?_push_size _ rfl
  · have e : b = (s.heap.push { cls := .type "range", data := .fields #[.int lo t, .int hi u, .int 1 v] }).objs.size := by simpa using hb
    subst e
    exact I1.fpOk (Nat.le_refl _) (I1.hok.fresh (Nat.le_refl _))
def iRng1 (ta : TA) : TI := fun σ H R => ta σ H fun vs H1 => ∃ j : Int, vs = [.int j] ∧ -(2 ^ 62) ≤ j ∧ j < 2 ^ 62 ∧ R (Itr 0 j.toNat) H1
theorem pi_range1 {a : Expr} {ta : TA} {p pos : Pos} (hg : Gl X "range") (hm : X.mg "range" = none) (ha : PA X [a] ta) (hs : starEach [a] X.env = [(false, eval a X.env)] := by rfl) : PI X tg (.Call (.Name "range" p) [a] [] pos) (iRng1 ta) := by
  intro pins s σ H R I h
  refine Call_ (ld_blt I hg hm boot_range (PyProof.Rows.callWith_type1 (thn (ha pos pins s σ H _ I h) fun us s1 ⟨vs, H1, I1, r1, q1⟩ => ?_) hs rfl))
  obtain ⟨j, e, q1, q2, q⟩ := q1
  subst e
  cases r1 with
  | cons r rr =>
    cases rr
    obtain ⟨t, rfl⟩ := r
    exact call_range_1 (range_it I1 (by omega) (by omega) q1 q2 (by simpa using q))
def tFor (wi : TI) (g : TG) (tb : TS) : TS := fun D σ H => wi σ H fun J H1 => ∃ W : Nat → Nat → St → Hp → Prop, (∃ m, W 0 m σ H1) ∧ ∀ i m σ H, W i m σ H →
  (J.stop i H ∧ D.nx σ H) ∨ (J.go i H ∧ ∃ N : St → Hp → Prop, (∀ σ' H', N σ' H' → ∃ m', m' < m ∧ W (i + 1) m' σ' H') ∧ ∀ x H', J.yld i H x H' → g x σ H' fun σ2 H2 => tb { D with nx := N, ct := N, bk := D.nx } σ2 H2)
def pinsAt (fp : List Addr) (h : Heap) : List (Addr × Obj) := fp.filterMap fun b => (h.get? b).map fun o => (b, o)
theorem mem_pinsAt {fp : List Addr} {h : Heap} {b : Addr} {o : Obj} (hb : b ∈ fp) (e : h.get? b = some o) : (b, o) ∈ pinsAt fp h := List.mem_filterMap.mpr ⟨b, hb, by rw [e]; rfl⟩
theorem of_pinsAt {fp : List Addr} {h : Heap} {p : Addr × Obj} (hp : p ∈ pinsAt fp h) : p.1 ∈ fp ∧ h.get? p.1 = some p.2 := by
  obtain ⟨b, hb, e⟩ := List.mem_filterMap.mp hp
  cases q : h.get? b with
  | none => rw [q] at e; cases e
  | some o =>
    rw [q] at e
    have e' : (b, o) = p := Option.some.inj e
    subst e'
    exact ⟨hb, q⟩
theorem Inv.pinned {pins : List (Addr × Obj)} {σ : St} {H : Hp} {s : Shared} {fp : List Addr} (I : Inv X pins σ H s) (hf : ∀ b ∈ fp, FpOk X pins H b) (ho : ∀ b ∈ fp, ∃ o, s.heap.get? b = some o ∧ ∀ v, o.data ≠ .cell v) : Inv X (pins ++ pinsAt fp s.heap) σ H s :=
  I.pins_of fun p hp => (List.mem_append.mp hp).elim (fun z => I.pin p (List.mem_append_right _ z)) fun z => by
    obtain ⟨hb, e⟩ := of_pinsAt z
    obtain ⟨f0, f1, f2, _⟩ := hf p.1 hb
    obtain ⟨o, e', d⟩ := ho p.1 hb
    rw [e] at e'; cases e'
    exact ⟨e, f0, f1, f2, d⟩
theorem Inv.unpinned {pins pl : List (Addr × Obj)} {σ : St} {H : Hp} {s : Shared} (I : Inv X (pins ++ pl) σ H s) : Inv X pins σ H s := I.pins_of fun p hp => I.pin p (List.mem_append_right _ (List.mem_append_left _ hp))
theorem ps_for {iter : Expr} {body : List Stmt} {wi : TI} {g : TG} {tb : TS} {pos : Pos} (hp : PassesOwn (model X.prog X.w) X.A X.env X.xe) (hc : X.calm = true) (hi : PI X tg iter wi) (hg : PG X tg g) (hb : PSs X body tb)
    (hs : ∀ x, foldedSetIterable iter X.env x = pure x := by intro _; rfl) : PS X (.For tg iter body [] pos) (tFor wi g tb) := by
  intro pins s σ H D I h
  refine wpAny_For (thn (hi pins s σ H _ I h) fun v s1 h1 => thn h1 fun itv s2 h2 => ?_) hs
  obtain ⟨it, fp, tn, J, H2, e, I2, T, st2, f2, W, ⟨m0, w0⟩, turn⟩ := h2
  subst e
  -- what stays true of the iterator's objects through the loop
  have stat : ∀ {H' : Hp}, (∀ b ∈ fp, H' b = none) → ∀ b ∈ fp, FpOk X pins H' b := fun hn b hb => ⟨hn b hb, (f2 b hb).2⟩
  refine codeAny_forLoop_any (fun n s' => ∃ i σ' H', Inv X pins σ' H' s' ∧ tn i s'.heap ∧ (∀ b ∈ fp, H' b = none) ∧ W i n σ' H') ?_ m0 ⟨0, σ, H2, I2, st2, fun b hb => (f2 b hb).1, w0⟩
  rintro n s3 ⟨i, σ3, H3, I3, st3, fr3, w3⟩
  rcases turn i n σ3 H3 w3 with ⟨stop, qn⟩ | ⟨go, N, hN, step⟩
  · refine wpAny_passesOwn hp (thn (T.done X rfl rfl rfl hc i pins s3 σ3 H3 X.xe I3 (stat fr3) st3 stop) fun r s4 ⟨hr, I4⟩ => ?_)
    subst hr
    exact wpAny_execs_nil ⟨σ3, H3, I4, qn⟩
  · refine wpAny_passesOwn hp (thn (T.item X rfl rfl rfl hc i pins s3 σ3 H3 X.xe I3 (stat fr3) st3 go) fun r s4 ⟨u, hr, h4⟩ => ?_)
    subst hr
    refine wpAny_passesOwn hp (thn h4 fun _ s5 ⟨x, H5, I5, r5, y5, st5, fr5⟩ => ?_)
    have I5' := I5.pinned (stat fr5) (T.obj _ _ st5)
    refine wpAny_passesOwn hp (thn (hg _ s5 σ3 H5 x u _ I5' r5 (step x H5 y5)) fun _ s6 ⟨σ6, H6, I6, q6⟩ => ?_)
    refine wpAny_passesOwn hp (thn (hb _ s6 σ6 H6 _ I6 q6) fun f s7 q7 => ?_)
    have again : ∀ {σ7 : St} {H7 : Hp}, Inv X (pins ++ pinsAt fp s5.heap) σ7 H7 s7 → N σ7 H7 → ∃ m, m < n ∧ ∃ i σ' H', Inv X pins σ' H' s7 ∧ tn i s7.heap ∧ (∀ b ∈ fp, H' b = none) ∧ W i m σ' H' := fun {σ7 H7} I7 n7 => by
      obtain ⟨m', hm, w7⟩ := hN σ7 H7 n7
      refine ⟨m', hm, i + 1, σ7, H7, I7.unpinned, T.keep _ _ _ st5 fun b hb o e => (I7.pin (b, o) (List.mem_append_right _ (List.mem_append_right _ (mem_pinsAt hb e)))).1, fun b hb => ?_, w7⟩
      obtain ⟨o, e, d⟩ := T.obj _ _ st5 b hb
      exact (I7.pin (b, o) (List.mem_append_right _ (List.mem_append_right _ (mem_pinsAt hb e)))).2.1
    cases f with
    | next => obtain ⟨σ7, H7, I7, n7⟩ := q7; exact again I7 n7
    | cont => obtain ⟨σ7, H7, I7, n7⟩ := q7; exact again I7 n7
    | brk => obtain ⟨σ7, H7, I7, q7⟩ := q7; exact ⟨σ7, H7, I7.unpinned, q7⟩
    | ret v => obtain ⟨x7, σ7, H7, I7, r7, q7⟩ := q7; exact ⟨x7, σ7, H7, I7.unpinned, r7, q7⟩
end
theorem for_list {K : PySem.W.Frag} {a : Addr} {xs : List V} {g : TG} {tb : TS} {D : Ends} {σ : St} {H : Hp} (Pv : Nat → St → Hp → Prop) (h0 : Pv 0 σ H) (hl : ∀ i σ H, i ≤ xs.length → Pv i σ H → SqL K H a xs)
    (hs : ∀ i x σ H, xs[i]? = some x → Pv i σ H → g x σ H fun σ2 H2 => tb { D with nx := Pv (i + 1), ct := Pv (i + 1), bk := D.nx } σ2 H2) (hd : ∀ σ H, Pv xs.length σ H → D.nx σ H) :
    ∃ W : Nat → Nat → St → Hp → Prop, (∃ m, W 0 m σ H) ∧ ∀ i m σ H, W i m σ H →
      ((Itl K a).stop i H ∧ D.nx σ H) ∨ ((Itl K a).go i H ∧ ∃ N : St → Hp → Prop, (∀ σ' H', N σ' H' → ∃ m', m' < m ∧ W (i + 1) m' σ' H') ∧ ∀ x H', (Itl K a).yld i H x H' → g x σ H' fun σ2 H2 => tb { D with nx := N, ct := N, bk := D.nx } σ2 H2) := by
  refine ⟨fun i m σ H => m = xs.length - i ∧ i ≤ xs.length ∧ Pv i σ H, ⟨xs.length, by simp, Nat.zero_le _, h0⟩, ?_⟩
  rintro i m σ H ⟨rfl, hi, p⟩
  have q := hl i σ H hi p
  by_cases hlt : i < xs.length
  · refine .inr ⟨⟨xs, xs[i], q, by simp [hlt]⟩, Pv (i + 1), fun σ' H' p' => ⟨xs.length - (i + 1), by omega, rfl, hlt, p'⟩, fun x H' y => ?_⟩
    obtain ⟨e, y⟩ := y
    subst e
    exact hs i x σ _ (y xs q) p
  · have e : i = xs.length := by omega
    subst e
    exact .inl ⟨⟨xs, q, Nat.le_refl _⟩, hd σ H p⟩
theorem for_range {lo : Int} {n : Nat} {g : TG} {tb : TS} {D : Ends} {σ : St} {H : Hp} (Pv : Nat → St → Hp → Prop) (h0 : Pv 0 σ H)
    (hs : ∀ i σ H, i < n → Pv i σ H → g (.int (lo + i)) σ H fun σ2 H2 => tb { D with nx := Pv (i + 1), ct := Pv (i + 1), bk := D.nx } σ2 H2) (hd : ∀ σ H, Pv n σ H → D.nx σ H) :
    ∃ W : Nat → Nat → St → Hp → Prop, (∃ m, W 0 m σ H) ∧ ∀ i m σ H, W i m σ H →
      ((Itr lo n).stop i H ∧ D.nx σ H) ∨ ((Itr lo n).go i H ∧ ∃ N : St → Hp → Prop, (∀ σ' H', N σ' H' → ∃ m', m' < m ∧ W (i + 1) m' σ' H') ∧ ∀ x H', (Itr lo n).yld i H x H' → g x σ H' fun σ2 H2 => tb { D with nx := N, ct := N, bk := D.nx } σ2 H2) := by
  refine ⟨fun i m σ H => m = n - i ∧ i ≤ n ∧ Pv i σ H, ⟨n, by simp, Nat.zero_le _, h0⟩, ?_⟩
  rintro i m σ H ⟨rfl, hi, p⟩
  by_cases hlt : i < n
  · refine .inr ⟨hlt, Pv (i + 1), fun σ' H' p' => ⟨n - (i + 1), by omega, rfl, hlt, p'⟩, fun x H' y => ?_⟩
    obtain ⟨e, y⟩ := y
    subst e y
    exact hs i σ _ hlt p
  · have e : i = n := by omega
    subst e
    exact .inl ⟨Nat.le_refl _, hd σ H p⟩
end L2
namespace L2
open PySem PySem.Spec PyProof.Rows
abbrev R2 := V → V → Hp → VK → Prop
def OpR (X : Cx) (f : Value → Value → Sem Value) (r : R2) : Prop :=
  ∀ (pins : List (Addr × Obj)) (s : Shared) (σ : St) (H : Hp) (x y : V) (v u : Value) (Q : VK), Inv X pins σ H s → RelV x v → RelV y u → r x y H Q →
    wpAny (model X.prog X.w) X.A (f v u) (EP X pins σ Q) X.xe s
def UnR (X : Cx) (f : Value → Sem Value) (r : V → Hp → VK → Prop) : Prop :=
  ∀ (pins : List (Addr × Obj)) (s : Shared) (σ : St) (H : Hp) (x : V) (v : Value) (Q : VK), Inv X pins σ H s → RelV x v → r x H Q →
    wpAny (model X.prog X.w) X.A (f v) (EP X pins σ Q) X.xe s
def CallR (X : Cx) (f : Value) (r : List V → Hp → VK → Prop) : Prop :=
  ∀ (pins : List (Addr × Obj)) (s : Shared) (σ : St) (H : Hp) (xs : List V) (us : List Value) (Q : VK), Inv X pins σ H s → Vals xs us → r xs H Q →
    wpAny (model X.prog X.w) X.A (call f us) (EP X pins σ Q) X.xe s
def TruR (X : Cx) (r : V → Hp → (Bool → Hp → Prop) → Prop) : Prop :=
  ∀ (pins : List (Addr × Obj)) (s : Shared) (σ : St) (H : Hp) (x : V) (v : Value) (Q : Bool → Hp → Prop), Inv X pins σ H s → RelV x v → r x H Q →
    wpAny (model X.prog X.w) X.A (truthy v) (TP X pins σ Q) X.xe s
def tOp (r : R2) (ta tb : TE) : TE := fun σ H Q => ta σ H fun x H1 => tb σ H1 fun y H2 => r x y H2 Q
def tUn (r : V → Hp → VK → Prop) (ta : TE) : TE := fun σ H Q => ta σ H fun x H1 => r x H1 Q
def rI (C : Int → Int → Prop) (g : Int → Int → V) : R2 := fun x y H Q => ∃ i j, x = .int i ∧ y = .int j ∧ C i j ∧ Q (g i j) H
def rI0 (g : Int → Int → V) : R2 := fun x y H Q => ∃ i j, x = .int i ∧ y = .int j ∧ Q (g i j) H
def rU (g : Int → V) : V → Hp → VK → Prop := fun x H Q => ∃ i, x = .int i ∧ Q (g i) H
section
variable {X : Cx} {a b c : Expr} {ta tb tc : TE} {pos : Pos}
theorem binT (ha : PE X a ta) (hb : PE X b tb) {pins : List (Addr × Obj)} {s : Shared} {σ : St} {H : Hp} {R : V → V → Hp → Prop} (I : Inv X pins σ H s)
    (h : ta σ H fun x H1 => tb σ H1 fun y H2 => R x y H2) {Q : Value → Shared → Prop} {f : Value → Value → Sem Value}
    (hf : ∀ v u s2 x y H2, Inv X pins σ H2 s2 → RelV x v → RelV y u → R x y H2 → wpAny (model X.prog X.w) X.A (f v u) Q X.xe s2) :
    wpAny (model X.prog X.w) X.A (eval a X.env) (fun v s₁ => wpAny (model X.prog X.w) X.A (eval b X.env) (fun u s₂ => wpAny (model X.prog X.w) X.A (f v u) Q X.xe s₂) X.xe s₁) X.xe s := by
  refine thn (ha pins s σ H _ I h) fun v s1 ⟨x, H1, I1, r1, q1⟩ => ?_
  refine thn (hb pins s1 σ H1 _ I1 q1) fun u s2 ⟨y, H2, I2, r2, q2⟩ => ?_
  exact hf v u s2 x y H2 I2 r1 r2 q2
theorem pe_op {op : Operator} {r : R2} (ho : OpR X (binaryOp op) r) (ha : PE X a ta) (hb : PE X b tb) : PE X (.BinOp a op b pos) (tOp r ta tb) := by
  intro pins s σ H Q I h
  exact wpAny_BinOp (binT ha hb I h fun v u s2 x y H2 I2 rx ry q => ho pins s2 σ H2 x y v u Q I2 rx ry q)
theorem pe_un {op : UnaryOp} {r : V → Hp → VK → Prop} (ho : UnR X (unaryOp op) r) (ha : PE X a ta) : PE X (.UnaryOp op a pos) (tUn r ta) := by
  intro pins s σ H Q I h
  exact UnaryOp_ (thn (ha pins s σ H _ I h) fun v s1 ⟨x, H1, I1, r1, q1⟩ => ho pins s1 σ H1 x v Q I1 r1 q1)
theorem opI {f : Value → Value → Sem Value} {C : Int → Int → Prop} {g : Int → Int → Int}
    (rule : ∀ (i j : Int) (t u : Tok) (s : Shared) (Q : Value → Shared → Prop) (E : Value → Shared → Prop), C i j → Q (.int (g i j) s.toks) { s with toks := s.toks + 1 } → wpAny (model X.prog X.w) X.A (f (.int i t) (.int j u)) Q E s) :
    OpR X f (rI C fun i j => .int (g i j)) := by
  intro pins s σ H x y v u Q I rx ry h
  obtain ⟨i, j, rfl, rfl, hc, q⟩ := h
  obtain ⟨t, rfl⟩ := rx
  obtain ⟨t', rfl⟩ := ry
  exact rule i j t t' s _ _ hc ⟨.int (g i j), H, I.tok _, ⟨_, rfl⟩, q⟩
theorem opI0 {f : Value → Value → Sem Value} {g : Int → Int → Int}
    (rule : ∀ (i j : Int) (t u : Tok) (s : Shared) (Q : Value → Shared → Prop) (E : Value → Shared → Prop), Q (.int (g i j) s.toks) { s with toks := s.toks + 1 } → wpAny (model X.prog X.w) X.A (f (.int i t) (.int j u)) Q E s) :
    OpR X f (rI0 fun i j => .int (g i j)) := by
  intro pins s σ H x y v u Q I rx ry h
  obtain ⟨i, j, rfl, rfl, q⟩ := h
  obtain ⟨t, rfl⟩ := rx
  obtain ⟨t', rfl⟩ := ry
  exact rule i j t t' s _ _ ⟨.int (g i j), H, I.tok _, ⟨_, rfl⟩, q⟩
theorem opB0 {f : Value → Value → Sem Value} {g : Int → Int → Bool}
    (rule : ∀ (i j : Int) (t u : Tok) (s : Shared) (Q : Value → Shared → Prop) (E : Value → Shared → Prop), Q (.bool (g i j)) s → wpAny (model X.prog X.w) X.A (f (.int i t) (.int j u)) Q E s) :
    OpR X f (rI0 fun i j => .bl (g i j)) := by
  intro pins s σ H x y v u Q I rx ry h
  obtain ⟨i, j, rfl, rfl, q⟩ := h
  obtain ⟨t, rfl⟩ := rx
  obtain ⟨t', rfl⟩ := ry
  exact rule i j t t' s _ _ ⟨.bl (g i j), H, I, rfl, q⟩
def CDiv (i j : Int) : Prop := 0 < j ∧ j < 1073741824
def CPow (i j : Int) : Prop := 0 ≤ j ∧ j ≤ 1000000 ∧ i.natAbs < 2 ^ 64
def CMul (i j : Int) : Prop := (-(2 ^ 64) < i ∧ i < 2 ^ 64) ∨ (-(2 ^ 64) < j ∧ j < 2 ^ 64)
theorem CMul.ok {i j : Int} (h : CMul i j) : IntMulOk i j := by
  rcases h with ⟨h1, h2⟩ | ⟨h1, h2⟩
  · exact .of_left (intBits_le_64 h1 h2)
  · exact .of_right (intBits_le_64 h1 h2)
theorem op_add : OpR X (binaryOp .Add) (rI0 fun i j => .int (i + j)) := opI0 fun _ _ _ _ _ _ _ q => add_int q
theorem op_sub : OpR X (binaryOp .Sub) (rI0 fun i j => .int (i - j)) := opI0 fun _ _ _ _ _ _ _ q => sub_int q
theorem op_mul : OpR X (binaryOp .Mult) (rI CMul fun i j => .int (i * j)) := opI fun _ _ _ _ _ _ _ hc q => mul_int q hc.ok
theorem op_fdiv : OpR X (binaryOp .FloorDiv) (rI CDiv fun i j => .int (i / j)) := opI fun i j _ _ _ _ _ hc q => by
  have h1 : (0 : Int) < j := hc.1
  have h2 : j < 1073741824 := hc.2
  exact floordiv_int (by omega) (by rw [Int.fdiv_eq_ediv_of_nonneg i (by omega)]; exact q) (.inl (PyProof.noPylong_small (by omega)))
theorem op_mod : OpR X (binaryOp .Mod) (rI (fun _ j => 0 < j) fun i j => .int (i % j)) := opI fun i j _ _ _ _ _ hc q => by
  have h1 : (0 : Int) < j := hc
  exact mod_int' (by omega) (by rw [Int.fmod_eq_emod_of_nonneg i (by omega)]; exact q)
theorem op_pow : OpR X (binaryOp .Pow) (rI CPow fun i j => .int (i ^ j.toNat)) := opI fun _ _ _ _ _ _ _ hc q => pow_int_small hc.1 hc.2.1 hc.2.2 q
theorem unI {f : Value → Sem Value} {g : Int → Int}
    (rule : ∀ (i : Int) (t : Tok) (s : Shared) (Q : Value → Shared → Prop) (E : Value → Shared → Prop), Q (.int (g i) s.toks) { s with toks := s.toks + 1 } → wpAny (model X.prog X.w) X.A (f (.int i t)) Q E s) :
    UnR X f (rU fun i => .int (g i)) := by
  intro pins s σ H x v Q I rx h
  obtain ⟨i, rfl, q⟩ := h
  obtain ⟨t, rfl⟩ := rx
  exact rule i t s _ _ ⟨.int (g i), H, I.tok _, ⟨_, rfl⟩, q⟩
theorem un_neg : UnR X (unaryOp .USub) (rU fun i => .int (-i)) := unI fun _ _ _ _ _ q => neg_int q
end
def scal : V → V → Bool
  | .non, .non => true | .non, .int _ => true | .int _, .non => true | .non, .bl _ => true | .bl _, .non => true | .non, .str _ => true | .str _, .non => true
  | .int _, .int _ => true | .bl _, .bl _ => true | .str _, .str _ => true | .byt _, .byt _ => true
  | .int _, .str _ => true | .str _, .int _ => true | .bl _, .str _ => true | .str _, .bl _ => true
  | _, _ => false
def rEq : R2 := fun x y H Q => scal x y = true ∧ Q (.bl (decide (x = y))) H
def rNe : R2 := fun x y H Q => scal x y = true ∧ Q (.bl (!decide (x = y))) H
theorem dec_int {i j : Int} : decide (V.int i = V.int j) = (i == j) := by
  rw [Bool.eq_iff_iff]
  simp
theorem dec_bl {i j : Bool} : decide (V.bl i = V.bl j) = (i == j) := by
  rw [Bool.eq_iff_iff]
  simp
theorem dec_str {i j : Str} : decide (V.str i = V.str j) = (i == j) := by
  rw [Bool.eq_iff_iff]
  simp
theorem dec_byt {i j : Array UInt8} : decide (V.byt i = V.byt j) = (i.toList == j.toList) := by
  rw [Bool.eq_iff_iff]
  cases i
  cases j
  simp
section
variable {X : Cx} {a b c : Expr} {ta tb tc : TE} {pos : Pos}
theorem fin_bl {pins : List (Addr × Obj)} {σ : St} {H : Hp} {s : Shared} {Q : VK} {k k' : Bool} (I : Inv X pins σ H s) (q : Q (.bl k) H) (e : k = k') : EP X pins σ Q (.bool k') s := by
  subst e
  exact ⟨.bl k, H, I, rfl, q⟩
theorem op_eq : OpR X (compareOp .Eq) rEq := by
  intro pins s σ H x y v u Q I rx ry h
  obtain ⟨hs, q⟩ := h
  cases x with
  | non =>
    cases rx
    cases y with
    | non => cases ry; exact PySem.EqNone.eq_none_none (fin_bl I q (by simp))
    | bl j => cases ry; exact PySem.EqNone.eq_none_bool (fin_bl I q (by simp))
    | int j => obtain ⟨t', rfl⟩ := ry; exact PySem.EqNone.eq_none_int (fin_bl I q (by simp))
    | str j => obtain ⟨t', rfl⟩ := ry; exact PySem.EqNone.eq_none_str (fin_bl I q (by simp))
    | _ => exact absurd (show false = true from hs) Bool.false_ne_true
  | bl i =>
    cases rx
    cases y with
    | non => cases ry; exact PySem.EqNone.eq_bool_none (fin_bl I q (by simp))
    | bl j => cases ry; exact eq_bool (fin_bl I q dec_bl)
    | str j => obtain ⟨t', rfl⟩ := ry; exact PySem.EqMixed.eq_bool_str (fin_bl I q (by simp))
    | _ => exact absurd (show false = true from hs) Bool.false_ne_true
  | int i =>
    obtain ⟨t, rfl⟩ := rx
    cases y with
    | non => cases ry; exact PySem.EqNone.eq_int_none (fin_bl I q (by simp))
    | int j => obtain ⟨t', rfl⟩ := ry; exact eq_int (fin_bl I q dec_int)
    | str j => obtain ⟨t', rfl⟩ := ry; exact PySem.EqMixed.eq_int_str (fin_bl I q (by simp))
    | _ => exact absurd (show false = true from hs) Bool.false_ne_true
  | str i =>
    obtain ⟨t, rfl⟩ := rx
    cases y with
    | non => cases ry; exact PySem.EqNone.eq_str_none (fin_bl I q (by simp))
    | bl j => cases ry; exact PySem.EqMixed.eq_str_bool (fin_bl I q (by simp))
    | int j => obtain ⟨t', rfl⟩ := ry; exact PySem.EqMixed.eq_str_int (fin_bl I q (by simp))
    | str j => obtain ⟨t', rfl⟩ := ry; exact eq_str (fin_bl I q dec_str)
    | _ => exact absurd (show false = true from hs) Bool.false_ne_true
  | byt i =>
    obtain ⟨t, rfl⟩ := rx
    cases y with
    | byt j => obtain ⟨t', rfl⟩ := ry; exact PySem.W.eq_bytes (fin_bl I q dec_byt)
    | _ => exact absurd (show false = true from hs) Bool.false_ne_true
  | _ => cases y <;> exact absurd (show false = true from hs) Bool.false_ne_true
theorem op_ne : OpR X (compareOp .NotEq) rNe := by
  intro pins s σ H x y v u Q I rx ry h
  obtain ⟨hs, q⟩ := h
  cases x with
  | non =>
    cases rx
    cases y with
    | non => cases ry; exact PySem.EqNone.ne_none_none (fin_bl I q (by simp))
    | bl j => cases ry; exact PySem.EqNone.ne_none_bool (fin_bl I q (by simp))
    | int j => obtain ⟨t', rfl⟩ := ry; exact PySem.EqNone.ne_none_int (fin_bl I q (by simp))
    | str j => obtain ⟨t', rfl⟩ := ry; exact PySem.EqNone.ne_none_str (fin_bl I q (by simp))
    | _ => exact absurd (show false = true from hs) Bool.false_ne_true
  | bl i =>
    cases rx
    cases y with
    | non => cases ry; exact PySem.EqNone.ne_bool_none (fin_bl I q (by simp))
    | bl j => cases ry; exact ne_bool (fin_bl I q (congrArg not dec_bl))
    | str j => obtain ⟨t', rfl⟩ := ry; exact PySem.EqMixed.ne_bool_str (fin_bl I q (by simp))
    | _ => exact absurd (show false = true from hs) Bool.false_ne_true
  | int i =>
    obtain ⟨t, rfl⟩ := rx
    cases y with
    | non => cases ry; exact PySem.EqNone.ne_int_none (fin_bl I q (by simp))
    | int j => obtain ⟨t', rfl⟩ := ry; exact ne_int (fin_bl I q (congrArg not dec_int))
    | str j => obtain ⟨t', rfl⟩ := ry; exact PySem.EqMixed.ne_int_str (fin_bl I q (by simp))
    | _ => exact absurd (show false = true from hs) Bool.false_ne_true
  | str i =>
    obtain ⟨t, rfl⟩ := rx
    cases y with
    | non => cases ry; exact PySem.EqNone.ne_str_none (fin_bl I q (by simp))
    | bl j => cases ry; exact PySem.EqMixed.ne_str_bool (fin_bl I q (by simp))
    | int j => obtain ⟨t', rfl⟩ := ry; exact PySem.EqMixed.ne_str_int (fin_bl I q (by simp))
    | str j => obtain ⟨t', rfl⟩ := ry; exact ne_str (fin_bl I q (congrArg not dec_str))
    | _ => exact absurd (show false = true from hs) Bool.false_ne_true
  | byt i =>
    obtain ⟨t, rfl⟩ := rx
    cases y with
    | byt j => obtain ⟨t', rfl⟩ := ry; exact PySem.W.ne_bytes (fin_bl I q (congrArg not dec_byt))
    | _ => exact absurd (show false = true from hs) Bool.false_ne_true
  | _ => cases y <;> exact absurd (show false = true from hs) Bool.false_ne_true
theorem op_lt : OpR X (compareOp .Lt) (rI0 fun i j => .bl (decide (i < j))) := opB0 fun _ _ _ _ _ _ _ q => lt_int q
theorem op_le : OpR X (compareOp .LtE) (rI0 fun i j => .bl (decide (i ≤ j))) := opB0 fun _ _ _ _ _ _ _ q => le_int q
theorem op_gt : OpR X (compareOp .Gt) (rI0 fun i j => .bl (decide (j < i))) := opB0 fun _ _ _ _ _ _ _ q => gt_int q
theorem op_ge : OpR X (compareOp .GtE) (rI0 fun i j => .bl (decide (j ≤ i))) := opB0 fun _ _ _ _ _ _ _ q => ge_int q
theorem nomark (b : Expr) {op : CmpOp} (h : op ≠ .In := by decide) (h2 : op ≠ .NotIn := by decide) : behindInMarks op b = false := by
  have e1 : (op == CmpOp.In) = false := by cases op <;> first | rfl | exact absurd rfl h
  have e2 : (op == CmpOp.NotIn) = false := by cases op <;> first | rfl | exact absurd rfl h2
  cases b <;> simp [behindInMarks, e1, e2]
theorem pe_cmpR {op : CmpOp} {r : R2} (ho : OpR X (compareOp op) r) (ha : PE X a ta) (hb : PE X b tb) (hm : behindInMarks op b = false) : PE X (.Compare a [op] [b] pos) (tOp r ta tb) := by
  intro pins s σ H Q I h
  exact wpAny_Compare1 (binT ha hb I h fun v u s2 x y H2 I2 rx ry q => ho pins s2 σ H2 x y v u Q I2 rx ry q) hm
def tTest (t : TE) : TT := fun σ H Q => t σ H fun x H' => ∃ k, x = .bl k ∧ Q k H'
theorem pt_cmpR {op : CmpOp} {r : R2} (ho : OpR X (compareOp op) r) (ha : PE X a ta) (hb : PE X b tb) (hm : behindInMarks op b = false) : PT X (.Compare a [op] [b] pos) (tTest (tOp r ta tb)) := by
  intro pins s σ H Q I h
  refine wpAny_isTrue_Compare1 (thn (ha pins s σ H _ I h) fun v s1 ⟨x, H1, I1, r1, q1⟩ => thn (hb pins s1 σ H1 _ I1 q1) fun u s2 ⟨y, H2, I2, r2, q2⟩ =>
    thn (ho pins s2 σ H2 x y v u _ I2 r1 r2 q2) fun c s3 ⟨z, H3, I3, r3, k, e, q3⟩ => ?_) hm
  subst e
  cases r3
  exact wpAny_truthy_bool ⟨H3, I3, q3⟩
def tChain (r r' : R2) (ta tb tc : TE) : TE := fun σ H Q => ta σ H fun x H1 => tb σ H1 fun y H2 => r x y H2 fun z H3 => ∃ k, z = .bl k ∧
  (if k = true then tc σ H3 fun w' H4 => r' y w' H4 Q else Q (.bl false) H3)
theorem pe_chain {op op' : CmpOp} {r r' : R2} (ho : OpR X (compareOp op) r) (ho' : OpR X (compareOp op') r') (ha : PE X a ta) (hb : PE X b tb) (hc : PE X c tc)
    (hm : lastMarks [op, op'] [b, c] = false := by with_unfolding_all rfl) : PE X (.Compare a [op, op'] [b, c] pos) (tChain r r' ta tb tc) := by
  intro pins s σ H Q I h
  refine Compare_chain (thn (ha pins s σ H _ I h) fun v s1 ⟨x, H1, I1, r1, q1⟩ => chain_link (thn (hb pins s1 σ H1 _ I1 q1) fun u s2 ⟨y, H2, I2, r2, q2⟩ =>
    thn (ho pins s2 σ H2 x y v u _ I2 r1 r2 q2) fun d s3 ⟨z, H3, I3, r3, k, e, q3⟩ => ?_)) hm
  subst e
  cases r3
  refine wpAny_truthy_bool ?_
  cases k with
  | false => exact ite_ff ⟨.bl false, H3, I3, rfl, q3⟩
  | true => exact ite_tt (chain_last (thn (hc pins s3 σ H3 _ I3 q3) fun w' s4 ⟨z', H4, I4, r4, q4⟩ => ho' pins s4 σ H4 y z' u w' Q I4 r2 r4 q4))
def TruV (K : PySem.W.Frag) (x : V) (H : Hp) (k : Bool) : Prop :=
  match x with
  | .non => k = false
  | .bl b => k = b
  | .int i => k = (i != 0)
  | .str y => y.length ≤ sizeLine ∧ k = ((y.length : Int) != 0)
  | .byt y => y.size ≤ sizeLine ∧ k = ((y.size : Int) != 0)
  | .ref p => (∃ xs, SqL K H p xs ∧ k = !xs.isEmpty) ∨ (∃ xs, SqT K H p xs ∧ k = !xs.isEmpty) ∨ ∃ kvs, H p = some (.dK kvs) ∧ k = !kvs.isEmpty
  | _ => False
theorem isEmpty_kv {κ : Type} {kvs : List (κ × V)} {vs : List (κ × Value)} (r : KV kvs vs) : (!vs.isEmpty) = !kvs.isEmpty := by
  cases r <;> rfl
theorem isEmpty_of {xs : List V} {its : List Value} (r : Vals xs its) : (!its.toArray.isEmpty) = !xs.isEmpty := by
  cases r <;> simp
theorem line63 : (sizeLine : Nat) < 2 ^ 63 := by rw [sizeLine_eq]; decide
theorem tru_ok : TruR X (fun x H Q => ∃ k, TruV X.K x H k ∧ Q k H) := by
  intro pins s σ H x v Q I rx h
  obtain ⟨k, e, q⟩ := h
  have hl := line63
  have hs : sizeLine = 16777216 := sizeLine_eq
  cases x with
  | non =>
    cases rx
    have e' : k = false := e
    subst e'
    exact truthy_none ⟨H, I, q⟩
  | bl b =>
    cases rx
    have e' : k = b := e
    subst e'
    exact wpAny_truthy_bool ⟨H, I, q⟩
  | int i =>
    obtain ⟨t, rfl⟩ := rx
    have e' : k = (i != 0) := e
    subst e'
    exact PySem.P.truthy_int ⟨H, I, q⟩
  | str y =>
    obtain ⟨t, rfl⟩ := rx
    obtain ⟨hy, e'⟩ : y.length ≤ sizeLine ∧ k = ((y.length : Int) != 0) := e
    subst e'
    exact PySem.P.truthy_str (by omega) ⟨H, I.tok _, q⟩
  | byt y =>
    obtain ⟨t, rfl⟩ := rx
    obtain ⟨hy, e'⟩ : y.size ≤ sizeLine ∧ k = ((y.size : Int) != 0) := e
    subst e'
    exact PySem.W.truthy_bytes (by omega) ⟨H, I.tok _, q⟩
  | ref p =>
    cases rx
    have e' : (∃ xs, SqL X.K H p xs ∧ k = !xs.isEmpty) ∨ (∃ xs, SqT X.K H p xs ∧ k = !xs.isEmpty) ∨ ∃ kvs, H p = some (.dK kvs) ∧ k = !kvs.isEmpty := e
    rcases e' with ⟨xs, hx, e'⟩ | ⟨xs, hx, e'⟩ | ⟨kvs, hx, e'⟩
    · subst e'
      obtain ⟨its, r, pl, hz⟩ := I.list hx
      have hlen := r.length
      exact wpAny_truthy_list pl.isList (by simp only [List.size_toArray]; omega) ⟨H, I.tok _, by rw [isEmpty_of r]; exact q⟩
    · subst e'
      obtain ⟨its, r, pl, hz⟩ := I.tuple hx
      have hlen := r.length
      exact truthy_tuple pl (by simp only [List.size_toArray]; omega) ⟨H, I.tok _, by rw [isEmpty_of r]; exact q⟩
    · subst e'
      obtain ⟨hz, hS, vs, r, m⟩ : kvs.length ≤ sizeLine ∧ (p == sysModules) = false ∧ ∃ vs, KV kvs vs ∧ s.heap.DictOf (mixKind X.prog X.w) p vs := I.hok p _ hx
      have hlen : kvs.length = vs.length := Paired.length r
      exact wpAny_truthy_dict hS m (by omega) ⟨H, I.tok _, by rw [isEmpty_kv r]; exact q⟩
  | _ => exact (show False from e).elim
theorem pt_truth (ha : PE X a ta) (he : ∀ whole, isTrue a X.env whole = (do let v ← whole; standAt a.pos; holding [v] (truthy v))) :
    PT X a (fun σ H Q => ta σ H fun x H' => ∃ k, TruV X.K x H' k ∧ Q k H') := by
  intro pins s σ H Q I h
  exact isTrue_plain (thn (ha pins s σ H _ I h) fun v s1 ⟨x, H1, I1, r1, q1⟩ => tru_ok pins s1 σ H1 x v Q I1 r1 q1) (he _)
theorem vals1 {x : V} {us : List Value} (r : Vals [x] us) : ∃ u, us = [u] ∧ RelV x u := by
  cases r with
  | cons r1 r2 => cases r2; exact ⟨_, rfl, r1⟩
theorem vals2 {x y : V} {us : List Value} (r : Vals [x, y] us) : ∃ u w', us = [u, w'] ∧ RelV x u ∧ RelV y w' := by
  cases r with
  | cons r1 r2 =>
    cases r2 with
    | cons r3 r4 => cases r4; exact ⟨_, _, rfl, r1, r3⟩
theorem call_int1 : CallR X (.type "int") (fun xs H Q => (∃ i, xs = [.int i] ∧ Q (.int i) H) ∨ ∃ k, xs = [.bl k] ∧ Q (.int (if k then 1 else 0)) H) := by
  intro pins s σ H xs us Q I r h
  rcases h with ⟨i, rfl, q⟩ | ⟨k, rfl, q⟩
  · obtain ⟨u, rfl, t, rfl⟩ := vals1 r
    exact call_int_int ⟨.int i, H, I, ⟨_, rfl⟩, q⟩
  · obtain ⟨u, rfl, r1⟩ := vals1 r
    cases r1
    exact call_int_bool ⟨.int (if k then 1 else 0), H, I.tok _, ⟨_, rfl⟩, q⟩
end
end L2
namespace L2
open PySem PySem.Spec PyProof.Rows
structure ObjM (h : Heap) (x dx C : Addr) (mA : Str → Option Value) : Prop where
  obj : h.get? x = some (PySem.W.instObj C dx)
  ns : h.Ns1 dx mA
  ne : dx ≠ x
theorem lookIn_ns {h : Heap} {dx : Addr} {mA : Str → Option Value} (n : h.Ns1 dx mA) : ∃ od, h.get? dx = some od ∧ ∀ name, PySem.W.lookIn name od = some (mA name) := by
  obtain ⟨o, es, ep, ho, hd, hk, _, hm⟩ := n
  refine ⟨o, ho, fun name => ?_⟩
  have e := hm name
  unfold nsFind findBy at e
  rw [← Array.find?_toList] at e
  unfold PySem.W.lookIn
  rw [hd]
  dsimp only
  split
  · rename_i y q
    rw [q] at e
    exact congrArg some e
  · rename_i q
    rw [q] at e
    have a : es.toList.any (·.refKey) = false := by
      rw [List.any_eq_false]
      intro y hy
      obtain ⟨z, t, hkey⟩ := hk y (Array.mem_toList_iff.mp hy)
      simp [DictEntry.refKey, hkey]
    have a' : ¬ es.toList.any (·.refKey) = true := by rw [a]; exact Bool.false_ne_true
    rw [if_neg a']
    exact congrArg some e
theorem ObjM.look {h : Heap} {x dx C : Addr} {mA : Str → Option Value} (I : ObjM h x dx C mA) : ∃ od, PySem.W.InstAt h x (PySem.W.instObj C dx) C (some od) ∧ ∀ name, PySem.W.lookIn name od = some (mA name) :=
  let ⟨od, ho, hl⟩ := lookIn_ns I.ns
  ⟨od, ⟨I.obj, rfl, rfl, ho⟩, hl⟩
section
variable {prog : Program} {w : World} {A : Around} {E : Value → Shared → Prop} {s : Shared} {K : PySem.W.Frag} {x dx C f : Addr} {mA : Str → Option Value} {name : Str} {v : Value}
theorem get_map {expr : Bool} {Q : Value → Shared → Prop} (X : K.In s.heap) (I : ObjM s.heap x dx C mA) (hg : PySem.W.plainGet K C name = true) (hh : PySem.W.hasDictIn K C = true)
    (ha : PySem.W.findIn K (.ref C) name = some none) (hv : mA name = some v) (hv' : PySem.W.handedIn v = true) (h : Q v { s with toks := s.toks + 1 }) :
    wpAny (model prog w) A (getAttr (.ref x) name expr) Q E s := by
  obtain ⟨od, J, hl⟩ := I.look
  exact PySem.W.get_value X J (PySem.W.plainGet_of hg).1 (PySem.W.findObj_own hh ha rfl (by rw [hl, hv])) hv' h
theorem get_meth {pl : Sem Bool} {Q : Value × List Value → Shared → Prop} (X : K.In s.heap) (I : ObjM s.heap x dx C mA) (hg : PySem.W.plainGet K C name = true)
    (hf : PySem.W.findIn K (.ref C) name = some (some (.ref f))) (ht : PySem.W.isFn K (.ref f) = true) (hv : mA name = none) (h : Q (.ref f, [.ref x]) s) :
    wpAny (model prog w) A (getMethod (.ref x) name pl) Q E s := by
  obtain ⟨od, J, hl⟩ := I.look
  exact PySem.W.method_fn X J (PySem.W.plainGet_of hg).1 (PySem.W.plainGet_of hg).2 hf (beq_iff_eq.mp ht) (by show (PySem.W.lookIn name od).map (·.isSome) = some false; rw [hl, hv]; rfl) h
theorem set_map {ns : List Str} {Q : Unit → Shared → Prop} (X : K.In s.heap) (I : ObjM s.heap x dx C mA)
    (hs : PySem.W.findIn K (.ref C) "__setattr__" = some (some (.builtin "object.__setattr__"))) (hp : PySem.W.plainOver K C = true) (ht : PySem.W.takerIn K C name = some none) (hh : PySem.W.hasDictIn K C = true)
    (hw : PySem.Within mA ns) (hsz : ns.length ≤ sizeLine)
    (h : ∀ h', ObjM h' x dx C (fun y => if y = name then some v else mA y) → Heap.SameBut dx s.heap h' → Q () { s with heap := h', toks := s.toks + 2 }) :
    wpAny (model prog w) A (setAttr (.ref x) name v) Q E s := by
  obtain ⟨od, J, hl⟩ := I.look
  refine PySem.W.set_plain X J hs (PySem.W.osa_open (s := { s with toks := s.toks + 1 }) (r := none) X J hp ht fun b => ?_)
  obtain ⟨cd, hc, hd'⟩ := PySem.W.any_some hh
  have hx : s.heap.get? x = some ⟨.ref C, some dx, .plain, #[]⟩ := I.obj
  refine wpAny_bind (wpAny_pure (wpAny_bind (wpAny_bind (wpAny_loadPart hx (wpAny_bind (PySem.W.Looks.here (s := { s with toks := s.toks + 1 }) (PySem.W.looks_clsIn X hc) ?_))))))
  rw [hd']
  refine wpAny_pure (a := some dx) (wpAny_bind (wpAny_pure (wpAny_bind ?_)))
  refine wpAny_nsSet1 (s := { s with toks := s.toks + 1 }) I.ns fun h' hn2 hs2 => ?_
  obtain ⟨oD, esD, epD, hoD, hdD, hcD⟩ := hn2.count (PySem.Within.cons name v hw)
  refine wpAny_bind (wpAny_lookBehind hoD (by rw [hdD]; exact pastItsLine_dict (Nat.le_trans hcD (by rw [List.length_cons]; omega))) ?_)
  exact wpAny_pure (h _ ⟨(hs2.2 _ (Ne.symm I.ne)).trans I.obj, hn2, I.ne⟩ hs2)
theorem make_map {R : Result → Shared → Prop} {vs : List Value} {kw : List (Str × Value)} (X : K.In s.heap) (hm : PySem.W.makesIn K C = true)
    (hi : PySem.W.findIn K (.ref C) "__init__" = some (some (.ref f))) (hf : PySem.W.typeIn K (.ref f) = some (.type "function"))
    (h : codeAny (model prog w) (A.under (.builtin "type.__call__" ⟨.ref C :: vs, kw⟩)) (.call (.ref f) ⟨.ref (s.heap.objs.size + 1) :: vs, kw⟩) (PySem.W.InitBack (s.heap.objs.size + 1) R)
      { s with heap := (s.heap.push PySem.W.emptyDict).push (PySem.W.instObj C s.heap.objs.size) }) :
    codeAny (model prog w) A (.call (.ref C) ⟨vs, kw⟩) R s := by
  obtain ⟨hh, g, d, t, os⟩ := s
  exact PySem.W.make_core (PySem.W.makes_of X hm) (PySem.W.looks_findIn X hi) (fun self => PySem.W.bind_fn X self hf) (.inl rfl) h
end
def putF (f : Str) (v : V) : List (Str × V) → List (Str × V)
  | [] => [(f, v)]
  | (g, x) :: r => if g = f then (g, v) :: r else (g, x) :: putF f v r
theorem lookup_putF (f g : Str) (v : V) : ∀ fs : List (Str × V), (putF f v fs).lookup g = if g = f then some v else fs.lookup g
  | [] => by
    show List.lookup g [(f, v)] = _
    by_cases h : g = f
    · have hb : (g == f) = true := beq_iff_eq.mpr h
      simp only [List.lookup, hb, if_pos h]
    · have hb : (g == f) = false := beq_eq_false_iff_ne.mpr h
      simp only [List.lookup, hb, if_neg h]
  | (k, x) :: r => by
    have ih := lookup_putF f g v r
    rw [show putF f v ((k, x) :: r) = (if k = f then (k, v) :: r else (k, x) :: putF f v r) from rfl]
    by_cases hk : k = f
    · rw [if_pos hk]
      by_cases h : g = k
      · have hb : (g == k) = true := beq_iff_eq.mpr h
        simp only [List.lookup, hb, if_pos (h.trans hk)]
      · have hb : (g == k) = false := beq_eq_false_iff_ne.mpr h
        simp only [List.lookup, hb, if_neg (fun e : g = f => h (e.trans hk.symm))]
    · rw [if_neg hk]
      by_cases h : g = k
      · have hb : (g == k) = true := beq_iff_eq.mpr h
        simp only [List.lookup, hb, if_neg (fun e : g = f => hk (h.symm.trans e))]
      · have hb : (g == k) = false := beq_eq_false_iff_ne.mpr h
        simp only [List.lookup, hb]
        exact ih
theorem keys_putF (f : Str) (v : V) : ∀ fs : List (Str × V), f ∈ (putF f v fs).map (·.1) ∧ ∀ g, g ∈ fs.map (·.1) → g ∈ (putF f v fs).map (·.1)
  | [] => ⟨by simp [putF], fun g h => by simp at h⟩
  | (k, x) :: r => by
    obtain ⟨i1, i2⟩ := keys_putF f v r
    rw [show putF f v ((k, x) :: r) = (if k = f then (k, v) :: r else (k, x) :: putF f v r) from rfl]
    by_cases hk : k = f
    · rw [if_pos hk]
      subst hk
      exact ⟨by simp, fun g h => by simpa using h⟩
    · rw [if_neg hk]
      refine ⟨?_, fun g h => ?_⟩
      · rw [List.map_cons]
        exact List.mem_cons_of_mem _ i1
      · rw [List.map_cons] at h ⊢
        rcases List.mem_cons.mp h with e | e
        · exact List.mem_cons.mpr (.inl e)
        · exact List.mem_cons_of_mem _ (i2 g e)
theorem length_putF (f : Str) (v : V) : ∀ fs : List (Str × V), (putF f v fs).length ≤ fs.length + 1
  | [] => by simp [putF]
  | (k, x) :: r => by
    have ih := length_putF f v r
    rw [show putF f v ((k, x) :: r) = (if k = f then (k, v) :: r else (k, x) :: putF f v r) from rfl]
    by_cases hk : k = f
    · rw [if_pos hk, List.length_cons, List.length_cons]; omega
    · rw [if_neg hk, List.length_cons, List.length_cons]; omega
theorem RelO.some_of {v : V} {o : Option Value} (r : RelO (some v) o) : ∃ u, o = some u ∧ RelV v u := by
  cases o with
  | none => exact (show False from r).elim
  | some u => exact ⟨u, rfl, r⟩
theorem RelO.none_of {o : Option Value} (r : RelO none o) : o = none := by
  cases o with
  | none => rfl
  | some u => exact (show False from r).elim
theorem handed_of {v : V} {u : Value} (r : RelV v u) : PySem.W.handedIn u = true := by
  cases v with
  | non => cases (show u = Value.none from r); rfl
  | bl b => cases (show u = Value.bool b from r); rfl
  | int i => obtain ⟨t, e⟩ := (show ∃ t, u = Value.int i t from r); cases e; rfl
  | str x => obtain ⟨t, e⟩ := (show ∃ t, u = Value.str x t from r); cases e; rfl
  | byt b => obtain ⟨t, e⟩ := (show ∃ t, u = Value.bytes b t from r); cases e; rfl
  | flt b => obtain ⟨t, e⟩ := (show ∃ t, u = Value.float b t from r); cases e; rfl
  | ref a => cases (show u = Value.ref a from r); rfl
  | ty n => cases (show u = Value.type n from r); rfl
section
variable {P : Program} {w : World} {H H' : Hp} {h h' : Heap} {a C dx : Addr} {fs fs' : List (Str × V)}
theorem ins_get (hok : HOk P w H h) (e : H a = some (.ins C dx fs)) : ∃ mA, ObjM h a dx C mA ∧ (∀ f, RelO (fs.lookup f) (mA f)) ∧ PySem.Within mA (fs.map (·.1)) ∧ fs.length ≤ 1000 ∧ H dx = some (.own a) := by
  obtain ⟨d, z, ne, ob, mA, n, r, q⟩ := (show ObjOk P w H h a (.ins C dx fs) from hok a _ e)
  exact ⟨mA, ⟨ob, n, ne⟩, r, q, z, d⟩
end
structure Cls (K : PySem.W.Frag) (C : Addr) : Prop where
  pg : PySem.W.plainGet K C Str.empty = true
  hd : PySem.W.hasDictIn K C = true
  po : PySem.W.plainOver K C = true
  sa : PySem.W.findIn K (.ref C) "__setattr__" = some (some (.builtin "object.__setattr__"))
theorem Cls.get {K : PySem.W.Frag} {C : Addr} (c : Cls K C) (f : Str) : PySem.W.plainGet K C f = true := c.pg
def NoAttr (K : PySem.W.Frag) (C : Addr) (f : Str) : Prop := PySem.W.findIn K (.ref C) f = some none
theorem NoAttr.taker {K : PySem.W.Frag} {C : Addr} {f : Str} (n : NoAttr K C f) : PySem.W.takerIn K C f = some none := by
  unfold PySem.W.takerIn
  rw [show PySem.W.findIn K (.ref C) f = some none from n]
  rfl
structure Con (K : PySem.W.Frag) (C : Addr) (f : Str) (v : V) (u : Value) : Prop where
  at_ : PySem.W.findIn K (.ref C) f = some (some u)
  rel : RelV v u
  get : PySem.W.specialIn K u "__get__" = some none
  cp : PySem.W.copiedNames.contains f = false
structure Meth (K : PySem.W.Frag) (C : Addr) (m : Str) (f : Addr) : Prop where
  at_ : PySem.W.findIn K (.ref C) m = some (some (.ref f))
  fn : PySem.W.isFn K (.ref f) = true
  kp : PySem.W.keepIn K (.ref f) = true
section
variable {X : Cx} {pins : List (Addr × Obj)} {σ : St} {H : Hp} {s : Shared} {a C dx : Addr} {fs : List (Str × V)} {f : Str} {v : V} {A : Around} {E : Value → Shared → Prop}
theorem getattr_ok {b : Bool} {Q : Value → Shared → Prop} (I : Inv X pins σ H s) (e : H a = some (.ins C dx fs)) (c : Cls X.K C) (n : NoAttr X.K C f) (l : fs.lookup f = some v)
    (h : ∀ u s', Inv X pins σ H s' → RelV v u → Q u s') : wpAny (model X.prog X.w) A (getAttr (.ref a) f b) Q E s := by
  obtain ⟨mA, O, r, _, _, _⟩ := ins_get I.hok e
  obtain ⟨u, hu, ru⟩ := RelO.some_of (v := v) (o := mA f) (by rw [← l]; exact r f)
  exact get_map I.kIn O (c.get f) c.hd n hu (handed_of ru) (h u _ (I.tok _) ru)
theorem getmeth_ok {m : Str} {g : Addr} {pl : Sem Bool} {Q : Value × List Value → Shared → Prop} (I : Inv X pins σ H s) (e : H a = some (.ins C dx fs)) (c : Cls X.K C) (k : Meth X.K C m g) (l : fs.lookup m = none)
    (h : Q (.ref g, [.ref a]) s) : wpAny (model X.prog X.w) A (getMethod (.ref a) m pl) Q E s := by
  obtain ⟨mA, O, r, _, _, _⟩ := ins_get I.hok e
  have hn : mA m = none := RelO.none_of (by rw [← l]; exact r m)
  exact get_meth I.kIn O (c.get m) k.at_ k.fn hn h
theorem setattr_ok {y : V} {u : Value} {Q : Unit → Shared → Prop} (I : Inv X pins σ H s) (e : H a = some (.ins C dx fs)) (c : Cls X.K C) (n : NoAttr X.K C f) (hl : fs.length < 1000) (ry : RelV y u)
    (h : ∀ s', Inv X pins σ (upd H a (.ins C dx (putF f y fs))) s' → Q () s') : wpAny (model X.prog X.w) A (setAttr (.ref a) f u) Q E s := by
  obtain ⟨mA, O, r, wi, _, ho⟩ := ins_get I.hok e
  have hz : (fs.map (·.1)).length ≤ sizeLine := by rw [List.length_map, sizeLine_eq]; omega
  refine set_map I.kIn O c.sa c.po n.taker c.hd wi hz fun h' O' sb => h _ ?_
  have hd : ∃ o, h'.get? dx = some o := let ⟨o, _, _, e', _⟩ := O'.ns; ⟨o, e'⟩
  refine I.write (x := a) (e := dx) (by rw [e]; exact True.intro) (.inr ho) (fun b q hb z => (sb.2 b hb).trans z) hd ?_
  refine ⟨by rw [upd_ne O.ne]; exact ho, ?_, O.ne, O'.obj, _, O'.ns, fun g => ?_, fun g hg => ?_⟩
  · have := length_putF f y fs; omega
  · show RelO ((putF f y fs).lookup g) (if g = f then some u else mA g)
    rw [lookup_putF]
    by_cases q : g = f
    · rw [if_pos q, if_pos q]; exact ry
    · rw [if_neg q, if_neg q]; exact r g
  · by_cases q : g = f
    · rw [q]; exact (keys_putF f y fs).1
    · refine (keys_putF f y fs).2 g (wi g fun z => hg ?_)
      show (if g = f then some u else mA g) = none
      rw [if_neg q]; exact z
theorem Inv.made (I : Inv X pins σ H s) : Inv X pins σ (upd (upd H s.heap.objs.size (.own (s.heap.objs.size + 1))) (s.heap.objs.size + 1) (.ins C s.heap.objs.size []))
    { s with heap := (s.heap.push PySem.W.emptyDict).push (PySem.W.instObj C s.heap.objs.size) } := by
  have e1 : (s.heap.push PySem.W.emptyDict).get? s.heap.objs.size = some PySem.W.emptyDict := Heap.get?_push_size s.heap rfl
  have e2 : ((s.heap.push PySem.W.emptyDict).push (PySem.W.instObj C s.heap.objs.size)).get? (s.heap.objs.size + 1) = some (PySem.W.instObj C s.heap.objs.size) := by
    have := Heap.get?_push_size (s.heap.push PySem.W.emptyDict) (o := PySem.W.instObj C s.heap.objs.size) rfl
    rwa [Heap.size_push] at this
  have e3 : (s.heap.push PySem.W.emptyDict).Ns s.heap.objs.size (fun _ => none) := ⟨PySem.W.emptyDict, #[], _, e1, rfl, (fun e he => absurd he (by simp)), fun _ => rfl⟩
  have I1 := I.laid (a := s.heap.objs.size) (o := .own (s.heap.objs.size + 1)) (h' := s.heap.push PySem.W.emptyDict) (t' := s.toks) (fun b u q => Heap.get?_push_of_some _ q) (Nat.le_refl _) ⟨_, e1⟩
  refine I1.laid (a := s.heap.objs.size + 1) (o := .ins C s.heap.objs.size []) (t' := s.toks) (fun b u q => Heap.get?_push_of_some _ q) (Nat.le_of_eq (Heap.size_push _ _)) ?_
  have ne : s.heap.objs.size ≠ s.heap.objs.size + 1 := Nat.ne_of_lt (Nat.lt_succ_self _)
  refine ⟨by rw [upd_ne ne, upd_same], Nat.zero_le _, ne, e2, fun _ => none, (Heap.Ns1.of_empty e3).at fun o q => Heap.get?_push_of_some _ q, fun _ => True.intro, fun y hy => absurd rfl hy⟩
theorem attr_of {prog : Program} {w : World} {env : Env} {e : Expr} {f : Str} {pos : Pos} {s : Shared} {Q : Value → Shared → Prop} (hb : attributeBase e f env (eval e env) = eval e env)
    (h : wpAny (model prog w) A (eval e env) (fun o s₁ => wpAny (model prog w) A (getAttr o f true) Q E s₁) E s) : wpAny (model prog w) A (eval (.Attribute e f pos) env) Q E s :=
  Attribute_any_ h (by rw [arm_eval_Attribute, hb])
end
def tFld (K : PySem.W.Frag) (ta : TE) (f : Str) : TE := fun σ H Q => ta σ H fun x H1 => ∃ a C dx fs v, x = .ref a ∧ H1 a = some (.ins C dx fs) ∧ Cls K C ∧ NoAttr K C f ∧ fs.lookup f = some v ∧ Q v H1
def sFld (K : PySem.W.Frag) (ta tv : TE) (f : Str) : TS := fun D σ H => tv σ H fun y H1 => ta σ H1 fun x H2 => ∃ a C dx fs, x = .ref a ∧ H2 a = some (.ins C dx fs) ∧ Cls K C ∧ NoAttr K C f ∧ fs.length < 1000 ∧
  D.nx σ (upd H2 a (.ins C dx (putF f y fs)))
section
variable {X : Cx} {o e value : Expr} {f : Str} {pos pos' tpos : Pos} {ta tv : TE}
theorem pe_fld (he : PE X e ta) (hb : attributeBase e f X.env (eval e X.env) = eval e X.env) : PE X (.Attribute e f pos) (tFld X.K ta f) := by
  intro pins s σ H Q I h
  refine attr_of hb (thn (he pins s σ H _ I h) fun u s1 ⟨x, H1, I1, rx, a, C, dx, fs, v, ex, ea, c, n, l, q⟩ => ?_)
  subst ex
  obtain rfl : u = Value.ref a := rx
  exact getattr_ok I1 ea c n l fun u' s2 I2 ru => ⟨v, H1, I2, ru, q⟩
theorem ps_fld (ha : PE X o ta) (hv : PE X value tv) (hs : swapsWith value (some (.Attribute o f pos')) pos.line X.env = pure false) : PS X (.Assign [.Attribute o f pos'] value pos) (sFld X.K ta tv f) := by
  intro pins s σ H D I h
  refine plainObj_wpAny_Assign_Attribute (thn (hv pins s σ H _ I h) fun u s1 ⟨y, H1, I1, ry, q⟩ => thn (ha pins s1 σ H1 _ I1 q) fun ov s2 ⟨x, H2, I2, rx, a, C, dx, fs, ex, ea, c, n, l, q2⟩ => ?_) hs
  subst ex
  obtain rfl : ov = Value.ref a := rx
  exact setattr_ok I2 ea c n l ry fun s3 I3 => ⟨σ, _, I3, q2⟩
end
section
variable {X : Cx} {pins : List (Addr × Obj)} {σ : St} {H : Hp} {s : Shared} {A : Around} {E : Value → Shared → Prop} {Q : Value → Shared → Prop} {c : Value} {b : Bool}
inductive TyOf (K : PySem.W.Frag) (H : Hp) : V → Value → Prop where
  | non : TyOf K H .non (.type "NoneType")
  | bl (x : Bool) : TyOf K H (.bl x) (.type "bool")
  | int (i : Int) : TyOf K H (.int i) (.type "int")
  | str (x : Str) : TyOf K H (.str x) (.type "str")
  | flt (x : UInt64) : TyOf K H (.flt x) (.type "float")
  | lst {a : Addr} {xs : List V} (e : H a = some (.lst xs)) : TyOf K H (.ref a) (.type "list")
  | frz {a : Addr} {o : Obj} {xs : List V} (e : H a = some (.frz o (.lst xs))) : TyOf K H (.ref a) (.type "list")
  | tup {a : Addr} {xs : List V} (e : H a = some (.tup xs)) : TyOf K H (.ref a) (.type "tuple")
  | dK {a : Addr} {kvs : List (Key × V)} (e : H a = some (.dK kvs)) : TyOf K H (.ref a) (.type "dict")
  | dT {a : Addr} {kvs : List (List Key × V)} (e : H a = some (.dT kvs)) : TyOf K H (.ref a) (.type "dict")
  | ins {a C dx : Addr} {fs : List (Str × V)} (e : H a = some (.ins C dx fs)) (cl : Cls K C) (ha : PySem.W.findIn K (.ref C) "__class__" = some (some (.builtin "object.__class__")))
      (hn : PySem.W.specialIn K (.builtin "object.__class__") "__get__" = some (some (.builtin "getset_descriptor.__get__"))) (htk : PySem.W.takesIn K (.builtin "object.__class__") = some true)
      (hm : PySem.W.mroIn K C (.type "object") = some true) : TyOf K H (.ref a) (.ref C)
end
end L2
namespace L2
open PySem PySem.Spec PyProof.Rows
structure Room (k : Nat) (A : Around) : Prop where
  hd : A.handled = none
  dp : A.depth + 3 * k + 5 < recursionLimit
  un : A.units + 16 * k + 200 < cLine
theorem Room.mono {j k : Nat} {A : Around} (r : Room k A) (h : j ≤ k) : Room j A := ⟨r.hd, by have := r.dp; omega, by have := r.un; omega⟩
theorem Room.deeper {k : Nat} {A : Around} (r : Room (k + 1) A) (env : Env) : Room k (A.deeper env) :=
  ⟨r.hd, by have := r.dp; show A.depth + 1 + 3 * k + 5 < _; omega, by have := r.un; show A.units + 3 + 16 * k + 200 < _; omega⟩
theorem make_depth {A : Around} {C : Addr} {us : List Value} {kw : List (Str × Value)} : (A.under (.builtin "type.__call__" ⟨.ref C :: us, kw⟩)).depth = A.depth + 1 := by
  first | rfl | simp [Around.under, Code.weight, Code.isCreation, Code.isGuard, Code.isCaller, Code.frames, Code.isFrame, guardIds]
theorem make_units {A : Around} {C : Addr} {us : List Value} {kw : List (Str × Value)} : (A.under (.builtin "type.__call__" ⟨.ref C :: us, kw⟩)).units = A.units + 1 := by
  first | rfl | simp [Around.under, Code.cUnits, Code.frames, Code.isFrame]
theorem Room.make {k : Nat} {A : Around} (r : Room (k + 1) A) (C : Addr) (us : List Value) (kw : List (Str × Value)) : Room k (A.under (.builtin "type.__call__" ⟨.ref C :: us, kw⟩)) :=
  ⟨r.hd, by have := r.dp; rw [make_depth]; omega, by have := r.un; rw [make_units]; omega⟩
theorem Room.depth {k : Nat} {A : Around} (r : Room k A) : A.depth < recursionLimit := by have := r.dp; omega
theorem Room.units {k : Nat} {A : Around} (r : Room k A) : A.units + 64 < cLine := by have := r.un; omega
def tNil : TA := fun _ H Q => Q [] H
def tCons (ta : TE) (tr : TA) : TA := fun σ H Q => ta σ H fun x H1 => tr σ H1 fun xs H2 => Q (x :: xs) H2
section
variable {X : Cx} {e : Expr} {es : List Expr} {te : TE} {t : TA} {pos : Pos}
theorem pa_nil : PA X [] tNil := fun _ _ _ _ H Q I h => Calls.spliced_nil ⟨[], H, I, .nil, h⟩
theorem pa_cons (ha : PE X e te) (hr : PA X es t) (hs : starEach (e :: es) X.env = (false, eval e X.env) :: starEach es X.env := by rfl) : PA X (e :: es) (tCons te t) := by
  intro pos pins s σ H Q I h
  rw [hs]
  show wpAny _ _ (spliced ((false, eval e X.env) :: backTo pos (starEach es X.env))) _ _ s
  refine Calls.spliced_cons (thn (ha pins s σ H _ I h) fun u s1 ⟨x, H1, I1, r1, q1⟩ => ?_)
  exact thn (hr pos pins s1 σ H1 _ I1 q1) fun us s2 ⟨xs, H2, I2, r2, q2⟩ => ⟨x :: xs, H2, I2, .cons r1 r2, q2⟩
def tTup (t : TA) : TE := fun σ H Q => t σ H fun xs H1 => xs.length ≤ sizeLine ∧ ∀ p, H1 p = none → Q (.ref p) (upd H1 p (.tup xs))
def tLst (t : TA) : TE := fun σ H Q => t σ H fun xs H1 => xs.length ≤ sizeLine ∧ ∀ p, H1 p = none → Q (.ref p) (upd H1 p (.lst xs))
theorem pe_tup {x1} (h : PA X es t) : PE X (.Tuple es x1 pos) (tTup t) := by
  intro pins s σ H Q I hq
  refine wpAny_Tuple_spliced (thn (h pos pins s σ H _ I hq) fun us s1 ⟨xs, H1, I1, r, z, q⟩ => ⟨by rw [← r.length]; exact z, ?_⟩)
  have hf : H1 s1.heap.objs.size = none := I1.hok.fresh (Nat.le_refl _)
  refine ⟨.ref s1.heap.objs.size, upd H1 s1.heap.objs.size (.tup xs), I1.laid (t' := s1.toks) (fun b u e => Heap.get?_push_of_some _ e) (Nat.le_refl _) ?_, rfl, q _ hf⟩
  exact ⟨z, us, r, ⟨_, Heap.get?_push_size _ rfl, rfl, _, rfl⟩⟩
theorem pe_lst (h : PA X es t) : PE X (.List es pos) (tLst t) := by
  intro pins s σ H Q I hq
  refine wpAny_List_spliced (thn (h pos pins s σ H _ I hq) fun us s1 ⟨xs, H1, I1, r, z, q⟩ => ⟨by rw [← r.length]; exact z, ?_⟩)
  have hf : H1 s1.heap.objs.size = none := I1.hok.fresh (Nat.le_refl _)
  refine ⟨.ref s1.heap.objs.size, upd H1 s1.heap.objs.size (.lst xs), I1.laid (t' := s1.toks) (fun b u e => Heap.get?_push_of_some _ e) (Nat.le_refl _) ?_, rfl, q _ hf⟩
  exact ⟨z, us, 0, r, Heap.get?_push_size _ rfl⟩
end
abbrev Sp := List V → Hp → VK → XK → Prop
abbrev CXT := List Env → Hp → Shared → XK → Value → Shared → Prop
structure Env0 (P : Program) (w : World) (K : PySem.W.Frag) (mg : Str → Option Value) (base : Heap) (A : Around) (outer : List Env) (s : Shared) (H : Hp) : Prop where
  frames : A.frames = some outer
  mod : Mod K mg base
  bs : ∀ b o, base.get? b = some o → s.heap.get? b = some o ∧ H b = none
  bsz : base.objs.size ≤ s.heap.objs.size
  funs : s.heap.FunFrames base outer
  frf : ∀ b ∈ frs outer, H b = none
  hok : HOk P w H s.heap
  bare : AllBare s.gens
def CE (outer : List Env) (P : Program) (w : World) (H : Hp) (s : Shared) (Q : VK) (u : Value) (s' : Shared) : Prop :=
  ∃ v H', s'.os = s.os ∧ AllBare s'.gens ∧ Un (frs outer) [] H H' s.heap s'.heap ∧ HOk P w H' s'.heap ∧ RelV v u ∧ Q v H'
def CR (CX : CXT) (outer : List Env) (P : Program) (w : World) (H : Hp) (s : Shared) (Q : VK) (E : XK) (r : Result) (s' : Shared) : Prop :=
  match r with
  | .ok (.ret u) => CE outer P w H s Q u s'
  | .ok _ => False
  | .error e => CX outer H s E e s'
structure FnOk (P : Program) (w : World) (K : PySem.W.Frag) (mg : Str → Option Value) (base : Heap) (CX : CXT) (k : Nat) (f : Addr) (fd : FuncData) (ps : List Str) (sp : Sp) : Prop where
  len : ∀ vs H Q E, sp vs H Q E → vs.length = ps.length
  run : ∀ (A : Around) (outer : List Env) (s : Shared) (H : Hp) (args : Args) (us : List Value) (vs : List V) (Q : VK) (E : XK), Room k A → Env0 P w K mg base A outer s H → BindsTo s fd args (ps.zip us) → Vals vs us → sp vs H Q E →
    codeAny (model P w) A (.call (.ref f) args) (CR CX outer P w H s Q E) s
theorem Env0.make {P : Program} {w : World} {K : PySem.W.Frag} {mg : Str → Option Value} {base : Heap} {A : Around} {outer : List Env} {s : Shared} {H : Hp} (e : Env0 P w K mg base A outer s H) (C : Addr) (us : List Value) (kw : List (Str × Value)) :
    Env0 P w K mg base (A.under (.builtin "type.__call__" ⟨.ref C :: us, kw⟩)) outer s H := ⟨by first | exact e.frames | (simpa [Around.under, Code.envs, Code.isFrame, pushEnvs] using e.frames), e.mod, e.bs, e.bsz, e.funs, e.frf, e.hok, e.bare⟩
section
variable {X : Cx} {pins : List (Addr × Obj)} {σ : St} {H : Hp} {s s' : Shared}
theorem Inv.env0 (I : Inv X pins σ H s) : Env0 X.prog X.w X.K X.mg X.base X.A X.stack s H :=
  ⟨I.ok.frames, I.ok.mod, I.bs, Nat.le_trans I.ok.bsz I.sz, I.stack, I.stkFree, I.hok, I.bare⟩
theorem Inv.after {Q : VK} {u : Value} (I : Inv X pins σ H s) (h : CE X.stack X.prog X.w H s Q u s') : EP X pins σ Q u s' := by
  obtain ⟨v, H', os, bare, un, hok, r, q⟩ := h
  obtain ⟨hh, g, d, t, os'⟩ := s'
  obtain rfl : os' = s.os := os
  exact ⟨v, H', I.call (h' := hh) (g' := g) (d' := d) (t' := t) (ch := []) un hok bare (fun b z => absurd z (by simp)), r, q⟩
end
def tCall (sp : Sp) (dvs : List V) (E : XK) (t : TA) : TE := fun σ H Q => t σ H fun vs H1 => sp (vs ++ dvs) H1 Q E
def tMeth (C : Addr) (m : Str) (sp : Sp) (dvs : List V) (E : XK) (ta : TE) (t : TA) : TE := fun σ H Q => ta σ H fun x H1 => ∃ a dx fs, x = .ref a ∧ H1 a = some (.ins C dx fs) ∧ fs.lookup m = none ∧
  t σ H1 fun vs H2 => sp (x :: (vs ++ dvs)) H2 Q E
def tMake (C : Addr) (sp : Sp) (dvs : List V) (E : XK) (t : TA) : TE := fun σ H Q => t σ H fun vs H1 => ∀ x dx, H1 x = none → H1 dx = none → dx ≠ x →
  sp (.ref x :: (vs ++ dvs)) (upd (upd H1 dx (.own x)) x (.ins C dx [])) (fun v H2 => v = .non ∧ Q (.ref x) H2) E
def Binds (K : PySem.W.Frag) (fd : FuncData) (ps : List Str) (ds : List Value) : Prop :=
  ∀ (s : Shared) (us : List Value), K.In s.heap → (us ++ ds).length = ps.length → BindsTo s fd ⟨us, []⟩ (ps.zip (us ++ ds))
theorem Binds.all {K : PySem.W.Frag} {fd : FuncData} {ps : List Str} (h : ∀ us : List Value, us.length = ps.length → bindArgs fd ⟨us, []⟩ = pure (ps.zip us)) : Binds K fd ps [] := fun s us _ hl => by
  rw [List.append_nil] at hl ⊢
  exact .of_eq (h us hl)
def Passes (CX : CXT) (X : Cx) (E : XK) : Prop := ∀ (pins : List (Addr × Obj)) (σ : St) (H : Hp) (s : Shared) (e : Value) (s' : Shared), Inv X pins σ H s → CX X.stack H s E e s' → X.xe e s'
section
variable {X : Cx} {CX : CXT} {k : Nat} {f C : Addr} {fd : FuncData} {ps : List Str} {sp : Sp} {dvs : List V} {ds : List Value} {E : XK} {x m : Str} {p pos apos : Pos} {e o : Expr} {es : List Expr} {ta : TE} {t : TA}
theorem run_fn {pins : List (Addr × Obj)} {σ : St} {H : Hp} {s : Shared} {Q : VK} {us : List Value} {vs : List V} (F : FnOk X.prog X.w X.K X.mg X.base CX k f fd ps sp) (hr : Room k X.A) (hb : Binds X.K fd ps ds) (hd : Vals dvs ds) (hx : Passes CX X E)
    (I : Inv X pins σ H s) (r : Vals vs us) (h : sp (vs ++ dvs) H Q E) : wpAny (model X.prog X.w) X.A (call (.ref f) us) (EP X pins σ Q) X.xe s := by
  have r2 : Vals (vs ++ dvs) (us ++ ds) := r.append hd
  have hl : (us ++ ds).length = ps.length := by rw [← r2.length]; exact F.len _ _ _ _ h
  refine wpAny_call (codeAny_mono (F.run X.A X.stack s H ⟨us, []⟩ (us ++ ds) (vs ++ dvs) Q E hr I.env0 (hb s us I.kIn hl) r2 h) fun r s' hq => ?_)
  cases r with
  | error e => exact hx pins σ H s e s' I hq
  | ok fl =>
    cases fl with
    | ret u => exact I.after hq
    | next => exact False.elim hq
    | brk => exact False.elim hq
    | cont => exact False.elim hq
theorem pe_call (F : FnOk X.prog X.w X.K X.mg X.base CX k f fd ps sp) (hr : Room k X.A) (hg : Gl X x) (hm : X.mg x = some (.ref f)) (hk : PySem.W.keepIn X.K (.ref f) = true) (hb : Binds X.K fd ps ds) (hd : Vals dvs ds) (hx : Passes CX X E)
    (ha : PA X (e :: es) t) (hdb : (x == ("__debug__" : Str)) = false := by decide) (he : starEach (e :: es) X.env = (false, eval e X.env) :: starEach es X.env := by rfl) (hpl : (backTo pos (starEach es X.env)).any (·.1) = false := by rfl) :
    PE X (.Call (.Name x p) (e :: es) [] pos) (tCall sp dvs E t) := by
  intro pins s σ H Q I h
  refine wpAny_Call_Name_kw (ld_glob I hg hm ?_ hdb)
  refine PySem.W.callWith_K (h₀ := X.base) I.ok.mod.kin hk (thn (ha pos pins s σ H _ I h) fun us s1 ⟨vs, H1, I1, r, q⟩ => ⟨I1.kIn, ?_⟩) he hpl
  exact run_fn F hr hb hd hx I1 r q
theorem pe_meth0 {pl : Sem Bool} (he : PE X o ta) (c : Cls X.K C) (hm : Meth X.K C m f) (F : FnOk X.prog X.w X.K X.mg X.base CX k f fd ps sp) (hr : Room k X.A) (hb : Binds X.K fd ps ds) (hd : Vals dvs ds) (hx : Passes CX X E)
    (ht : eval (.Call (.Attribute o m apos) [] [] pos) X.env = (do
      let ov ← eval o X.env
      standAt apos.atName
      let (f, first) ← holding [ov] (getMethod ov m pl)
      callWith pos f first (backTo pos (starEach [] X.env)) (backToKw pos (keywordEach [] X.env))) := by rfl) :
    PE X (.Call (.Attribute o m apos) [] [] pos) (tMeth C m sp dvs E ta tNil) := by
  intro pins s σ H Q I h
  refine PySem.W.methodCall_KW (pl := pl) (thn (he pins s σ H _ I h) fun u s1 ⟨x, H1, I1, rx, a, dx, fs, ex, ea, l, q⟩ => ?_) ht
  subst ex
  obtain rfl : u = Value.ref a := rx
  refine getmeth_ok I1 ea c hm l ?_
  exact PySem.W.callWith_K0 (first := [.ref a]) I1.kIn hm.kp (run_fn (us := [.ref a]) (vs := [.ref a]) F hr hb hd hx I1 (.cons rfl .nil) q)
structure Mk (K : PySem.W.Frag) (C f : Addr) : Prop where
  makes : PySem.W.makesIn K C = true
  init : PySem.W.findIn K (.ref C) "__init__" = some (some (.ref f))
  fn : PySem.W.isFn K (.ref f) = true
  kp : PySem.W.keepIn K (.ref C) = true
theorem run_make {pins : List (Addr × Obj)} {σ : St} {H : Hp} {s : Shared} {Q : VK} {us : List Value} {vs : List V} (M : Mk X.K C f) (F : FnOk X.prog X.w X.K X.mg X.base CX k f fd ps sp) (hr : Room (k + 1) X.A) (hb : Binds X.K fd ps ds) (hd : Vals dvs ds)
    (hx : Passes CX X E) (I : Inv X pins σ H s) (r : Vals vs us)
    (h : ∀ x dx, H x = none → H dx = none → dx ≠ x → sp (.ref x :: (vs ++ dvs)) (upd (upd H dx (.own x)) x (.ins C dx [])) (fun v H2 => v = .non ∧ Q (.ref x) H2) E) :
    wpAny (model X.prog X.w) X.A (call (.ref C) us) (EP X pins σ Q) X.xe s := by
  have hq := h (s.heap.objs.size + 1) s.heap.objs.size (I.hok.fresh (Nat.le_succ _)) (I.hok.fresh (Nat.le_refl _)) (Nat.ne_of_lt (Nat.lt_succ_self _))
  have I2 := Inv.made (C := C) I
  have r2 : Vals (V.ref (s.heap.objs.size + 1) :: (vs ++ dvs)) (Value.ref (s.heap.objs.size + 1) :: (us ++ ds)) := .cons rfl (r.append hd)
  have hl : (Value.ref (s.heap.objs.size + 1) :: us ++ ds).length = ps.length := by
    have e := r2.length
    rw [F.len _ _ _ _ hq] at e
    exact e.symm
  refine wpAny_call (make_map (f := f) I.kIn M.makes M.init (beq_iff_eq.mp M.fn) (codeAny_mono (F.run _ X.stack _ _ ⟨Value.ref (s.heap.objs.size + 1) :: us, []⟩ (Value.ref (s.heap.objs.size + 1) :: (us ++ ds)) _ _ E (hr.make C us [])
    (I2.env0.make C us []) (hb _ (Value.ref (s.heap.objs.size + 1) :: us) I2.kIn hl) r2 hq) fun r s' hq' => ?_))
  cases r with
  | error e => exact hx pins σ _ _ e s' I2 hq'
  | ok fl =>
    cases fl with
    | ret u =>
      obtain ⟨v, H', I3, rv, ev, q3⟩ := I2.after hq'
      subst ev
      exact ⟨rv, ⟨V.ref (s.heap.objs.size + 1), H', I3, rfl, q3⟩⟩
    | next => exact False.elim hq'
    | brk => exact False.elim hq'
    | cont => exact False.elim hq'
theorem pe_make0 (M : Mk X.K C f) (F : FnOk X.prog X.w X.K X.mg X.base CX k f fd ps sp) (hr : Room (k + 1) X.A) (hg : Gl X x) (hm : X.mg x = some (.ref C)) (hb : Binds X.K fd ps ds) (hd : Vals dvs ds) (hx : Passes CX X E)
    (hdb : (x == ("__debug__" : Str)) = false := by decide) : PE X (.Call (.Name x p) [] [] pos) (tMake C sp dvs E tNil) := by
  intro pins s σ H Q I h
  refine wpAny_Call_Name_kw (ld_glob I hg hm ?_ hdb)
  exact PySem.W.callWith_K0 I.kIn M.kp (run_make (us := []) M F hr hb hd hx I .nil h)
end
section
variable {X : Cx} {CX : CXT} {k : Nat} {f C : Addr} {fd : FuncData} {ps ks : List Str} {sp : Sp} {E : XK} {x m : Str} {p pos apos kpos : Pos} {e o : Expr} {es : List Expr} {kws : List Keyword} {te ta : TE} {t tk : TA} {nm : Option Str}
structure KBinds (K : PySem.W.Frag) (fd : FuncData) (ps ks : List Str) (g : List Value → List Value → List Value) (gV : List V → List V → List V) : Prop where
  to : ∀ (s : Shared) (us ws : List Value), K.In s.heap → (g us ws).length = ps.length → BindsTo s fd ⟨us, ks.zip ws⟩ (ps.zip (g us ws))
  rel : ∀ {vs : List V} {us : List Value} {zs : List V} {ws : List Value}, Vals vs us → Vals zs ws → Vals (gV vs zs) (g us ws)
variable {g : List Value → List Value → List Value} {gV : List V → List V → List V}
end
structure FnScope (N P : List Str) (sc : Scope) : Prop where
  kind : sc.kind = .function
  co : sc.isCoroutine = false
  gen : sc.isGenerator = false
  nd : N.Nodup
  pre : N.take P.length = P
  par : ∀ x ∈ P, sc.names.lookup x = some .local ∨ sc.names.lookup x = some .cell
  nofree : ∀ y ∈ sc.names, y.2 ≠ .free
theorem bindL_out {kindOf : Str → Option NameKind} {x : Str} : ∀ {binds : List (Str × Value)} {m : Str → Option Value}, (∀ v, (x, v) ∉ binds) → bindL kindOf binds m x = m x
  | [], _, _ => rfl
  | (n, v) :: r, m, h => by
    unfold bindL
    rw [bindL_out fun w hw => h w (List.mem_cons_of_mem _ hw)]
    split
    · have : x ≠ n := by rintro rfl; exact h v List.mem_cons_self
      simp [this]
    · rfl
theorem bindC_out {kindOf : Str → Option NameKind} {x : Str} : ∀ {binds : List (Str × Value)} {m : Str → Option Value}, (∀ v, (x, v) ∉ binds) → bindC kindOf binds m x = m x
  | [], _, _ => rfl
  | (n, v) :: r, m, h => by
    unfold bindC
    rw [bindC_out fun w hw => h w (List.mem_cons_of_mem _ hw)]
    split
    · rfl
    · have : x ≠ n := by rintro rfl; exact h v List.mem_cons_self
      simp [this]
theorem bindL_get {kindOf : Str → Option NameKind} {x : Str} {v : Value} : ∀ {P : List Str} {vs : List Value} {i : Nat} {m : Str → Option Value}, P.Nodup → P[i]? = some x → vs[i]? = some v → kindOf x = some .local →
    bindL kindOf (P.zip vs) m x = some v
  | [], _, _, _, _, h, _, _ => by simp at h
  | _ :: _, [], _, _, _, _, h, _ => by simp at h
  | p :: P, w :: vs, 0, m, nd, h1, h2, hk => by
    simp at h1 h2; subst h1; subst h2
    show bindL kindOf ((p, w) :: P.zip vs) m p = _
    unfold bindL
    rw [bindL_out fun v hv => (List.nodup_cons.mp nd).1 (List.of_mem_zip hv).1, if_pos hk]
    simp
  | p :: P, w :: vs, i + 1, m, nd, h1, h2, hk => by
    show bindL kindOf ((p, w) :: P.zip vs) m x = _
    unfold bindL
    exact bindL_get (i := i) (List.nodup_cons.mp nd).2 (by simpa using h1) (by simpa using h2) hk
theorem bindC_get {kindOf : Str → Option NameKind} {x : Str} {v : Value} : ∀ {P : List Str} {vs : List Value} {i : Nat} {m : Str → Option Value}, P.Nodup → P[i]? = some x → vs[i]? = some v → kindOf x ≠ some .local →
    bindC kindOf (P.zip vs) m x = some v
  | [], _, _, _, _, h, _, _ => by simp at h
  | _ :: _, [], _, _, _, _, h, _ => by simp at h
  | p :: P, w :: vs, 0, m, nd, h1, h2, hk => by
    simp at h1 h2; subst h1; subst h2
    show bindC kindOf ((p, w) :: P.zip vs) m p = _
    unfold bindC
    rw [bindC_out fun v hv => (List.nodup_cons.mp nd).1 (List.of_mem_zip hv).1, if_neg hk]
    simp
  | p :: P, w :: vs, i + 1, m, nd, h1, h2, hk => by
    show bindC kindOf ((p, w) :: P.zip vs) m x = _
    unfold bindC
    exact bindC_get (i := i) (List.nodup_cons.mp nd).2 (by simpa using h1) (by simpa using h2) hk
def start (N : List Str) (vs : List V) : St := vs.map some ++ List.replicate (N.length - vs.length) none
def cxOf (CX : CXT) (P : Program) (w : World) (K : PySem.W.Frag) (mg : Str → Option Value) (base : Heap) (N : List Str) (qual : Str) (scope : Scope) (f : Addr) (cd : Value) (A : Around) (outer : List Env) (s : Shared) (H : Hp) (E : XK) : Cx where
  prog := P
  w := w
  K := K
  mg := mg
  base := base
  A := A.deeper (envOfC qual scope s.heap.objs.size f cd)
  N := N
  s₀ := s
  H₀ := H
  env := envOfC qual scope s.heap.objs.size f cd
  outer := outer
  stack := envOfC qual scope s.heap.objs.size f cd :: outer
  ex := []
  calm := true
  fn := fun _ => true
  pn := []
  xe := fun e s' => wpAny (model P w) (A.deeper (envOfC qual scope s.heap.objs.size f cd)) (leaving (envOfC qual scope s.heap.objs.size f cd) e) (fun _ s'' => CX outer H s E e s'') (fun e' s'' => CX outer H s E e' s'') s'
theorem cell_has {sc : Scope} {n : Nat} {x : Str} (h : sc.names.lookup x = some .cell) : ∃ c, (cellsFrom n sc.names []).lookup x = some c := by
  have q := PySem.W.cellsFrom_some sc.names n [] (.inl h)
  exact Option.isSome_iff_exists.mp q
theorem inv_start {CX : CXT} {P : Program} {w : World} {K : PySem.W.Frag} {mg : Str → Option Value} {base : Heap} {N ps : List Str} {qual : Str} {scope : Scope} {f : Addr} {cd : Value} {A : Around} {outer : List Env} {s s1 : Shared} {H : Hp} {E : XK} {us : List Value} {vs : List V}
    (S : FnScope N ps scope) (hd : A.handled = none) (e0 : Env0 P w K mg base A outer s H) (hl : vs.length = ps.length) (r : Vals vs us)
    (x : InCallC s s.heap.objs.size (bindL (envOfC qual scope s.heap.objs.size f cd).kindOf (ps.zip us) fun _ => none) (cellsFrom (s.heap.objs.size + 1) scope.names []) (bindC (envOfC qual scope s.heap.objs.size f cd).kindOf (ps.zip us) fun _ => none) s1) :
    Inv (cxOf CX P w K mg base N qual scope f cd A outer s H E) [] (start N vs) H s1 := by
  have hpl : ps.length ≤ N.length := by have := congrArg List.length S.pre; rw [List.length_take] at this; omega
  obtain ⟨h1, tk, rfl, hk⟩ := x.done
  have noA : ∀ b : Addr, b ∉ (cxOf CX P w K mg base N qual scope f cd A outer s H E).ex := fun b z => absurd (show b ∈ ([] : List Addr) from z) (by simp)
  refine ⟨⟨e0.mod, S.kind, rfl, rfl, Nat.le_refl _, fun y z c h1 h2 => ?_, fun y hy => ?_, fun y c _ h => ?_, fun _ => hd, Around.frames_deeper e0.frames, .inr ⟨rfl, rfl⟩, fun b z => absurd z (noA b), e0.bs, e0.bsz, fun b _ _ => noA b, fun b z => absurd z (noA b), e0.funs, e0.frf⟩,
    rfl, e0.bare, Un.kept hk, ⟨_, x.toInCall.ns, fun i y v h1 h2 h3 => ?_⟩, fun y c h => ⟨_, x.cell y c h⟩, e0.hok.fresh (Nat.le_refl _), fun y c h => ?_, fun p hp => absurd (show p ∈ ([] : List (Addr × Obj)) from hp) (by simp), e0.hok.kept hk, ?_⟩
  · exact name_of_addr x.apart (PySem.mem_of_lookup h1) (PySem.mem_of_lookup h2)
  · have hy : scope.names.lookup y = some .cell ∨ scope.names.lookup y = some .free := hy
    rcases hy with hy | hy
    · exact cell_has hy
    · exact absurd rfl (S.nofree _ (PySem.mem_of_lookup hy))
  · exact Nat.le_of_lt (x.above y c (PySem.mem_of_lookup h))
  · have hi : i < vs.length := by
      unfold start at h2
      by_cases hi : i < vs.length
      · exact hi
      · rw [List.getElem?_append_right (by simpa using hi)] at h2
        rw [List.getElem?_replicate] at h2
        split at h2 <;> cases h2
    have ha : vs[i]? = some v := by
      unfold start at h2
      rw [List.getElem?_append_left (by simpa using hi), List.getElem?_map] at h2
      cases e : vs[i]? with
      | none => rw [e] at h2; cases h2
      | some a => rw [e] at h2; cases h2; rfl
    obtain ⟨u, hu, rv⟩ := r.get ha
    have hp : ps[i]? = some y := by
      rw [← S.pre, List.getElem?_take_of_lt (by omega)]; exact h1
    have ndP : ps.Nodup := by rw [← S.pre]; exact S.nd.sublist (List.take_sublist _ _)
    refine ⟨u, rv, ?_⟩
    rcases S.par y (List.mem_of_getElem? hp) with k | k
    · exact .inl ⟨k, bindL_get ndP hp hu k⟩
    · obtain ⟨c, e⟩ := cell_has (n := s.heap.objs.size + 1) k
      refine .inr ⟨.inl k, c, e, ?_⟩
      have q := x.cell y c e
      rw [bindC_get ndP hp hu (by show scope.names.lookup y ≠ _; rw [k]; decide)] at q
      exact q
  · exact e0.hok.fresh (Nat.le_of_lt (x.above y c (PySem.mem_of_lookup h)))
  · unfold start
    show _ = N.length
    rw [List.length_append, List.length_map, List.length_replicate]
    omega
theorem fn_of {CX : CXT} {P : Program} {w : World} {K : PySem.W.Frag} {mg : Str → Option Value} {base : Heap} {k : Nat} {f : Addr} {name qual : Str} {params : Arguments} {body : List Stmt} {scope : Scope} {dV kV doc pm cdv ct oc : Value} {an od : Option Addr}
    {osl : Array (Option Value)} {N ps : List Str} {sp : Sp} (lk : K.lookup f = some ⟨oc, od, .func (PySem.W.fnOf name qual params body scope dV kV doc pm an cdv ct), osl⟩) (hcd : PySem.W.codeIn K cdv qual = true) (S : FnScope N ps scope)
    (len : ∀ vs H Q E, sp vs H Q E → vs.length = ps.length)
    (hbody : ∀ (A : Around) (outer : List Env) (s : Shared) (H : Hp) (vs : List V) (Q : VK) (E : XK), Room k (A.deeper (envOfC qual scope s.heap.objs.size f cdv)) → sp vs H Q E →
      ∃ t, PSs (cxOf CX P w K mg base N qual scope f cdv A outer s H E) body t ∧ t { nx := fun _ H' => Q .non H', rt := Q } (start N vs) H) :
    FnOk P w K mg base CX (k + 1) f (PySem.W.fnOf name qual params body scope dV kV doc pm an cdv ct) ps sp := by
  refine ⟨len, fun A outer s H args us vs Q E hr e0 hb r hsp => ?_⟩
  have hl := len _ _ _ _ hsp
  have KX : K.In s.heap := e0.mod.kin.keeps fun b o e => (e0.bs b o e).1
  have lim : s.heap.NoLimit := e0.mod.nolimit.keeps fun b o e => (e0.bs b o e).1
  have hkind : ∀ y ∈ ps.zip us, scope.names.lookup y.1 = some .local ∨ (scope.names.lookup y.1 = some .cell ∧ ((cellsFrom (s.heap.objs.size + 1) scope.names []).lookup y.1).isSome = true) := fun ⟨n, v⟩ hy => by
    rcases S.par n (List.of_mem_zip hy).1 with q | q
    · exact .inl q
    · exact .inr ⟨q, PySem.W.cellsFrom_some _ _ _ (.inl q)⟩
  refine codeAny_call_function hr.depth (KX _ _ lk) rfl S.co S.gen rfl (PySem.W.codeRec_of KX hcd) (hb _ _ _ _ ?_)
  refine wpAny_newFunctionEnv_cells S.kind hkind fun env he s1 x => ?_
  subst he
  refine ⟨lim.keeps x.toInCall.keep, codeAny_func ?_⟩
  obtain ⟨t, ht, hq⟩ := hbody A outer s H vs Q E (hr.deeper _) hsp
  have I : Inv (cxOf CX P w K mg base N qual scope f cdv A outer s H E) [] (start N vs) H s1 := inv_start S hr.hd e0 hl r x
  refine wpAny_mono (ht [] s1 (start N vs) H _ I hq) (fun fl s' hs => ?_) fun e s' hs => hs
  have fin : ∀ {σ' : St} {H' : Hp} {v : V} {u : Value}, Inv (cxOf CX P w K mg base N qual scope f cdv A outer s H E) [] σ' H' s' → RelV v u → Q v H' → CE outer P w H s Q u s' :=
    fun {σ' H' v u} J rv q => ⟨v, H', J.os, J.bare, J.base, J.hok, rv, q⟩
  cases fl with
  | ret u =>
    obtain ⟨v, σ', H', J, rv, q⟩ := hs
    exact fin J rv q
  | next =>
    obtain ⟨σ', H', J, q⟩ := hs
    exact fin (v := V.non) (u := Value.none) J rfl q
  | brk =>
    obtain ⟨_, _, _, q⟩ := hs
    exact False.elim q
  | cont =>
    obtain ⟨_, _, _, q⟩ := hs
    exact False.elim q
end L2
namespace L2
open PySem PySem.Spec PyProof.Rows
section
variable {X : Cx} {x : Str} {p pos : Pos} {e : Expr} {es : List Expr} {t : TA} {id T : String} {r : List V → Hp → VK → Prop}
def tCB (r : List V → Hp → VK → Prop) (t : TA) : TE := fun σ H Q => t σ H fun vs H1 => r vs H1 Q
theorem pe_callB (hc : CallR X (.builtin id) r) (hg : Gl X x) (hm : X.mg x = none) (hv : bootBuiltins x = some (.builtin id)) (ha : PA X (e :: es) t) (hn : x ≠ "__name__" := by decide) (hdb : (x == ("__debug__" : Str)) = false := by decide)
    (he : starEach (e :: es) X.env = (false, eval e X.env) :: starEach es X.env := by rfl) (hpl : (backTo pos (starEach es X.env)).any (·.1) = false := by rfl) : PE X (.Call (.Name x p) (e :: es) [] pos) (tCB r t) := by
  intro pins s σ H Q I h
  refine wpAny_Call_Name_kw (ld_blt I hg hm hv ?_ hn hdb)
  exact PyProof.Rows.callWith_builtin1 (thn (ha pos pins s σ H _ I h) fun us s1 ⟨vs, H1, I1, r1, q1⟩ => hc pins s1 σ H1 vs us Q I1 r1 q1) he hpl
theorem pe_callTy (hc : CallR X (.type T) r) (hg : Gl X x) (hm : X.mg x = none) (hv : bootBuiltins x = some (.type T)) (ha : PA X (e :: es) t) (hn : x ≠ "__name__" := by decide) (hdb : (x == ("__debug__" : Str)) = false := by decide)
    (he : starEach (e :: es) X.env = (false, eval e X.env) :: starEach es X.env := by rfl) (hpl : (backTo pos (starEach es X.env)).any (·.1) = false := by rfl) : PE X (.Call (.Name x p) (e :: es) [] pos) (tCB r t) := by
  intro pins s σ H Q I h
  refine wpAny_Call_Name_kw (ld_blt I hg hm hv ?_ hn hdb)
  exact PyProof.Rows.callWith_type1 (thn (ha pos pins s σ H _ I h) fun us s1 ⟨vs, H1, I1, r1, q1⟩ => hc pins s1 σ H1 vs us Q I1 r1 q1) he hpl
end
end L2
namespace HT
open PySem PyProof.Rows
section
open PySem.SeqAt
open PySem.AutoSeq1 (wpAny_loadPart')
open PySem.MeetsSeq PySem.MeetsSeq2 PySem.MeetsSeq3
end
section
variable {prog : Program} {w : World} {A : Around} {E : Value → Shared → Prop} {s : Shared}
def sIx (n d : Nat) : Option Int → Nat
  | none => d
  | some v => if v < 0 then (v + (n : Int)).toNat else min v.toNat n
theorem sIx_none (n d : Nat) : sIx n d none = d := rfl
theorem sIx_nat (n d k : Nat) : sIx n d (some (k : Int)) = min k n := by
  show (if (k : Int) < 0 then ((k : Int) + (n : Int)).toNat else min (k : Int).toNat n) = min k n
  rw [if_neg (by omega), Int.toNat_natCast]
end
end HT
namespace L2
open PySem PySem.Spec PyProof.Rows
abbrev TO := St → Hp → (Option Int → Hp → Prop) → Prop
def PO (X : Cx) (e : Option Expr) (t : TO) : Prop :=
  ∀ (pins : List (Addr × Obj)) (s : Shared) (σ : St) (H : Hp) (Q : Option Int → Hp → Prop), Inv X pins σ H s → t σ H Q →
    wpAny (model X.prog X.w) X.A (evalPart e X.env) (fun u s' => ∃ o H', Inv X pins σ H' s' ∧ IsPart u o ∧ Q o H') X.xe s
def tNoPart : TO := fun _ H Q => Q none H
def tPart (t : TE) : TO := fun σ H Q => t σ H fun x H1 => ∃ i, x = .int i ∧ Q (some i) H1
theorem intsAre_of {ns : List Int} : ∀ {us : List Value}, Vals (ns.map V.int) us → IntsAre us ns := by
  induction ns with
  | nil => intro us r; rw [List.map_nil] at r; cases r; exact .nil
  | cons n ns ih =>
    intro us r
    rw [List.map_cons] at r
    cases r with
    | cons r1 r2 =>
      obtain ⟨t, e⟩ := r1
      subst e
      exact .cons n t (ih r2)
section
variable {X : Cx} {e : Expr} {te : TE} {lo hi : Option Expr} {tl th : TO} {pos p2 : Pos}
theorem po_none : PO X none tNoPart := by
  intro pins s σ H Q I h
  rw [evalPart_none]
  exact wpAny_pure ⟨none, H, I, .none, h⟩
theorem po_some (h : PE X e te) : PO X (some e) (tPart te) := by
  intro pins s σ H Q I hw
  rw [evalPart_some]
  refine thn (h pins s σ H _ I hw) fun u s1 ⟨x, H1, I1, r1, q1⟩ => ?_
  obtain ⟨i, rfl, q⟩ := q1
  obtain ⟨t, rfl⟩ := r1
  exact ⟨some i, H1, I1, .int i t, q⟩
def SlR (X : Cx) (r : V → Option Int → Option Int → Hp → VK → Prop) : Prop :=
  ∀ (pins : List (Addr × Obj)) (s : Shared) (σ : St) (H : Hp) (x : V) (v vl vu : Value) (lo hi : Option Int) (sl : Addr) (Q : VK), Inv X pins σ H s → RelV x v → s.heap.IsSliceOf sl vl vu .none → IsPart vl lo → IsPart vu hi → r x lo hi H Q →
    ∃ T id, typeLookup (.type T) "__getitem__" = pure (some (.builtin id)) ∧ s.TypeIs v T ∧ wpAny (model X.prog X.w) X.A (getItem v (.ref sl)) (EP X pins σ Q) X.xe s
def tSl (r : V → Option Int → Option Int → Hp → VK → Prop) (te : TE) (tl th : TO) : TE := fun σ H Q => te σ H fun x H1 => tl σ H1 fun l H2 => th σ H2 fun u H3 => r x l u H3 Q
theorem pe_slice {r : V → Option Int → Option Int → Hp → VK → Prop} (hr : SlR X r) (he : PE X e te) (hl : PO X lo tl) (hu : PO X hi th) : PE X (.Subscript e (.Slice lo hi none p2) pos) (tSl r te tl th) := by
  intro pins s σ H Q I h
  refine Subscript_ (thn (he pins s σ H _ I h) fun v s1 ⟨x, H1, I1, r1, q1⟩ => ?_)
  refine wpAny_Slice (thn (hl pins s1 σ H1 _ I1 q1) fun vl s2 ⟨l, H2, I2, pl, q2⟩ => thn (hu pins s2 σ H2 _ I2 q2) fun vu s3 ⟨u, H3, I3, pu, q3⟩ => ?_)
  rw [evalPart_none]
  refine wpAny_pure ?_
  have I4 : Inv X pins σ H3 { s3 with heap := s3.heap.push { cls := .type "slice", data := .fields #[vl, vu, .none] } } := I3.kept (t' := s3.toks) fun b ob q => Heap.get?_push_of_some _ q
  obtain ⟨T, id, hT, ht, hg⟩ := hr pins { s3 with heap := s3.heap.push { cls := .type "slice", data := .fields #[vl, vu, .none] } } σ H3 x v vl vu l u s3.heap.objs.size Q I4 r1 (Heap.IsSliceOf.new ..) pl pu q3
  show wpAny (model X.prog X.w) X.A (subscriptTail e (.Slice lo hi none p2) v (.ref s3.heap.objs.size)) (EP X pins σ Q) X.xe { s3 with heap := s3.heap.push { cls := .type "slice", data := .fields #[vl, vu, .none] } }
  exact tail_any (ops := [.ref s3.heap.objs.size, v]) ht hT hg (by with_unfolding_all rfl)
def cutV (xs : List V) (lo hi : Option Int) : List V := (xs.drop (HT.sIx xs.length 0 lo)).take (HT.sIx xs.length xs.length hi - HT.sIx xs.length 0 lo)
theorem cutV_length (xs : List V) (lo hi : Option Int) : (cutV xs lo hi).length ≤ xs.length := by
  unfold cutV
  rw [List.length_take, List.length_drop]
  omega
end
end L2
namespace L2
open PySem PySem.Spec PyProof.Rows
def ixN (n : Nat) (i : Int) : Option Nat := if 0 ≤ i then (if i < n then some i.toNat else none) else if -(n : Int) ≤ i then some (i + n).toNat else none
def atI {α : Type} (xs : List α) (i : Int) : Option α := (ixN xs.length i).bind fun j => xs[j]?
theorem ixN_seq {n : Nat} {i : Int} {j : Nat} (h : ixN n i = some j) : seqIndex? i n = some j ∧ j < n ∧ -(n : Int) ≤ i ∧ i < n := by
  unfold ixN at h
  by_cases h0 : 0 ≤ i
  · rw [if_pos h0] at h
    by_cases h1 : i < n
    · rw [if_pos h1] at h
      have e : i.toNat = j := Option.some.inj h
      exact ⟨by rw [seqIndex_of h0 h1, e], by omega, by omega, h1⟩
    · rw [if_neg h1] at h; cases h
  · rw [if_neg h0] at h
    by_cases h1 : -(n : Int) ≤ i
    · rw [if_pos h1] at h
      have e : (i + n).toNat = j := Option.some.inj h
      exact ⟨by rw [seqIndex_neg (by omega) h1, e], by omega, h1, by omega⟩
    · rw [if_neg h1] at h; cases h
theorem atI_get {α : Type} {xs : List α} {i : Int} {v : α} (h : atI xs i = some v) : ∃ j, seqIndex? i xs.length = some j ∧ xs[j]? = some v ∧ j < xs.length ∧ -(xs.length : Int) ≤ i ∧ i < xs.length := by
  unfold atI at h
  cases e : ixN xs.length i with
  | none => rw [e] at h; cases h
  | some j =>
    rw [e] at h
    obtain ⟨h1, h2, h3, h4⟩ := ixN_seq e
    exact ⟨j, h1, h, h2, h3, h4⟩
theorem atI_nat {α : Type} {xs : List α} {j : Nat} {v : α} (h : xs[j]? = some v) : atI xs (j : Int) = some v := by
  have hj : j < xs.length := (List.getElem?_eq_some_iff.mp h).1
  have e : ixN xs.length (j : Int) = some j := by
    unfold ixN
    rw [if_pos (by omega), if_pos (by omega)]; simp
  unfold atI; rw [e]; exact h
def PlainIx (b : Expr) : Prop := ∀ o i, subscripted b false o i = operate [o, i] (getItem o i)
def IxR (X : Cx) (r : R2) : Prop :=
  ∀ (value slice : Expr) (pins : List (Addr × Obj)) (s : Shared) (σ : St) (H : Hp) (x y : V) (v u : Value) (Q : VK), Inv X pins σ H s → RelV x v → RelV y u → r x y H Q →
    subscripted slice false v u = operate [v, u] (getItem v u) → wpAny (model X.prog X.w) X.A (subscriptTail value slice v u) (EP X pins σ Q) X.xe s
def MtR (X : Cx) (id : String) (r : V → List V → Hp → VK → Prop) : Prop :=
  ∀ (pins : List (Addr × Obj)) (s : Shared) (σ : St) (H : Hp) (x : V) (xs : List V) (v : Value) (us : List Value) (Q : VK), Inv X pins σ H s → RelV x v → Vals xs us → r x xs H Q →
    wpAny (model X.prog X.w) X.A (call (.builtin id) (v :: us)) (EP X pins σ Q) X.xe s
section
variable {X : Cx} {a b : Expr} {ta tb : TE} {pos : Pos}
theorem pe_ix {r : R2} (hr : IxR X r) (ha : PE X a ta) (hb : PE X b tb) (hs : PlainIx b) : PE X (.Subscript a b pos) (tOp r ta tb) := by
  intro pins s σ H Q I h
  exact Subscript_ (binT ha hb I h fun v u s2 x y H2 I2 rx ry q => hr a b pins s2 σ H2 x y v u Q I2 rx ry q (hs _ _))
def rIxL (K : PySem.W.Frag) : R2 := fun x y H Q => ∃ p xs i v, x = .ref p ∧ y = .int i ∧ SqL K H p xs ∧ atI xs i = some v ∧ Q v H
def rIxT (K : PySem.W.Frag) : R2 := fun x y H Q => ∃ p xs i v, x = .ref p ∧ y = .int i ∧ SqT K H p xs ∧ atI xs i = some v ∧ Q v H
theorem ix_list : IxR X (rIxL X.K) := by
  intro value slice pins s σ H x y v u Q I rx ry h hs
  obtain ⟨p, xs, i, z, rfl, rfl, hq, he, q⟩ := h
  cases rx
  obtain ⟨t, rfl⟩ := ry
  obtain ⟨its, r, pl, hz⟩ := I.list hq
  obtain ⟨j, h1, h2, h3, h4, h5⟩ := atI_get he
  obtain ⟨w, ew, rw'⟩ := r.get h2
  have hl := r.length
  have hn := line63
  have fin : EP X pins σ Q w s := ⟨z, H, I, rw', q⟩
  by_cases h0 : 0 ≤ i
  · have hj : i.toNat = j := by
      rw [seqIndex_of h0 h5] at h1
      exact Option.some.inj h1
    exact item_listR pl.isList h0 (by omega) (by rw [hj]; simpa using ew) fin hs
  · have hj : (i + (its.toArray.size : Int)).toNat = j := by
      rw [seqIndex_neg (by omega) h4] at h1
      rw [List.size_toArray, ← hl]
      exact Option.some.inj h1
    exact subscriptTail_builtinR (x := w) pl.isList.typeIs slot_list_getitem.lookup
      (wpAny_getItem_list_neg (Q := fun r s' => r = w ∧ EP X pins σ Q r s') pl.isList (by omega) (by rw [List.size_toArray] <;> omega) (by omega) (by rw [hj]; simpa using ew) ⟨rfl, fin⟩) hs
theorem ix_tup : IxR X (rIxT X.K) := by
  intro value slice pins s σ H x y v u Q I rx ry h hs
  obtain ⟨p, xs, i, z, rfl, rfl, hq, he, q⟩ := h
  cases rx
  obtain ⟨t, rfl⟩ := ry
  obtain ⟨its, r, pl, hz⟩ := I.tuple hq
  obtain ⟨j, h1, h2, h3, h4, h5⟩ := atI_get he
  obtain ⟨w, ew, rw'⟩ := r.get h2
  have hl := r.length
  have hn := line63
  have fin : EP X pins σ Q w s := ⟨z, H, I, rw', q⟩
  exact subscriptTail_builtinR (x := w) pl.typeIs slot_tuple_getitem.lookup
    (getItem_tuple (j := j) (Q := fun r s' => r = w ∧ EP X pins σ Q r s') pl (by omega) (by omega) (by rw [List.size_toArray, ← hl]; exact h1) (by simpa using ew) ⟨rfl, fin⟩) hs
theorem slice_bounds (lo hi : Option Int) (n : Nat) : (sliceBounds lo hi none n).1 = ((HT.sIx n 0 lo : Nat) : Int) ∧ (sliceBounds lo hi none n).2.1 = ((HT.sIx n n hi : Nat) : Int) ∧ (sliceBounds lo hi none n).2.2 = 1 := by
  refine ⟨?_, ?_, rfl⟩
  · cases lo with
    | none => simp [sliceBounds, HT.sIx]
    | some i =>
      simp only [sliceBounds, HT.sIx, Option.getD_none, show (1 : Int) > 0 by decide, if_true]
      by_cases h : i < 0
      · simp only [h, if_true] <;> omega
      · simp only [h, if_false] <;> omega
  · cases hi with
    | none => simp [sliceBounds, HT.sIx]
    | some i =>
      simp only [sliceBounds, HT.sIx, Option.getD_none, show (1 : Int) > 0 by decide, if_true]
      by_cases h : i < 0
      · simp only [h, if_true] <;> omega
      · simp only [h, if_false] <;> omega
theorem slicePick_cut (its : List Value) (lo hi : Option Int) : slicePick its.toArray lo hi none = ((its.drop (HT.sIx its.length 0 lo)).take (HT.sIx its.length its.length hi - HT.sIx its.length 0 lo)).toArray := by
  obtain ⟨h1, h2, h3⟩ := slice_bounds lo hi its.toArray.size
  unfold slicePick
  rw [h1, h2, h3]
  simp only [sliceRange_one, pick_run, List.size_toArray] <;> rfl
def rSlL (K : PySem.W.Frag) : V → Option Int → Option Int → Hp → VK → Prop := fun x lo hi H Q => ∃ a xs, x = .ref a ∧ SqL K H a xs ∧ ∀ p, H p = none → Q (.ref p) (upd H p (.lst (cutV xs lo hi)))
theorem sl_list : SlR X (rSlL X.K) := by
  intro pins s σ H x v vl vu lo hi sl Q I rx hs pl pu h
  obtain ⟨a, xs, rfl, hx, q⟩ := h
  cases rx
  obtain ⟨its, r, ht, hz⟩ := I.list hx
  have hlen := r.length
  refine ⟨"list", _, slot_list_getitem.lookup, ht.isList.typeIs, ?_⟩
  refine wpAny_getItem_list_slice ht.isList hs pl pu .none (by simp) ?_ (by rw [List.size_toArray] <;> omega)
  rw [slicePick_cut, ← hlen]
  refine ⟨.ref s.heap.objs.size, _, I.laid (t' := s.toks) (o := .lst (cutV xs lo hi)) (fun b ob q => Heap.get?_push_of_some _ q) (Nat.le_refl _) ?_, rfl, q _ (I.hok.fresh (Nat.le_refl _))⟩
  exact ⟨Nat.le_trans (cutV_length xs lo hi) hz, _, 0, (r.drop (HT.sIx xs.length 0 lo)).take (HT.sIx xs.length xs.length hi - HT.sIx xs.length 0 lo), Heap.get?_push_size _ rfl⟩
def flatV : V → Bool
  | .non => true
  | .bl _ => true
  | .int _ => true
  | .str _ => true
  | _ => false
def eqV : V → V → Bool
  | .non, .non => true
  | .bl a, .bl b => a == b
  | .bl a, .int b => (if a then 1 else 0) == b
  | .int a, .bl b => a == (if b then 1 else 0)
  | .int a, .int b => a == b
  | .str a, .str b => a == b
  | _, _ => false
theorem eqAt_V {A : Around} {s : Shared} {y x : V} {u v : Value} (ry : RelV y u) (rx : RelV x v) (fy : flatV y = true) (fx : flatV x = true) : SeqAt.EqAt A s u v (eqV y x) := by
  cases y with
  | non =>
    cases ry
    cases x with
    | non => cases rx; exact SeqAt.EqAt.same _
    | bl b => cases rx; exact SeqAt.EqAt.none_bool b
    | int b => obtain ⟨t, rfl⟩ := rx; exact SeqAt.EqAt.none_int b t
    | str b => obtain ⟨t, rfl⟩ := rx; exact SeqAt.EqAt.none_str b t
    | _ => exact absurd (show false = true from fx) Bool.false_ne_true
  | bl a =>
    cases ry
    cases x with
    | non => cases rx; exact SeqAt.EqAt.bool_none a
    | bl b => cases rx; exact SeqAt.EqAt.bool_bool a b
    | int b => obtain ⟨t, rfl⟩ := rx; exact SeqAt.EqAt.bool_int a b t
    | str b => obtain ⟨t, rfl⟩ := rx; exact SeqAt.EqAt.bool_str a b t
    | _ => exact absurd (show false = true from fx) Bool.false_ne_true
  | int a =>
    obtain ⟨t', rfl⟩ := ry
    cases x with
    | non => cases rx; exact SeqAt.EqAt.int_none a t'
    | bl b => cases rx; exact SeqAt.EqAt.int_bool a t' b
    | int b => obtain ⟨t, rfl⟩ := rx; exact SeqAt.EqAt.int_int a t' b t
    | str b => obtain ⟨t, rfl⟩ := rx; exact SeqAt.EqAt.int_str a t' b t
    | _ => exact absurd (show false = true from fx) Bool.false_ne_true
  | str a =>
    obtain ⟨t', rfl⟩ := ry
    cases x with
    | non => cases rx; exact SeqAt.EqAt.str_none a t'
    | bl b => cases rx; exact SeqAt.EqAt.str_bool a t' b
    | int b => obtain ⟨t, rfl⟩ := rx; exact SeqAt.EqAt.str_int a t' b t
    | str b => obtain ⟨t, rfl⟩ := rx; exact SeqAt.EqAt.str_str a t' b t
    | _ => exact absurd (show false = true from fx) Bool.false_ne_true
  | _ => exact absurd (show false = true from fy) Bool.false_ne_true
def eqU (x : V) (u : Value) : Bool := match u with
  | .none => eqV .non x
  | .bool b => eqV (.bl b) x
  | .int i _ => eqV (.int i) x
  | .str z _ => eqV (.str z) x
  | _ => false
theorem eqU_of {x y : V} {u : Value} (r : RelV y u) (f : flatV y = true) : eqU x u = eqV y x := by
  cases y with
  | non => cases r; rfl
  | bl b => cases r; rfl
  | int i => obtain ⟨t, rfl⟩ := r; rfl
  | str z => obtain ⟨t, rfl⟩ := r; rfl
  | _ => exact absurd (show false = true from f) Bool.false_ne_true
theorem any_eqU {x : V} : ∀ {xs : List V} {us : List Value}, Vals xs us → xs.all flatV = true → us.any (eqU x) = xs.any fun y => eqV y x
  | _, _, .nil, _ => rfl
  | y :: xs, u :: us, .cons r t, f => by
    rw [List.all_cons, Bool.and_eq_true] at f
    rw [List.any_cons, List.any_cons, eqU_of r f.1, any_eqU t f.2]
theorem mem_eqAt {A : Around} {s : Shared} {x : V} {v : Value} (rx : RelV x v) (fx : flatV x = true) : ∀ {xs : List V} {us : List Value}, Vals xs us → xs.all flatV = true → ∀ u ∈ us, SeqAt.EqAt A s u v (eqU x u)
  | _, _, .nil, _ => fun u hu => by cases hu
  | y :: xs, u :: us, .cons r t, f => fun u' hu => by
    rw [List.all_cons, Bool.and_eq_true] at f
    rcases List.mem_cons.mp hu with rfl | hu
    · rw [eqU_of r f.1]; exact eqAt_V r rx f.1 fx
    · exact mem_eqAt rx fx t f.2 u' hu
def inV (x : V) (xs : List V) : Bool := xs.any fun y => eqV y x
def rIn (K : PySem.W.Frag) (neg : Bool) : R2 := fun x y H Q => ∃ p xs, y = .ref p ∧ (SqL K H p xs ∨ SqT K H p xs) ∧ flatV x = true ∧ xs.all flatV = true ∧ Q (.bl (if neg then !inV x xs else inV x xs)) H
theorem op_in_seq : OpR X (compareOp .In) (rIn X.K false) := by
  intro pins s σ H x y v u Q I rx ry h
  obtain ⟨p, xs, rfl, hq, fx, fs, q⟩ := h
  cases ry
  rcases hq with hq | hq
  · obtain ⟨its, r, pl, hz⟩ := I.list hq
    refine SeqAt.in_listAt (eqU x) pl.isList (fun w hw => mem_eqAt rx fx r fs w (by simpa using hw)) ⟨.bl _, H, I, rfl, ?_⟩
    rw [show its.toArray.any (eqU x) = its.any (eqU x) by simp, any_eqU r fs]
    exact q
  · obtain ⟨its, r, pl, hz⟩ := I.tuple hq
    refine SeqAt.in_tupleAt (eqU x) pl (fun w hw => mem_eqAt rx fx r fs w (by simpa using hw)) ⟨.bl _, H, I, rfl, ?_⟩
    rw [show its.toArray.any (eqU x) = its.any (eqU x) by simp, any_eqU r fs]
    exact q
theorem op_notIn_seq : OpR X (compareOp .NotIn) (rIn X.K true) := by
  intro pins s σ H x y v u Q I rx ry h
  obtain ⟨p, xs, rfl, hq, fx, fs, q⟩ := h
  cases ry
  rcases hq with hq | hq
  · obtain ⟨its, r, pl, hz⟩ := I.list hq
    refine SeqAt.notIn_listAt (eqU x) pl.isList (fun w hw => mem_eqAt rx fx r fs w (by simpa using hw)) ⟨.bl _, H, I, rfl, ?_⟩
    rw [show its.toArray.any (eqU x) = its.any (eqU x) by simp, any_eqU r fs]
    exact q
  · obtain ⟨its, r, pl, hz⟩ := I.tuple hq
    refine SeqAt.notIn_tupleAt (eqU x) pl (fun w hw => mem_eqAt rx fx r fs w (by simpa using hw)) ⟨.bl _, H, I, rfl, ?_⟩
    rw [show its.toArray.any (eqU x) = its.any (eqU x) by simp, any_eqU r fs]
    exact q
theorem call_len_seq : CallR X (.builtin "len") (fun xs H Q => ∃ p ys, xs = [.ref p] ∧ (SqL X.K H p ys ∨ SqT X.K H p ys) ∧ Q (.int ys.length) H) := by
  intro pins s σ H xs us Q I r h
  obtain ⟨p, ys, rfl, hq, q⟩ := h
  obtain ⟨u, rfl, rx⟩ := vals1 r
  cases rx
  have hn := line63
  rcases hq with hq | hq
  · obtain ⟨its, r', pl, hz⟩ := I.list hq
    have hlen := r'.length
    exact Calls.call_len_list pl.isList (by simp only [List.size_toArray] <;> omega) ⟨.int ys.length, H, I.tok _, ⟨s.toks + 1, by rw [List.size_toArray, hlen]⟩, q⟩
  · obtain ⟨its, r', pl, hz⟩ := I.tuple hq
    have hlen := r'.length
    exact len_tuple pl (by simp only [List.size_toArray] <;> omega) ⟨.int ys.length, H, I.tok _, ⟨s.toks + 1, by rw [List.size_toArray, hlen]⟩, q⟩
theorem call_list_of : CallR X (.type "list") (fun xs H Q => ∃ p ys, xs = [.ref p] ∧ (SqL X.K H p ys ∨ SqT X.K H p ys) ∧ ∀ l, H l = none → Q (.ref l) (upd H l (.lst ys))) := by
  intro pins s σ H xs us Q I r h
  obtain ⟨p, ys, rfl, hq, q⟩ := h
  obtain ⟨u, rfl, rx⟩ := vals1 r
  cases rx
  have fin : ∀ (its : List Value), Vals ys its → ys.length ≤ sizeLine → ∀ (h' : Heap) (c' : Nat), (∀ b o', s.heap.get? b = some o' → h'.get? b = some o') →
      h'.get? s.heap.objs.size = some { cls := .type "list", dict := none, data := .seq its.toArray c', slots := #[] } → EP X pins σ Q (.ref s.heap.objs.size) { s with heap := h' } := fun its r' hz h' c' kp e =>
    ⟨.ref s.heap.objs.size, _, I.laid (t' := s.toks) kp (Nat.le_refl _) (show ObjOk X.prog X.w _ h' _ (.lst ys) from ⟨hz, its, c', r', e⟩), rfl, q _ (I.hok.fresh (Nat.le_refl _))⟩
  rcases hq with hq | hq
  · obtain ⟨its, r', pl, hz⟩ := I.list hq
    have hlen := r'.length
    obtain ⟨o, ho, hc, n, hd⟩ := pl.isList
    exact call_list_seq p (.inl rfl) ho hc hd (fun h' c' kp e => fin its r' hz h' c' kp e) (by simp only [List.size_toArray] <;> omega)
  · obtain ⟨its, r', pl, hz⟩ := I.tuple hq
    have hlen := r'.length
    obtain ⟨o, ho, hc, n, hd⟩ := pl
    exact call_list_seq p (.inr rfl) ho hc hd (fun h' c' kp e => fin its r' hz h' c' kp e) (by simp only [List.size_toArray] <;> omega)
def tyV (K : PySem.W.Frag) (T : String) (x : V) (H : Hp) : Prop := match x with
  | .str _ => T = "str"
  | .int _ => T = "int"
  | .ref p => (T = "list" ∧ ∃ xs, SqL K H p xs) ∨ (T = "tuple" ∧ ∃ o, K.lookup p = some o ∧ o.cls = .type "tuple" ∧ o.dict = none) ∨
      (T = "dict" ∧ ((∃ kvs, H p = some (.dK kvs)) ∨ ∃ kvs, H p = some (.dT kvs))) ∨ (T = "set" ∧ ∃ S n, H p = some (.set S n))
  | _ => False
theorem tyV_is {pins : List (Addr × Obj)} {σ : St} {H : Hp} {s : Shared} {T : String} {x : V} {v : Value} (I : Inv X pins σ H s) (r : RelV x v) (ty : tyV X.K T x H) :
    s.TypeIs v T ∧ ∀ a, v = .ref a → ∃ ob, s.heap.get? a = some ob ∧ ob.dict = none := by
  cases x with
  | str z =>
    obtain ⟨t, rfl⟩ := r
    cases (show T = "str" from ty)
    exact ⟨typeIs_str s z t, fun _ e => nomatch e⟩
  | int i =>
    obtain ⟨t, rfl⟩ := r
    cases (show T = "int" from ty)
    exact ⟨typeIs_int s i t, fun _ e => nomatch e⟩
  | ref p =>
    cases r
    rcases ty with ⟨rfl, xs, hq⟩ | ⟨rfl, o, hk, hc, hd⟩ | ⟨rfl, hk⟩ | ⟨rfl, S, n, hk⟩
    · obtain ⟨its, _, pl, _⟩ := I.list hq
      refine ⟨pl.isList.typeIs, fun a e => ?_⟩
      cases e
      obtain ⟨o, n, e, c, hd, _⟩ := pl
      exact ⟨o, e, hd⟩
    · refine ⟨⟨o, I.kIn p o hk, hc⟩, fun a e => ?_⟩
      cases e
      exact ⟨o, I.kIn _ o hk, hd⟩
    · have z : ∃ o, s.heap.get? p = some o ∧ o.ExactDict := by
        rcases hk with ⟨kvs, hk⟩ | ⟨kvs, hk⟩
        · obtain ⟨_, _, _, _, o, _, _, e, ex, _⟩ := I.hok p _ hk
          exact ⟨o, e, ex⟩
        · obtain ⟨_, _, _, _, o, _, _, e, ex, _⟩ := I.hok p _ hk
          exact ⟨o, e, ex⟩
      obtain ⟨o, e, ex⟩ := z
      refine ⟨⟨o, e, ex.1⟩, fun a e2 => ?_⟩
      cases e2
      exact ⟨o, e, ex.2.1⟩
    · obtain ⟨o, _, _, _, e, ex, _⟩ := I.hok p _ hk
      refine ⟨⟨o, e, ex.1⟩, fun a e2 => ?_⟩
      cases e2
      exact ⟨o, e, ex.2.1⟩
  | _ => exact False.elim ty
def tBM0 (K : PySem.W.Frag) (T : String) (r : V → List V → Hp → VK → Prop) (to : TE) : TE := fun σ H Q => to σ H fun x H1 => tyV K T x H1 ∧ r x [] H1 Q
def tBM (K : PySem.W.Frag) (T : String) (r : V → List V → Hp → VK → Prop) (to : TE) (t : TA) : TE := fun σ H Q => to σ H fun x H1 => tyV K T x H1 ∧ t σ H1 fun xs H2 => r x xs H2 Q
variable {o e : Expr} {es : List Expr} {to : TE} {t : TA} {name : Str} {apos cpos : Pos} {T id : String} {r : V → List V → Hp → VK → Prop}
theorem pe_bm0 (pa : PlainAttrs T) (slot : Slot T name id) (hty : typeOf (.builtin id) = pure (.type "method_descriptor")) (hm : MtR X id r) (ho : PE X o to)
    (hbase : attributeBase o name X.env (eval o X.env) = eval o X.env := by rfl) (hline : (apos.endLine == cpos.line) = true := by rfl) : PE X (.Call (.Attribute o name apos) [] [] cpos) (tBM0 X.K T r to) := by
  intro pins s σ H Q I h
  refine wpAny_Call_method0_late hbase hline (thn (ho pins s σ H _ I h) fun v s1 ⟨x, H1, I1, r1, ty, q1⟩ => ?_)
  obtain ⟨h1, h2⟩ := tyV_is I1 r1 ty
  exact ⟨T, id, pa, slot, hty, h1, h2, Calls.callWith_builtin rfl (PySem.evalArgs_none (hm pins s1 σ H1 x [] v [] Q I1 r1 .nil q1))⟩
theorem pe_bm (pa : PlainAttrs T) (slot : Slot T name id) (hty : typeOf (.builtin id) = pure (.type "method_descriptor")) (hm : MtR X id r) (ho : PE X o to) (ha : PA X (e :: es) t)
    (hbase : attributeBase o name X.env (eval o X.env) = eval o X.env := by rfl)
    (hfew : ((backTo cpos (starEach (e :: es) X.env)).all (fun x => !x.1) && (backToKw cpos (keywordEach [] X.env)).all (fun x => x.1.isSome)
      && decide ((e :: es).length + ([] : List Keyword).length + (if ([] : List Keyword).isEmpty then 0 else 1) < 30)) = true := by rfl)
    (hline : (apos.endLine == cpos.line) = true := by rfl) (hs : starEach (e :: es) X.env = (false, eval e X.env) :: starEach es X.env := by rfl) (hplain : (backTo cpos (starEach es X.env)).any (·.1) = false := by rfl) :
    PE X (.Call (.Attribute o name apos) (e :: es) [] cpos) (tBM X.K T r to t) := by
  intro pins s σ H Q I h
  refine wpAny_Call_method_late hbase hfew hline rfl (thn (ho pins s σ H _ I h) fun v s1 ⟨x, H1, I1, r1, ty, q1⟩ => ?_)
  obtain ⟨h1, h2⟩ := tyV_is I1 r1 ty
  refine ⟨T, id, pa, slot, hty, h1, h2, ?_⟩
  have hA := ha cpos pins s1 σ H1 _ I1 q1
  rw [hs] at hA ⊢
  refine Calls.callWith_builtin (by show (false || (backTo cpos (starEach es X.env)).any (·.1)) = false; rw [hplain] <;> rfl) (Calls.evalArgs_plain ?_)
  exact thn hA fun us s2 ⟨vs, H2, I2, r2, q2⟩ => hm pins s2 σ H2 x vs v us Q I2 r1 r2 q2
/- xs.append(e), list.index on a module's tuple .. are MtR facts of 06m -/
end
end L2
namespace L2
open PySem PySem.Spec PyProof.Rows
def MtM (X : Cx) (id : String) (r : V → List V → Hp → VK → Prop) : Prop :=
  ∀ (pins : List (Addr × Obj)) (s : Shared) (σ : St) (H : Hp) (x : V) (xs : List V) (v : Value) (us : List Value) (Q : VK), Inv X pins σ H s → RelV x v → Vals xs us → r x xs H Q →
    wpAny (model X.prog X.w) X.A (call (.builtin id) (v :: us)) (EP X pins σ Q) X.xe s
theorem Vals.one : ∀ {x : V} {us : List Value}, Vals [x] us → ∃ u, us = [u] ∧ RelV x u
  | _, _, .cons r .nil => ⟨_, rfl, r⟩
theorem Vals.two : ∀ {x y : V} {us : List Value}, Vals [x, y] us → ∃ u v, us = [u, v] ∧ RelV x u ∧ RelV y v
  | _, _, _, .cons r (.cons q .nil) => ⟨_, _, rfl, r, q⟩
theorem Vals.zero : ∀ {us : List Value}, Vals [] us → us = []
  | _, .nil => rfl
theorem Vals.dropLast {xs : List V} {us : List Value} (h : Vals xs us) : Vals xs.dropLast us.dropLast := by
  induction h with
  | nil => exact .nil
  | cons r t ih =>
    cases t with
    | nil => exact .nil
    | cons q t' => exact .cons r ih
theorem erase_last {α : Type} (l : List α) : l.eraseIdx (l.length - 1) = l.dropLast := by
  induction l with
  | nil => rfl
  | cons a r ih =>
    cases r with
    | nil => rfl
    | cons b r =>
      have e : (a :: b :: r).length - 1 = ((b :: r).length - 1) + 1 := by
        have h1 : (a :: b :: r).length = r.length + 2 := rfl
        have h2 : (b :: r).length = r.length + 1 := rfl
        omega
      rw [e, List.eraseIdx_cons_succ, ih]
      all_goals rfl
section
variable {X : Cx} {pins : List (Addr × Obj)} {σ : St} {H : Hp} {s : Shared} {l b : Addr} {xs ys zs : List V}
theorem Inv.lset {its its' : List Value} {n : Nat} {f : Array Value → Array Value} {t' : Nat} (I : Inv X pins σ H s) (hH : H l = some (.lst xs))
    (e : s.heap.get? l = some { cls := .type "list", data := .seq its.toArray n }) (hf : f its.toArray = its'.toArray) (hv : Vals ys its') (hz : ys.length ≤ sizeLine) :
    Inv X pins σ (upd H l (.lst ys)) { s with heap := s.heap.update l (Obj.mapSeq f), toks := t' } := by
  have q := PySem.IsL.update e f
  rw [hf] at q
  refine I.write (x := l) (e := l) (by rw [hH]; exact trivial) (.inl rfl) (fun b' u hb hu => (Heap.get?_update_other s.heap (Obj.mapSeq f) (Ne.symm hb)).trans hu) ⟨_, q⟩ ?_
  exact ⟨hz, its', _, hv, q⟩
theorem Inv.lnew {its : List Value} {t' : Nat} (I : Inv X pins σ H s) (hv : Vals ys its) (hz : ys.length ≤ sizeLine) :
    Inv X pins σ (upd H s.heap.objs.size (.lst ys)) { s with heap := s.heap.push { cls := .type "list", data := .seq its.toArray }, toks := t' } :=
  I.laid (fun _ _ q => Heap.get?_push_of_some _ q) (Nat.le_refl _) ⟨hz, its, 0, hv, Heap.get?_push_size _ rfl⟩
theorem Inv.fresh (I : Inv X pins σ H s) : H s.heap.objs.size = none := I.hok.fresh (Nat.le_refl _)
theorem Inv.lstM (I : Inv X pins σ H s) (hH : H l = some (.lst xs)) : xs.length ≤ sizeLine ∧ ∃ (its : List Value) (n : Nat), Vals xs its ∧ xs.length = its.length ∧ s.heap.get? l = some { cls := .type "list", data := .seq its.toArray n } := by
  obtain ⟨z, its, n, r, e⟩ := I.hok l _ hH
  exact ⟨z, its, n, r, r.length, e⟩
theorem notLongL {n : Nat} (h : n ≤ sizeLine) : Builtin.List.listTooLong n = false := by
  unfold Builtin.List.listTooLong
  exact decide_eq_false (by omega)
end
section
variable {X : Cx}
def rAppend : V → List V → Hp → VK → Prop := fun x vs H Q => ∃ l xs y, x = .ref l ∧ vs = [y] ∧ H l = some (.lst xs) ∧ xs.length < sizeLine ∧ Q .non (upd H l (.lst (xs ++ [y])))
theorem mt_append : MtM X "list.append" rAppend := by
  intro pins s σ H x vs v us Q I rx rv h
  obtain ⟨l, xs, y, rfl, rfl, hH, hz, q⟩ := h
  cases rx
  obtain ⟨u, rfl, ru⟩ := rv.one
  obtain ⟨z, its, n, r, hl, e⟩ := I.lstM hH
  refine call_meets F.slot_list_append ⟨_, e, rfl⟩ F.entry_list_append (F.args_list_append_2 _ _) (PySem.list_append l its.toArray n u (by rw [List.size_toArray]; omega)) ⟨e, ?_⟩
  refine ⟨.non, _, I.lset (its' := its ++ [u]) hH e (by simp) (r.append (.cons ru .nil)) ?_, rfl, q⟩
  rw [List.length_append, List.length_singleton]
  omega
def rExtend : V → List V → Hp → VK → Prop := fun x vs H Q => ∃ l b xs zs, x = .ref l ∧ vs = [.ref b] ∧ H l = some (.lst xs) ∧ H b = some (.lst zs) ∧ xs.length + zs.length ≤ sizeLine ∧ Q .non (upd H l (.lst (xs ++ zs)))
theorem mt_extend : MtM X "list.extend" rExtend := by
  intro pins s σ H x vs v us Q I rx rv h
  obtain ⟨l, b, xs, zs, rfl, rfl, hH, hB, hz, q⟩ := h
  cases rx
  obtain ⟨u, rfl, ru⟩ := rv.one
  cases ru
  obtain ⟨z, its, n, r, hl, e⟩ := I.lstM hH
  obtain ⟨z2, its2, n2, r2, hl2, e2⟩ := I.lstM hB
  have hsz : its.toArray.size + its2.toArray.size ≤ sizeLine := by rw [List.size_toArray, List.size_toArray]; omega
  have hlong : ¬ (!its.toArray.isEmpty && Builtin.List.listTooLong (its.toArray.size + its2.toArray.size)) = true := by
    rw [notLongL hsz, Bool.and_false]
    exact Bool.false_ne_true
  refine call_meets F.slot_list_extend ⟨_, e, rfl⟩ F.entry_list_extend (F.args_list_extend_2 _ _)
    (AutoSeq1.list_extend_list_list_0 l its.toArray n b its2.toArray n2 hlong (by rw [List.size_toArray]; omega) (by omega)) ⟨e, e2, ?_⟩
  refine ⟨.non, _, I.lset (its' := its ++ its2) hH e (by simp) (r.append r2) ?_, rfl, q⟩
  rw [List.length_append]
  omega
def rPop : V → List V → Hp → VK → Prop := fun x vs H Q => ∃ l xs y, x = .ref l ∧ vs = [] ∧ H l = some (.lst xs) ∧ xs[xs.length - 1]? = some y ∧ Q y (upd H l (.lst xs.dropLast))
theorem mt_pop : MtM X "list.pop" rPop := by
  intro pins s σ H x vs v us Q I rx rv h
  obtain ⟨l, xs, y, rfl, rfl, hH, hy, q⟩ := h
  cases rx
  have hus := rv.zero
  subst hus
  obtain ⟨z, its, n, r, hl, e⟩ := I.lstM hH
  obtain ⟨u, hu, ru⟩ := r.get hy
  have hy' : its.toArray[its.toArray.size - 1]? = some u := by
    show its.toArray[its.length - 1]? = some u
    rw [← Array.getElem?_toList, ← hl]
    exact hu
  refine call_meets F.slot_list_pop ⟨_, e, rfl⟩ F.entry_list_pop (F.args_list_pop_1 _) (MeetsSeq.list_pop_last l its.toArray n u hy' (by rw [List.size_toArray]; omega)) ⟨e, ?_⟩
  refine ⟨y, _, I.lset (its' := its.dropLast) hH e ?_ r.dropLast ?_, ru, q⟩
  · show its.toArray.eraseIdxIfInBounds (its.toArray.size - 1) = its.dropLast.toArray
    rw [List.size_toArray, List.eraseIdxIfInBounds_toArray, erase_last]
  · rw [List.length_dropLast]
    omega
def rCat : R2 := fun x y H Q => ∃ l b xs zs, x = .ref l ∧ y = .ref b ∧ H l = some (.lst xs) ∧ H b = some (.lst zs) ∧ xs.length + zs.length ≤ sizeLine ∧ ∀ p, H p = none → Q (.ref p) (upd H p (.lst (xs ++ zs)))
theorem op_cat : OpR X (binaryOp .Add) rCat := by
  intro pins s σ H x y v u Q I rx ry h
  obtain ⟨l, b, xs, zs, rfl, rfl, hH, hB, hz, q⟩ := h
  cases rx
  cases ry
  obtain ⟨z, its, n, r, hl, e⟩ := I.lstM hH
  obtain ⟨z2, its2, n2, r2, hl2, e2⟩ := I.lstM hB
  refine PySem.P.add_list e e2 ?_ (by rw [List.size_toArray, List.size_toArray]; omega)
  have ea : its.toArray ++ its2.toArray = (its ++ its2).toArray := by simp
  rw [ea]
  exact ⟨.ref _, _, I.lnew (t' := s.toks) (r.append r2) (by rw [List.length_append]; omega), rfl, q _ I.fresh⟩
end
section
variable {prog : Program} {w : World} {A : Around} {E : Value → Shared → Prop} {s : Shared}
end
section
variable {X : Cx}
end
end L2
namespace Att
open PySem PySem.W PySem.Calls PyProof.Rows
theorem ints_of_wellAll {P : Params} {h : Heap} : ∀ (ns : List Int) (vs : List Value), WellAll P h vs (ns.map WData.int) → IntsAre vs ns := by
  intro ns
  induction ns with
  | nil =>
    intro vs w
    rw [List.map_nil] at w
    cases w
    exact .nil
  | cons n ns ih =>
    intro vs w
    rw [List.map_cons] at w
    cases w with
    | cons a b =>
      cases a
      exact .cons _ _ (ih _ b)
theorem script_of {l : OpenLaw} {n : Nat} (hn : l.most = some n) {P : Params} {h : Heap} {args : List WData} {vals : List Value}
    (hpre : l.row.toRowW.claim.pre args = true) (hwl : WellAll P h vals args) :
    ∃ a vs ns, vals = [Value.ref a] ∧ args = [WData.list (ns.map WData.int)] ∧ h.get? a = some { cls := .type "list", data := .seq vs.toArray } ∧ IntsAre vs ns ∧ ns.length ≤ n := by
  have hsh : WShape.hasAll [] args [.list .int] = true := (pre_splitW hpre).1
  have hc : l.pre.holds [] { args := args } = true := (pre_splitW hpre).2
  obtain ⟨d, r, rfl, h1, h2⟩ := hasAllW_cons hsh
  obtain rfl := hasAllW_nil h2
  obtain ⟨xs, rfl, h3⟩ := hasW_list h1
  obtain ⟨ns, rfl⟩ := items_int h3
  have hlen : ns.length ≤ n := by
    unfold OpenLaw.pre at hc
    have h4 : (WTm.not (.lt (.lit (.int (n : Int))) (.len (.arg 0)))).holds [] { args := [.list (ns.map .int)] } = true := by
      have h4 := (holds_andW hc).1
      rw [hn] at h4
      exact h4
    have h5 := condW_of h4 (w_not (w_lt w_lit (w_len_list (w_arg rfl))))
    rw [List.length_map] at h5
    refine Nat.le_of_not_lt fun q => ?_
    have q' : (n : Int) < ((ns.length : Nat) : Int) := by omega
    first
      | (rw [decide_eq_true q'] at h5; exact absurd h5 (by decide))
      | (simp at h5; omega)
  cases hwl with
  | cons w1 w2 =>
    cases w2
    cases w1 with
    | list ho hall => exact ⟨_, _, ns, rfl, rfl, ho, ints_of_wellAll ns _ hall, hlen⟩
theorem post_true (l : OpenLaw) (args : List WData) : l.row.toRowW.claim.post args (.bool true) args = true :=
  postW_of (r := l.row.toRowW) (X := (true == true))
    (show WShape.has [] (.bool true) .bool = true by first | rfl | decide | simp [WShape.has, WShape.arms, WShape.armsAll])
    (show (WTm.eq .res (.lit (.bool true))).value [] { args := args, res := some (.bool true), after := args } = some (.bool (true == true)) from w_eq_bool (w_res rfl) w_lit) rfl
theorem attach_call {l : OpenLaw} {n : Nat} {q : Program} {loose : List Str} {XP : (Str → Option Value) → Heap → Prop} {YP : World → Heap → Prop} {d : DefRec}
    (hn : l.most = some n) (hdf : d.params.defaults = [])
    (call : ∀ (w : World) (s₀ s₁ : Shared) (mg mb : Str → Option Value) (fa : Addr) (o : Obj) (pm cd doc : Value) (a : Addr) (vs : List Value) (ns : List Int),
      Ground q loose [] XP w s₀ mg mb s₁.heap → YP w s₁.heap →
      s₁.heap.get? fa = some o → o.data = .func (docDef d.name d.params d.body d.scope pm cd doc) → s₁.heap.CodeRec cd d.name → mg d.name = some (.ref fa) →
      s₁.heap.get? a = some { cls := .type "list", data := .seq vs.toArray } → IntsAre vs ns → ns.length ≤ n → s₁.gens = #[] →
      codeAny (model l.prog w) callerA (.call (.ref fa) ⟨[.ref a], []⟩) (fun r s' => r = .ok (.ret (.bool true)) ∧ OldK s₁.heap s'.heap ∧ s'.os = s₁.os ∧ AllBare s'.gens) s₁) :
    WalkO q loose XP YP l.row.toRowW d [] (fun f vs => PySem.call f vs) := by
  intro w s₀ s₁ mg mb G Y fa o pm cd doc dV kV ho hd hcd hD hmg hg args vals as hpre hlay hrd hwl hlo
  obtain rfl : dV = .none := Dflts.none hD hdf
  obtain rfl : kV = .none := Dflts.noKw hD
  obtain ⟨a, vs, ns, rfl, rfl, hobj, hints, hlen⟩ := script_of hn hpre hwl
  refine enter_call (codeAny_mono (call w s₀ s₁ mg mb fa o pm cd doc a vs ns G Y ho (fd_plain hd) hcd hmg hobj hints hlen hg) fun r s' hq => ?_)
  obtain ⟨rfl, h2, h3, h4⟩ := hq
  exact ⟨.inl ⟨.bool true, .bool true, [], rfl, fun _ => rfl, .bool true, post_true l _, fun _ => ⟨List.Pairwise.nil, fun _ hm => (nomatch hm)⟩⟩, h2, h3, h4⟩
section
variable {prog : Program} {w : World} {A : Around} {E : Value → Shared → Prop} {s : Shared} {K : Frag}
def ledger (h : Heap) (L d : Addr) : List (Addr × Obj) := (List.range h.objs.size).filterMap fun a => if a = L ∨ a = d then none else (h.get? a).map fun o => (a, o)
end
end Att
namespace L2
open PySem PySem.Spec PyProof.Rows
theorem vals_ints : ∀ {vs : List Value} {ns : List Int}, IntsAre vs ns → Vals (ns.map V.int) vs
  | _, _, .nil => .nil
  | _, _, .cons n t h => .cons ⟨t, rfl⟩ (vals_ints h)
def Only (H : Hp) : Prop := ∀ b, H b = none ∨ ∃ o xs, H b = some (.frz o (.lst xs))
theorem law_call {P : Program} {w : World} {K : PySem.W.Frag} {mg mb : Str → Option Value} {CX : CXT} {k : Nat} {fa a : Addr} {fd : FuncData} {x : Str} {sp : Sp} {s₁ : Shared} {vs : List Value} {ns : List Int}
    (KX : K.In s₁.heap) (hns : s₁.heap.Ns mainGlobals mg) (hb : s₁.heap.Ns builtinsNs mb) (hbb : ∀ x : Str, x ≠ "__name__" → mb x = bootBuiltins x) (hlim : s₁.heap.NoLimit) (hg : s₁.gens = #[])
    (ha : s₁.heap.get? a = some { cls := .type "list", data := .seq vs.toArray }) (hi : IntsAre vs ns) (hl : ns.length ≤ sizeLine) (hr : Room k callerA)
    (F : ∀ base : Heap, K.In base → base.Ns mainGlobals mg → FnOk P w K mg base CX k fa fd [x] sp) (hbind : ∀ (s : Shared) (u : Value), BindsTo s fd ⟨[u], []⟩ [(x, u)])
    (hsp : ∀ H : Hp, Only H → SqL K H a (ns.map V.int) → sp [.ref a] H (fun v _ => v = .bl true) fun _ _ _ => False)
    (hCX : ∀ H e s', CX [] H s₁ (fun _ _ _ => False) e s' → False) :
    codeAny (model P w) callerA (.call (.ref fa) ⟨[.ref a], []⟩) (fun r s' => r = .ok (.ret (.bool true)) ∧ OldK s₁.heap s'.heap ∧ s'.os = s₁.os ∧ AllBare s'.gens) s₁ := by
  have rv := vals_ints hi
  have lenV := hi.length
  -- from an abstract heap in which nothing but the script may be tracked
  have core : ∀ H : Hp, Only H → SqL K H a (ns.map V.int) → HOk P w H s₁.heap → (∀ b, H b ≠ none → b = a) → (H a ≠ none → K.lookup a = none) →
      codeAny (model P w) callerA (.call (.ref fa) ⟨[.ref a], []⟩) (fun r s' => r = .ok (.ret (.bool true)) ∧ OldK s₁.heap s'.heap ∧ s'.os = s₁.os ∧ AllBare s'.gens) s₁ := by
    intro H hO hS hok hA hK
    have base_of : ∀ {b : Addr} {o : Obj}, s₁.heap.get? b = some o → H b = none → (hidT s₁.heap H).get? b = some o := fun e n => hidT_get e n
    have noA : ∀ {b : Addr} {o : Obj} {es : Array DictEntry} {ep : Nat}, s₁.heap.get? b = some o → o.data = .dict es ep → H b = none := fun {b o es ep} e d => by
      cases q : H b with
      | none => rfl
      | some u =>
        have e' : b = a := hA b (by rw [q]; simp)
        subst e'
        rw [ha] at e; cases e
        have d' : Data.seq vs.toArray _ = Data.dict es ep := d
        cases d'
    have nsK : ∀ {b : Addr} {m : Str → Option Value}, s₁.heap.Ns b m → (hidT s₁.heap H).Ns b m := fun {b m} ⟨o, es, ep, e, d, r⟩ => ⟨o, es, ep, base_of e (noA e d), d, r⟩
    have hKb : K.In (hidT s₁.heap H) := fun b o e => base_of (KX b o e) (by
      cases q : H b with
      | none => rfl
      | some u =>
        have e' : b = a := hA b (by rw [q]; simp)
        subst e'
        rw [hK (by rw [q]; simp)] at e; cases e)
    have hM : Mod K mg (hidT s₁.heap H) := ⟨hKb, nsK hns, ⟨mb, nsK hb, hbb⟩, let ⟨mc, h1, h2⟩ := hlim; ⟨mc, nsK h1, h2⟩⟩
    have e0 : Env0 P w K mg (hidT s₁.heap H) callerA [] s₁ H := ⟨rfl, hM, fun b o e => of_hidT e, Nat.le_of_eq (hidT_size _ _), trivial, fun b hb => absurd (show b ∈ ([] : List Addr) from hb) (by simp), hok, .of_eq hg⟩
    refine codeAny_mono ((F _ hKb (nsK hns)).run callerA [] s₁ H ⟨[.ref a], []⟩ [.ref a] [.ref a] _ _ hr e0 (hbind s₁ (.ref a)) (.cons rfl .nil) (hsp H hO hS)) fun r s' h => ?_
    cases r with
    | error e => exact (hCX H e s' h).elim
    | ok fl =>
      cases fl with
      | next => exact False.elim h
      | brk => exact False.elim h
      | cont => exact False.elim h
      | ret u =>
        obtain ⟨v, H', os, bare, un, hok', r', q⟩ := h
        have q' : v = .bl true := q
        subst q'
        obtain rfl : u = Value.bool true := r'
        refine ⟨rfl, OldK.of_keep fun b o e => ?_, os, bare⟩
        cases q : H b with
        | none => exact un.keep b o e q (by intro z; exact absurd (show b ∈ ([] : List Addr) from z) (by simp)) (by simp)
        | some u =>
          rcases hO b with z | ⟨ob, xs, z⟩
          · rw [q] at z; cases z
          · have z2 := un.frzs b ob _ z
            obtain ⟨e1, _⟩ := hok b _ z
            obtain ⟨e2, _⟩ := hok' b _ z2
            rw [e] at e1; cases e1
            exact e2
  cases hk : K.lookup a with
  | some o =>
    -- the script is one of the module's own objects
    have e := KX a o hk
    rw [ha] at e
    cases e
    refine core (fun _ => none) (fun _ => .inl rfl) (.inr ⟨_, vs.toArray, _, hk, rfl, rfl, rfl, by rw [List.size_toArray, lenV]; exact hl, by simpa using rv⟩) (fun b u z => by have z' : (none : Option HO) = some u := z; cases z') (fun b z => absurd rfl z) fun z => absurd rfl z
  | none =>
    refine core (fun b => if b = a then some (.frz { cls := .type "list", data := .seq vs.toArray } (.lst (ns.map V.int))) else none) (fun b => ?_) (.inl (.inr ⟨{ cls := .type "list", data := .seq vs.toArray }, if_pos rfl⟩)) (fun b u z => ?_) (fun b z => ?_) fun _ => hk
    · by_cases hb : b = a
      · exact .inr ⟨_, _, if_pos hb⟩
      · exact .inl (if_neg hb)
    · by_cases hb : b = a
      · have z' := (if_pos hb).symm.trans z
        cases z'
        subst hb
        exact ⟨ha, by rw [List.length_map]; exact hl, vs, _, rv, ha⟩
      · have z' := (if_neg hb).symm.trans z
        cases z'
    · by_cases hb : b = a
      · exact hb
      · exact absurd (if_neg hb) z
end L2
namespace L2
open PySem PySem.Spec PyProof.Rows
theorem walk_of {l : PySem.W.OpenLaw} {n k : Nat} {q : Program} {loose : List Str} {XP : (Str → Option Value) → Heap → Prop} {YP : World → Heap → Prop} {d : DefRec} {K : Params → PySem.W.Frag} {CX : World → CXT} {sp : World → Sp} {x : Str}
    (hn : l.most = some n) (hn2 : n ≤ sizeLine) (hdf : d.params.defaults = []) (hr : Room k callerA)
    (hY : ∀ (w : World) (h : Heap), YP w h → (K w.params).In h)
    (F : ∀ (w : World) (mg : Str → Option Value) (fa : Addr) (h : Heap), (K w.params).In h → h.Ns mainGlobals mg → mg d.name = some (.ref fa) →
      ∃ fd : FuncData, (∀ (s : Shared) (u : Value), BindsTo s fd ⟨[u], []⟩ [(x, u)]) ∧
        ∀ base : Heap, (K w.params).In base → base.Ns mainGlobals mg → FnOk l.prog w (K w.params) mg base (CX w) k fa fd [x] (sp w))
    (hsp : ∀ (w : World) (H : Hp) (a : Addr) (ns : List Int), ns.length ≤ n → Only H → SqL (K w.params) H a (ns.map V.int) → sp w [.ref a] H (fun v _ => v = .bl true) fun _ _ _ => False)
    (hCX : ∀ (w : World) (H : Hp) (s : Shared) (e : Value) (s' : Shared), CX w [] H s (fun _ _ _ => False) e s' → False) :
    PySem.W.WalkO q loose XP YP l.row.toRowW d [] (fun f vs => PySem.call f vs) := by
  refine Att.attach_call hn hdf fun w s₀ s₁ mg mb fa o pm cd doc a vs ns G Y ho hd hcd hmg hobj hints hlen hg => ?_
  have KX := hY w _ Y
  obtain ⟨fd, hb, hF⟩ := F w mg fa _ KX G.T.g hmg
  exact law_call KX G.T.g G.T.b G.T.builtins G.T.nolimit hg hobj hints (Nat.le_trans hlen hn2) hr hF hb (fun H hO hS => hsp w H a ns hlen hO hS) fun H e s' => hCX w H s₁ e s'
end L2
/- THE LAST THEOREM (shape; LID, My.* are yours):
   My.Adr: a structure of the addresses that your layer names (classes, functions); My.Txt K t: a structure (Prop) of the equations over K;
   My.txt_mk : {K} {implicit addresses ..} (e1 : nsIn K mainGlobals "law" = some (some (.ref f))) (e2 : K.lookup f = some ⟨oc, od, .func (fnOf "law" "law" params body scope dV kV doc pm an cdv ct), sl⟩) (e3 : codeIn K cdv "law" = true) .. : ∃ t, My.Txt K t
(the tactic k_is has no namespace: write k_is) -/
namespace L2
open PySem PySem.Spec PyProof.Rows
def inClass (s : Stmt) (j : Nat) : Stmt := match s with
  | .ClassDef _ _ _ body _ _ _ _ _ _ _ => body.getD j (.Pass ⟨0, 0, 0, 0⟩)
  | _ => .Pass ⟨0, 0, 0, 0⟩
def defArgs (s : Stmt) : Arguments := match s with
  | .FunctionDef _ a _ _ _ _ _ _ _ _ => a
  | _ => { posonlyargs := [], args := [], vararg := none, kwonlyargs := [], kw_defaults := [], kwarg := none, defaults := [] }
def defBody (s : Stmt) : List Stmt := match s with
  | .FunctionDef _ _ b _ _ _ _ _ _ _ => b
  | _ => []
def defScope (s : Stmt) : Scope := match s with
  | .FunctionDef _ _ _ _ _ _ sc _ _ _ => sc
  | _ => { kind := .function, names := [], isGenerator := false, isCoroutine := false }
abbrev CX0 : CXT := fun _ _ _ _ _ _ => False
abbrev E0 : XK := fun _ _ _ => False
theorem pass0 {X : Cx} : Passes CX0 X E0 := fun _ _ _ _ _ _ _ h => h.elim
structure Fun (K : PySem.W.Frag) (x qual : Str) (st : Stmt) (f : Addr) (fd : FuncData) : Prop where
  ex : ∃ (oc : Value) (od : Option Addr) (kV doc pm : Value) (an : Option Addr) (cdv ct : Value) (osl : Array (Option Value)),
    fd = PySem.W.fnOf x qual (defArgs st) (defBody st) (defScope st) .none kV doc pm an cdv ct ∧ K.lookup f = some ⟨oc, od, .func fd, osl⟩ ∧ PySem.W.codeIn K cdv qual = true
  kp : PySem.W.keepIn K (.ref f) = true
section
variable {P : Program} {w : World} {K : PySem.W.Frag} {mg : Str → Option Value} {base : Heap}
theorem Fun.ok {x qual : Str} {st : Stmt} {f : Addr} {fd : FuncData} {N ps : List Str} {k : Nat} {sp : Sp} (F : Fun K x qual st f fd) (S : FnScope N ps (defScope st)) (len : ∀ vs H Q E, sp vs H Q E → vs.length = ps.length)
    (hbody : ∀ (cdv : Value) (A : Around) (outer : List Env) (s : Shared) (H : Hp) (vs : List V) (Q : VK) (E : XK), Room k (A.deeper (envOfC qual (defScope st) s.heap.objs.size f cdv)) → sp vs H Q E →
      ∃ t, PSs (cxOf CX0 P w K mg base N qual (defScope st) f cdv A outer s H E).nox (defBody st) t ∧ t { nx := fun _ H' => Q .non H', rt := Q } (start N vs) H) : FnOk P w K mg base CX0 (k + 1) f fd ps sp := by
  obtain ⟨oc, od, kV, doc, pm, an, cdv, ct, osl, rfl, lk, hcd⟩ := F.ex
  refine fn_of lk hcd S len fun A outer s H vs Q E hr hsp => ?_
  obtain ⟨t, h, q⟩ := hbody cdv A outer s H vs Q E hr hsp
  exact ⟨t, h.nox, q⟩
theorem Fun.binds {x qual : Str} {st : Stmt} {f : Addr} {fd : FuncData} {ps : List Str} (F : Fun K x qual st f fd)
    (h : ∀ (kV doc pm : Value) (an : Option Addr) (cdv ct : Value) (us : List Value), us.length = ps.length → bindArgs (PySem.W.fnOf x qual (defArgs st) (defBody st) (defScope st) .none kV doc pm an cdv ct) ⟨us, []⟩ = pure (ps.zip us)) : Binds K fd ps [] := by
  obtain ⟨oc, od, kV, doc, pm, an, cdv, ct, osl, rfl, lk, hcd⟩ := F.ex
  exact .all (h kV doc pm an cdv ct)
theorem fun_mk {x qual : Str} {st : Stmt} {f : Addr} {oc : Value} {od an : Option Addr} {osl : Array (Option Value)} {kV doc pm cdv ct : Value} (l : K.lookup f = some ⟨oc, od, .func (PySem.W.fnOf x qual (defArgs st) (defBody st) (defScope st) .none kV doc pm an cdv ct), osl⟩)
    (c : PySem.W.codeIn K cdv qual = true) (k : PySem.W.keepIn K (.ref f) = true) : Fun K x qual st f (PySem.W.fnOf x qual (defArgs st) (defBody st) (defScope st) .none kV doc pm an cdv ct) := ⟨⟨oc, od, kV, doc, pm, an, cdv, ct, osl, rfl, l, c⟩, k⟩
end
theorem hu_of {A : Around} {k : Nat} (hr : Room k A) : A.units + 1 < cLine := Nat.lt_of_le_of_lt (Nat.add_le_add_left (by decide : 1 ≤ 64) _) hr.units
section
variable {X : Cx}
theorem pv (i : Nat) {x : Str} {pos : Pos} (hN : X.N[i]? = some x := by rfl) (hv : Vis X.env.scope x := by first | exact Or.inl rfl | exact Or.inr (Or.inl rfl) | exact Or.inr (Or.inr rfl)) (hd : (x == ("__debug__" : Str)) = false := by decide)
    (hcd : (x == ("__classdict__" : Str)) = false := by decide) : PE X (.Name x pos) (tVar i) := pe_var hN hv hd hcd
end
theorem iteF {A B : Prop} (h : B) : if false = true then A else B := by
  rw [if_neg Bool.false_ne_true]
  exact h
theorem iteT {A B : Prop} (h : A) : if true = true then A else B := by
  rw [if_pos rfl]
  exact h
theorem ite2 {c A B : Prop} [Decidable c] (h1 : c → A) (h2 : ¬ c → B) : if c then A else B := by
  by_cases h : c
  · rw [if_pos h]
    exact h1 h
  · rw [if_neg h]
    exact h2 h
theorem iteNS {c A B : Prop} [Decidable c] (hc : c) (h : B) : if (!decide c) = true then A else B := by
  rw [decide_eq_true hc]
  exact iteF h
def Same (H H' : Hp) : Prop := ∀ b o, H b = some o → H' b = some o
theorem Same.refl (H : Hp) : Same H H := fun _ _ h => h
theorem Same.trans {H H1 H2 : Hp} (a : Same H H1) (b : Same H1 H2) : Same H H2 := fun c o h => b c o (a c o h)
theorem Same.free {H H' : Hp} (e : Same H H') {l : Addr} (h : H' l = Option.none) : H l = Option.none := by
  cases q : H l with
  | none => rfl
  | some o =>
    rw [e l o q] at h
    cases h
theorem Same.seq {K : PySem.W.Frag} {H H' : Hp} {a : Addr} {xs : List V} (e : Same H H') (h : SqL K H a xs) : SqL K H' a xs := by
  rcases h with (h | ⟨o, h⟩) | h
  · exact .inl (.inl (e _ _ h))
  · exact .inl (.inr ⟨o, e _ _ h⟩)
  · exact .inr h
end L2
namespace L2
open PySem PySem.Spec PyProof.Rows
theorem relabel_some {env : Env} : ∀ {names : List (Str × NameKind)} {y : Str} {k : NameKind}, names.lookup y = some k →
    ∃ k', (names.map fun (n, k) => if (k == NameKind.free && env.scope.kind == .function && env.kindOf n == some .cell) then (n, NameKind.cell) else (n, k)).lookup y = some k' ∧ (k' = k ∨ (k = .free ∧ k' = .cell))
  | [], _, _, h => by simp at h
  | (n, j) :: r, y, k, h => by
    show ∃ k', List.lookup y ((if (j == NameKind.free && env.scope.kind == .function && env.kindOf n == some .cell) = true then (n, NameKind.cell) else (n, j)) :: _) = some k' ∧ _
    by_cases hy : (y == n) = true
    · rw [List.lookup_cons, hy] at h
      cases h
      by_cases hc : (j == NameKind.free && env.scope.kind == .function && env.kindOf n == some .cell) = true
      · rw [if_pos hc, List.lookup_cons, hy]
        refine ⟨_, rfl, .inr ⟨?_, rfl⟩⟩
        rw [Bool.and_eq_true, Bool.and_eq_true] at hc
        exact eq_of_beq hc.1.1
      · rw [if_neg hc, List.lookup_cons, hy]
        exact ⟨_, rfl, .inl rfl⟩
    · have hy' : (y == n) = false := by simpa using hy
      rw [List.lookup_cons, hy'] at h
      obtain ⟨k', e, z⟩ := relabel_some (env := env) h
      refine ⟨k', ?_, z⟩
      by_cases hc : (j == NameKind.free && env.scope.kind == .function && env.kindOf n == some .cell) = true
      · rw [if_pos hc, List.lookup_cons, hy']; exact e
      · rw [if_neg hc, List.lookup_cons, hy']; exact e
theorem relabel_none {env : Env} : ∀ {names : List (Str × NameKind)} {y : Str}, names.lookup y = none →
    (names.map fun (n, k) => if (k == NameKind.free && env.scope.kind == .function && env.kindOf n == some .cell) then (n, NameKind.cell) else (n, k)).lookup y = none
  | [], _, _ => rfl
  | (n, j) :: r, y, h => by
    show List.lookup y ((if (j == NameKind.free && env.scope.kind == .function && env.kindOf n == some .cell) = true then (n, NameKind.cell) else (n, j)) :: _) = none
    by_cases hy : (y == n) = true
    · rw [List.lookup_cons, hy] at h
      cases h
    · have hy' : (y == n) = false := by simpa using hy
      rw [List.lookup_cons, hy'] at h
      have e := relabel_none (env := env) h
      by_cases hc : (j == NameKind.free && env.scope.kind == .function && env.kindOf n == some .cell) = true
      · rw [if_pos hc, List.lookup_cons, hy']; exact e
      · rw [if_neg hc, List.lookup_cons, hy']; exact e
structure Blk (X : Cx) (x : Str) (caps : List Nat) (scope : Scope) (cl : List (Str × Addr)) : Prop where
  clos : closureFor scope X.env = pure cl
  nocell : ∀ y ∈ scope.names, y.2 ≠ .cell
  kind : scope.kind = .function
  names : ∀ y ∈ scope.names, y.2 = .local → scope.names.lookup y.1 = some .local
  loc : scope.names.lookup x = some .local
  sub : ∀ y c, cl.lookup y = some c → X.env.cells.lookup y = some c
  has : ∀ y, scope.names.lookup y = some .free → ∃ c, cl.lookup y = some c
  noloc : ∀ y, scope.names.lookup y = some .local → cl.lookup y = none
  nd : (x :: caps.map fun i => X.N.getD i "").Nodup
  cap : ∀ i ∈ caps, ∃ y, X.N[i]? = some y ∧ scope.names.lookup y = some .free ∧ (X.env.scope.names.lookup y = some .cell ∨ X.env.scope.names.lookup y = some .free)
theorem Blk.plain {X : Cx} {x : Str} {scope : Scope} (hk : scope.kind = .function) (h : (scope.names.all fun y => y.2 != .cell && y.2 != .free && (y.2 != .local || scope.names.lookup y.1 == some .local)) = true) (hx : scope.names.lookup x = some .local) : Blk X x [] scope [] where
  clos := closureFor_none fun y hy => by
    have := List.all_eq_true.mp h y hy
    intro e
    rw [e] at this
    simp at this
  nocell := fun y hy e => by
    have := List.all_eq_true.mp h y hy
    rw [e] at this
    simp at this
  kind := hk
  names := fun y hy e => by
    have := List.all_eq_true.mp h y hy
    rw [e] at this
    simpa using this
  loc := hx
  sub := fun y c e => by cases e
  has := fun y e => by
    have := List.all_eq_true.mp h _ (PySem.mem_of_lookup e)
    simp at this
  noloc := fun _ _ => rfl
  nd := by simp
  cap := fun i hi => by cases hi
def Cx.blkN (X : Cx) (x : Str) (caps : List Nat) : List Str := x :: caps.map fun i => X.N.getD i ""
def Cx.blk (X : Cx) (x : Str) (caps : List Nat) (scope : Scope) (cl : List (Str × Addr)) (C : Addr) (fp : List Addr) (s : Shared) (H : Hp) : Cx :=
  { X with N := X.blkN x caps, s₀ := s, H₀ := H, env := compEnvC scope cl C X.env, outer := X.stack, ex := fp, fn := fun y => (scope.names.lookup y == some .local), pn := [], xe := fun _ _ => False }
def capSt (σ : St) (caps : List Nat) : St := caps.map fun i => σ.getD i none
section
variable {X : Cx} {pins : List (Addr × Obj)} {σ : St} {H : Hp} {s : Shared} {x : Str} {caps : List Nat} {scope : Scope} {cl : List (Str × Addr)} {fp : List Addr} {C : Addr}
theorem Blk.ok (B : Blk X x caps scope cl) (I : Inv X pins σ H s) (hf : ∀ b ∈ fp, FpOk X pins H b) (hfl : ∀ b ∈ fp, b < s.heap.objs.size) (hC : s.heap.objs.size ≤ C) : (X.blk x caps scope cl C fp s H).Ok where
  mod := I.ok.mod
  kind := B.kind
  glob := I.ok.glob
  blt := I.ok.blt
  above := hC
  inj := fun y z c h1 h2 => I.ok.inj y z c (B.sub y c h1) (B.sub z c h2)
  has := fun y hy => by
    cases e : scope.names.lookup y with
    | none =>
      have q : (compEnvC scope cl C X.env).kindOf y = none := relabel_none (env := X.env) e
      have hy' : (compEnvC scope cl C X.env).kindOf y = some .cell ∨ (compEnvC scope cl C X.env).kindOf y = some .free := hy
      rw [q] at hy'
      rcases hy' with z | z <;> cases z
    | some k =>
      obtain ⟨k', q, z⟩ := relabel_some (env := X.env) e
      have hy' : (compEnvC scope cl C X.env).kindOf y = some .cell ∨ (compEnvC scope cl C X.env).kindOf y = some .free := hy
      have q' : (compEnvC scope cl C X.env).kindOf y = some k' := q
      rw [q'] at hy'
      have nc := B.nocell _ (PySem.mem_of_lookup e)
      rcases z with rfl | ⟨rfl, rfl⟩
      · rcases hy' with z | z
        · exact absurd (Option.some.inj z) nc
        · cases z; exact B.has y e
      · exact B.has y e
  cab := fun y c h1 h2 => by
    have e : scope.names.lookup y = some .local := eq_of_beq h1
    have h3 : cl.lookup y = some c := h2
    rw [B.noloc y e] at h3
    cases h3
  hd := I.ok.hd
  frames := I.ok.frames
  stk := .inl rfl
  exf := fun b hb => ⟨Nat.ne_of_lt (Nat.lt_of_lt_of_le (hfl b hb) hC), fun y c e => (hf b hb).2.2.2.2.1 y c (B.sub y c e)⟩
  bs := I.bs
  bsz := Nat.le_trans I.ok.bsz I.sz
  noex := fun b o e hb => by
    rcases (hf b hb).2.2.2.1 with z | z
    · exact I.ok.noex b o e z
    · exact absurd (Nat.lt_of_lt_of_le (Heap.lt_size e) (Nat.le_trans I.ok.bsz z)) (Nat.lt_irrefl _)
  exfs := fun b hb z => by
    rcases List.mem_cons.mp (I.stkSub b z) with e | e
    · exact (hf b hb).2.1 e
    · exact (hf b hb).2.2.1 e
  funs := I.stack
  frf := I.stkFree
theorem capN {X : Cx} {caps : List Nat} {x : Str} {j : Nat} {y : Str} (h : (X.blkN x caps)[j + 1]? = some y) : ∃ i, caps[j]? = some i ∧ y = X.N.getD i "" := by
  unfold Cx.blkN at h
  rw [List.getElem?_cons_succ, List.getElem?_map] at h
  cases e : caps[j]? with
  | none => rw [e] at h; cases h
  | some i => rw [e] at h; exact ⟨i, rfl, (Option.some.inj h).symm⟩
theorem Blk.start (B : Blk X x caps scope cl) (I : Inv X pins σ H s) (hf : ∀ b ∈ fp, FpOk X pins H b) (hfl : ∀ b ∈ fp, b < s.heap.objs.size) (hC : s.heap.objs.size < C) {h₁ : Heap} {t : Nat} {m₁ : Str → Option Value} (k : ∀ b o, s.heap.get? b = some o → h₁.get? b = some o)
    (hns : h₁.Ns C m₁) (hD : h₁.get? s.heap.objs.size = some { cls := .type "list", data := .seq #[] 0 }) :
    Inv (X.blk x caps scope cl C fp s H) [] (none :: capSt σ caps) (upd H s.heap.objs.size (.lst [])) { s with heap := h₁, toks := t } := by
  have fr : H s.heap.objs.size = none := I.hok.fresh (Nat.le_refl _)
  have frC : H C = none := I.hok.fresh (Nat.le_of_lt hC)
  refine ⟨B.ok I hf hfl (Nat.le_of_lt hC), rfl, I.bare, Un.laid k (Nat.le_refl _) fr, ⟨m₁, hns, ?_⟩, ?_, ?_, ?_, ?_, ?_, ?_⟩
  · intro j y v e1 e2 e3
    cases j with
    | zero => cases e2
    | succ j =>
      obtain ⟨i, hi, ey⟩ := capN (X := X) e1
      have e2' : (capSt σ caps)[j]? = some (some v) := e2
      unfold capSt at e2'
      rw [List.getElem?_map, hi] at e2'
      have e2'' : σ.getD i none = some v := Option.some.inj e2'
      obtain ⟨y', hy', l1, l2⟩ := B.cap i (List.mem_of_getElem? hi)
      have eyy : y = y' := by rw [ey, List.getD_eq_getElem?_getD, hy']; rfl
      subst eyy
      have hσ : σ[i]? = some (some v) := by
        rw [List.getD_eq_getElem?_getD] at e2''
        cases q : σ[i]? with
        | none => rw [q] at e2''; cases e2''
        | some z => rw [q] at e2''; have : z = some v := e2''; rw [this]
      obtain ⟨c, hc⟩ := B.has y l1
      have hcX := B.sub y c hc
      obtain ⟨m, hn, hl⟩ := I.loc
      obtain ⟨u, ru, lk⟩ := hl i y v hy' hσ (.inr l2)
      refine ⟨u, ru, .inr ⟨?_, c, hc, ?_⟩⟩
      · obtain ⟨k', q, z⟩ := relabel_some (env := X.env) l1
        have q' : (compEnvC scope cl C X.env).kindOf y = some k' := q
        rcases z with rfl | ⟨_, rfl⟩
        · exact .inr q'
        · exact .inl q'
      · rcases lk with ⟨k1, _⟩ | ⟨_, c', hc', z⟩
        · have k1' : X.env.scope.names.lookup y = some .local := k1
          rcases l2 with l2 | l2 <;> rw [l2] at k1' <;> cases k1'
        · rw [hcX] at hc'
          cases hc'
          obtain ⟨o, ho, hd⟩ := z
          exact ⟨o, k c o ho, hd⟩
  · intro y c e
    obtain ⟨v, o, ho, hd⟩ := I.cell y c (B.sub y c e)
    exact ⟨v, o, k c o ho, hd⟩
  · show upd H s.heap.objs.size (.lst []) C = none
    rw [upd_ne (Nat.ne_of_gt hC)]
    exact frC
  · intro y c e
    obtain ⟨v, o, ho, hd⟩ := I.cell y c (B.sub y c e)
    rw [upd_ne (Nat.ne_of_lt (Heap.lt_size ho))]
    exact I.freeC y c (B.sub y c e)
  · intro p hp
    exact absurd (show p ∈ ([] : List (Addr × Obj)) from hp) (by simp)
  · exact I.hok.laid k (Nat.le_refl _) ⟨Nat.zero_le _, [], 0, .nil, hD⟩
  · show (none :: capSt σ caps).length = (X.blkN x caps).length
    unfold capSt Cx.blkN
    simp
theorem Un.sameBut {fs ex : List Addr} {H H1 : Hp} {h h1 h2 : Heap} {a : Addr} (u : Un fs ex H H1 h h1) (sb : Heap.SameBut a h1 h2) (hn : h.get? a = none) : Un fs ex H H1 h h2 where
  keep := fun b o e n h1 h2 => (sb.2 b (by rintro rfl; rw [hn] at e; cases e)).trans (u.keep b o e n h1 h2)
  slot := fun b o e n h1 h2 => by
    obtain ⟨sl, q⟩ := u.slot b o e n h1 h2
    exact ⟨sl, (sb.2 b (by rintro rfl; rw [hn] at e; cases e)).trans q⟩
  free := u.free
  there := fun b o e hx => by
    obtain ⟨o', q⟩ := u.there b o e hx
    exact ⟨o', (sb.2 b (by rintro rfl; rw [hn] at e; cases e)).trans q⟩
  tups := u.tups
  frzs := u.frzs
  tbls := u.tbls
theorem HOk.sameBut {P : Program} {w : World} {H : Hp} {h h2 : Heap} {a : Addr} (ok : HOk P w H h) (sb : Heap.SameBut a h h2) (hn : H a = none) : HOk P w H h2 := fun b u e =>
  (ok b u e).stay (fun c v hc q => (sb.2 c (by
    rintro rfl
    rcases hc with rfl | hc
    · rw [hn] at e; cases e
    · rw [hn] at hc; cases hc)).trans q) (fun _ q => q) fun _ _ q => q
end
def PTs (X : Cx) (ifs : List Expr) (t : TT) : Prop :=
  ∀ (pins : List (Addr × Obj)) (s : Shared) (σ : St) (H : Hp) (Q : Bool → Hp → Prop), Inv X pins σ H s → t σ H Q →
    wpAny (model X.prog X.w) X.A (forIn ifs true fun c r => if r = true then do let ok ← isTrue c X.env (eval c X.env); pure (ForInStep.yield ok) else pure (ForInStep.yield r)) (TP X pins σ Q) X.xe s
def tYes : TT := fun _ H Q => Q true H
theorem pts_nil {X : Cx} : PTs X [] tYes := fun pins s σ H Q I h => wpAny_tests_nil ⟨H, I, h⟩
theorem pts_one {X : Cx} {c : Expr} {t : TT} (h : PT X c t) : PTs X [c] t := fun pins s σ H Q I q => wpAny_tests_one (h pins s σ H Q I q)
def tComp (wi : TI) (tc : TT) (te : TE) (caps : List Nat) : TE := fun σ H Q => wi σ H fun J H1 => ∀ D, H1 D = none → ∃ W : Nat → Nat → Hp → Prop, (∃ m, W 0 m (upd H1 D (.lst []))) ∧ ∀ i m H, W i m H →
  (J.stop i H ∧ Q (.ref D) H) ∨ (J.go i H ∧ ∃ N : Hp → Prop, (∀ H', N H' → ∃ m', m' < m ∧ W (i + 1) m' H') ∧ ∀ x H', J.yld i H x H' →
    tc (some x :: capSt σ caps) H' fun b H3 => if b = true then te (some x :: capSt σ caps) H3 fun y H4 => ∃ ys, H4 D = some (.lst ys) ∧ ys.length < sizeLine ∧ N (upd H4 D (.lst (ys ++ [y]))) else N H3)
section
variable {X : Cx}
theorem pe_comp {elt iter : Expr} {x : Str} {px : Pos} {ifs : List Expr} {scope : Scope} {pos : Pos} {wi : TI} {tc : TT} {te : TE} {caps : List Nat} {cl : List (Str × Addr)}
    (hc : X.calm = true) (B : Blk X x caps scope cl) (hi : PI X (.Name x px) iter wi)
    (ht : ∀ C fp s H, PTs (X.blk x caps scope cl C fp s H) ifs tc) (he : ∀ C fp s H, PE (X.blk x caps scope cl C fp s H) elt te)
    (hs : ∀ v, foldedSetIterable iter X.env v = pure v := by intro _; rfl) : PE X (.ListComp elt [⟨.Name x px, iter, ifs, 0⟩] scope pos) (tComp wi tc te caps) := by
  intro pins s σ H Q I h
  rw [eval_ListComp]
  refine wpAny_comprehension_free (use := none) rfl hs B.clos B.kind B.names (thn (hi pins s σ H _ I h) fun v s1 h1 => thn h1 fun itv s2 h2 => ?_)
  obtain ⟨it, fp, tn, J, H2, rfl, I2, T, st2, f2, q2⟩ := h2
  obtain ⟨W, ⟨m0, w0⟩, turn⟩ := q2 s2.heap.objs.size (I2.hok.fresh (Nat.le_refl _))
  have hfl : ∀ b ∈ fp, b < s2.heap.objs.size := fun b hb => by
    obtain ⟨o, e, _⟩ := T.obj _ _ st2 b hb
    exact Heap.lt_size e
  refine wpAny_newObj_type (wpAny_newFunctionEnv B.nocell (by intro y hy; simp at hy) (fun h₁ hns₁ hsb₁ => ?_) B.kind)
  dsimp only at hns₁ hsb₁ ⊢
  generalize hH2 : s2.heap.push { cls := .type "list", dict := none, data := .seq ([] : List Value).toArray } = HP at hns₁ hsb₁ ⊢
  have hC : HP.objs.size = s2.heap.objs.size + 1 := by rw [← hH2, Heap.size_push]
  have hClt : s2.heap.objs.size < HP.objs.size := by rw [hC]; exact Nat.lt_succ_self _
  have old : ∀ b o, s2.heap.get? b = some o → h₁.get? b = some o := fun b o e =>
    hsb₁.extBut b o (Nat.ne_of_lt (Nat.lt_trans (Heap.lt_size e) hClt)) (Heap.get?_push_of_some _ (hH2 ▸ Heap.get?_push_of_some _ e))
  have hacc : h₁.get? s2.heap.objs.size = some { cls := .type "list", data := .seq #[] 0 } :=
    hsb₁.extBut _ _ (Nat.ne_of_lt hClt) (Heap.get?_push_of_some _ (hH2 ▸ Heap.get?_push_size _ rfl))
  have I3 := B.start (t := s2.toks + ([] : List (Str × Value)).length) I2 f2 hfl hClt old hns₁ hacc
  have st3 : tn 0 h₁ := T.keep _ _ _ st2 fun b hb o e => old b o e
  have stat : ∀ {H' : Hp}, (∀ b ∈ fp, H' b = none) → ∀ b ∈ fp, FpOk (X.blk x caps scope cl HP.objs.size fp s2 H2) [] H' b := fun hn b hb =>
    ⟨hn b hb, ((B.ok I2 f2 hfl (Nat.le_of_lt hClt)).exf b hb).1, (B.ok I2 f2 hfl (Nat.le_of_lt hClt)).exfs b hb, .inl hb, ((B.ok I2 f2 hfl (Nat.le_of_lt hClt)).exf b hb).2, fun p hp => absurd (show p ∈ ([] : List (Addr × Obj)) from hp) (by simp)⟩
  have fr3 : ∀ b ∈ fp, upd H2 s2.heap.objs.size (.lst []) b = none := fun b hb => by
    rw [upd_ne (Nat.ne_of_lt (hfl b hb))]
    exact (f2 b hb).1
  have nd : (X.blkN x caps)[0]? = some x := rfl
  have loop : ∀ s3 : Shared, s3 = { s2 with heap := h₁, toks := s2.toks + ([] : List (Str × Value)).length } →
      codeAny (model X.prog X.w) X.A (.compLoop (.ListComp elt [⟨.Name x px, iter, ifs, 0⟩] scope pos) 0 (.ref it) (.ref s2.heap.objs.size) (compEnvC scope cl HP.objs.size X.env))
        (compPost (model X.prog X.w) X.A X.xe none (EP X pins σ Q) (.ref s2.heap.objs.size) HP.objs.size) s3 := by
    rintro s3 rfl
    refine codeAny_loop rfl (fun n s' => ∃ i σ' H', Inv (X.blk x caps scope cl HP.objs.size fp s2 H2) [] (σ' :: capSt σ caps) H' s' ∧ tn i s'.heap ∧ (∀ b ∈ fp, H' b = none) ∧ W i n H') (fun n s4 hI => ?_) m0 ⟨0, none, _, I3, st3, fr3, w0⟩
    obtain ⟨i, σ4, H4, I4, st4, fr4, w4⟩ := hI
    show wpAny _ X.A ((compTurn (.ListComp elt [⟨.Name x px, iter, ifs, 0⟩] scope pos) 0 (.ref it) (.ref s2.heap.objs.size) (compEnvC scope cl HP.objs.size X.env)).onRaise (fun x => do noteFrame x (compEnvC scope cl HP.objs.size X.env); theTreesLotGoes x)) _ _ s4
    refine wpAny_noted ?_
    rw [compTurn_list]
    refine wpAny_bind (wpAny_standAt (wpAny_bind ?_))
    rcases turn i n H4 w4 with ⟨stop, qn⟩ | ⟨go, N, hN, step⟩
    · refine thn (T.done (X.blk x caps scope cl HP.objs.size fp s2 H2) rfl rfl rfl hc i [] s4 (σ4 :: capSt σ caps) H4 _ I4 (stat fr4) st4 stop) fun r s5 ⟨hr, I5⟩ => ?_
      subst hr
      refine wpAny_pure ?_
      obtain ⟨m, hn, _⟩ := id I5.loc
      refine ⟨m, hn, fun h' sb => ⟨.ref s2.heap.objs.size, H4, ?_, rfl, qn⟩⟩
      have hnC : s2.heap.get? HP.objs.size = none := Heap.get?_none_of_le (Nat.le_of_lt hClt)
      refine I2.call' (ch := fp) (s' := { s5 with heap := h' }) I5.os (Un.sameBut I5.base sb hnC) (I5.hok.sameBut sb I5.free) I5.bare fun b hb => ?_
      obtain ⟨f0, f1, f2', f3, f4, f5⟩ := f2 b hb
      exact ⟨f3, f1, f4, f5⟩
    · refine thn (T.item (X.blk x caps scope cl HP.objs.size fp s2 H2) rfl rfl rfl hc i [] s4 (σ4 :: capSt σ caps) H4 _ I4 (stat fr4) st4 go) fun r s5 ⟨u, hr, h5⟩ => ?_
      subst hr
      refine wpAny_bind (thn h5 fun _ s6 ⟨y, H6, I6, r6, y6, st6, fr6⟩ => ?_)
      have I6' := I6.pinned (stat fr6) (T.obj _ _ st6)
      have again : ∀ {σ7 : Option V} {H7 : Hp} {s7 : Shared}, Inv (X.blk x caps scope cl HP.objs.size fp s2 H2) ([] ++ pinsAt fp s6.heap) (σ7 :: capSt σ caps) H7 s7 → N H7 →
          ∃ m, m < n ∧ ∃ i σ' H', Inv (X.blk x caps scope cl HP.objs.size fp s2 H2) [] (σ' :: capSt σ caps) H' s7 ∧ tn i s7.heap ∧ (∀ b ∈ fp, H' b = none) ∧ W i m H' := fun {σ7 H7 s7} I7 n7 => by
        obtain ⟨m', hm, w7⟩ := hN H7 n7
        refine ⟨m', hm, i + 1, σ7, H7, I7.unpinned, T.keep _ _ _ st6 fun b hb o e => (I7.pin (b, o) (List.mem_append_right _ (List.mem_append_right _ (mem_pinsAt hb e)))).1, fun b hb => ?_, w7⟩
        obtain ⟨o, e, d⟩ := T.obj _ _ st6 b hb
        exact (I7.pin (b, o) (List.mem_append_right _ (List.mem_append_right _ (mem_pinsAt hb e)))).2.1
      have no : ∀ {E : Value → Shared → Prop} (e : Value) (s' : Shared), (X.blk x caps scope cl HP.objs.size fp s2 H2).xe e s' → E e s' := fun _ _ z => False.elim z
      refine wpAny_bind (wpAny_assign_Name (store_ok (X := X.blk x caps scope cl HP.objs.size fp s2 H2) (i := 0) I6' B.nd rfl (.inl (lookup_relabel_local B.loc)) r6 (fun s7 I7 => ?_) (.inr (lookup_relabel_local B.loc))))
      refine wpAny_bind (wpAny_mono (ht _ _ _ _ _ s7 (some y :: capSt σ caps) H6 _ I7 (step y H6 y6)) (fun ok s8 ⟨H8, I8, q8⟩ => ?_) no)
      cases ok with
      | false => exact wpAny_pure ⟨rfl, again I8 q8⟩
      | true =>
        refine wpAny_bind (wpAny_bind (wpAny_mono (he _ _ _ _ _ s8 (some y :: capSt σ caps) H8 _ I8 q8) (fun u s9 ⟨z, H9, I9, r9, ys, hD, hz, q9⟩ => ?_) no))
        refine wpAny_bind (wpAny_mono (mt_append (X := X.blk x caps scope cl HP.objs.size fp s2 H2) _ s9 (some y :: capSt σ caps) H9 (.ref s2.heap.objs.size) [z] (.ref s2.heap.objs.size) [u] (fun _ H10 => N H10) I9 rfl (.cons r9 .nil) ⟨_, ys, z, rfl, rfl, hD, hz, q9⟩) (fun _ s10 ⟨_, H10, I10, _, q10⟩ => ?_) no)
        exact wpAny_pure (wpAny_pure ⟨rfl, again I10 q10⟩)
  exact codeAny_compStart_list (loop _ rfl) (T.self _ _ _ _ _ st3 (loop _ rfl))
theorem comp_list {K : PySem.W.Frag} {a : Addr} {xs : List V} {tc : TT} {te : TE} {cσ : St} {H1 : Hp} {Qd : Hp → Prop} {D : Addr} (Pv : Nat → Hp → Prop) (h0 : Pv 0 (upd H1 D (.lst []))) (hl : ∀ i H, i ≤ xs.length → Pv i H → SqL K H a xs)
    (hs : ∀ i x H, xs[i]? = some x → Pv i H → tc (some x :: cσ) H fun b H3 => if b = true then te (some x :: cσ) H3 fun y H4 => ∃ ys, H4 D = some (.lst ys) ∧ ys.length < sizeLine ∧ Pv (i + 1) (upd H4 D (.lst (ys ++ [y]))) else Pv (i + 1) H3)
    (hd : ∀ H, Pv xs.length H → Qd H) :
    ∃ W : Nat → Nat → Hp → Prop, (∃ m, W 0 m (upd H1 D (.lst []))) ∧ ∀ i m H, W i m H →
      ((Itl K a).stop i H ∧ Qd H) ∨ ((Itl K a).go i H ∧ ∃ N : Hp → Prop, (∀ H', N H' → ∃ m', m' < m ∧ W (i + 1) m' H') ∧ ∀ x H', (Itl K a).yld i H x H' →
        tc (some x :: cσ) H' fun b H3 => if b = true then te (some x :: cσ) H3 fun y H4 => ∃ ys, H4 D = some (.lst ys) ∧ ys.length < sizeLine ∧ N (upd H4 D (.lst (ys ++ [y]))) else N H3) := by
  refine ⟨fun i m H => m = xs.length - i ∧ i ≤ xs.length ∧ Pv i H, ⟨xs.length, by simp, Nat.zero_le _, h0⟩, ?_⟩
  rintro i m H ⟨rfl, hi, p⟩
  have q := hl i H hi p
  by_cases hlt : i < xs.length
  · refine .inr ⟨⟨xs, xs[i], q, by simp [hlt]⟩, Pv (i + 1), fun H' p' => ⟨xs.length - (i + 1), by omega, rfl, hlt, p'⟩, fun x H' y => ?_⟩
    obtain ⟨e, y⟩ := y
    subst e
    exact hs i x _ (y xs q) p
  · have e : i = xs.length := by omega
    subst e
    exact .inl ⟨⟨xs, q, Nat.le_refl _⟩, hd H p⟩
theorem comp_range {lo : Int} {n : Nat} {tc : TT} {te : TE} {cσ : St} {H1 : Hp} {Qd : Hp → Prop} {D : Addr} (Pv : Nat → Hp → Prop) (h0 : Pv 0 (upd H1 D (.lst [])))
    (hs : ∀ i H, i < n → Pv i H → tc (some (.int (lo + i)) :: cσ) H fun b H3 => if b = true then te (some (.int (lo + i)) :: cσ) H3 fun y H4 => ∃ ys, H4 D = some (.lst ys) ∧ ys.length < sizeLine ∧ Pv (i + 1) (upd H4 D (.lst (ys ++ [y]))) else Pv (i + 1) H3)
    (hd : ∀ H, Pv n H → Qd H) :
    ∃ W : Nat → Nat → Hp → Prop, (∃ m, W 0 m (upd H1 D (.lst []))) ∧ ∀ i m H, W i m H →
      ((Itr lo n).stop i H ∧ Qd H) ∨ ((Itr lo n).go i H ∧ ∃ N : Hp → Prop, (∀ H', N H' → ∃ m', m' < m ∧ W (i + 1) m' H') ∧ ∀ x H', (Itr lo n).yld i H x H' →
        tc (some x :: cσ) H' fun b H3 => if b = true then te (some x :: cσ) H3 fun y H4 => ∃ ys, H4 D = some (.lst ys) ∧ ys.length < sizeLine ∧ N (upd H4 D (.lst (ys ++ [y]))) else N H3) := by
  refine ⟨fun i m H => m = n - i ∧ i ≤ n ∧ Pv i H, ⟨n, by simp, Nat.zero_le _, h0⟩, ?_⟩
  rintro i m H ⟨rfl, hi, p⟩
  by_cases hlt : i < n
  · refine .inr ⟨hlt, Pv (i + 1), fun H' p' => ⟨n - (i + 1), by omega, rfl, hlt, p'⟩, fun x H' y => ?_⟩
    obtain ⟨e, y⟩ := y
    subst e y
    exact hs i _ hlt p
  · have e : i = n := by omega
    subst e
    exact .inl ⟨Nat.le_refl _, hd H p⟩
end
def Itrs (lo c : Int) (n : Nat) : It := ⟨fun i _ => i < n, fun i H x H' => H' = H ∧ x = .int (lo + i * c), fun i _ => n ≤ i⟩
theorem turn_rangeS {P : Program} {w : World} {K : PySem.W.Frag} {tg : Expr} (it : Addr) (lo c : Int) (n : Nat) : Turn P w K tg (Itrs lo c n) [it] it (fun i h => IsRangeIter h it (lo + (i : Nat) * c) ((n : Int) - (i : Nat)) c) where
  mem := by simp
  obj := fun i h st b hb => by
    have e : b = it := by simpa using hb
    subst e
    exact ⟨_, st, fun v z => by
      have z' : Data.fields _ = Data.cell v := z
      cases z'⟩
  keep := fun i h h' st k => k it (by simp) _ st
  item := by
    intro X hP hw hK hc i pins s σ H E I hf st hg
    subst hP hw hK
    obtain ⟨f0, f1, f2, f3, f4, f5⟩ := hf it (by simp)
    have W := Walks.range (prog := X.prog) (w := X.w) (I.ok.hd hc) it lo c n
    refine W.item i s _ _ hg st fun v h' tk hv st' kk => ?_
    obtain ⟨t, rfl⟩ := hv
    have I1 : Inv X pins σ H { s with heap := h', toks := tk } := I.turned (fun b o hb e => kk b o (by simpa using hb) e) f0 f1 f3 f4 f5
    exact ⟨_, rfl, go_of (s := { s with heap := h', toks := tk }) (n := "range_iterator") st' rfl rfl (by decide) ⟨.int (lo + i * c), H, I1, ⟨t, rfl⟩, ⟨rfl, rfl⟩, st', fun b hb => (hf b hb).1⟩⟩
  done := by
    intro X hP hw hK hc i pins s σ H E I hf st hg
    subst hP hw hK
    obtain ⟨f0, f1, f2, f3, f4, f5⟩ := hf it (by simp)
    exact wpAny_pyNext_range_end (I.ok.hd hc) st (by have : n ≤ i := hg; omega) fun h' eb => ⟨rfl, I.turned (t' := s.toks) (fun b o hb e => eb b o hb e) f0 f1 f3 f4 f5⟩
  self := fun _ _ _ _ _ st h => wpAny_pyIter_rangeiter st h
end L2
namespace L2
open PySem PySem.Spec PyProof.Rows
theorem small_step {a b c : Int} (ha : -(2 ^ 62) ≤ a) (ha' : a < 2 ^ 62) (hb : -(2 ^ 62) ≤ b) (hb' : b < 2 ^ 62) (hc : 0 < c) (hc' : c < 2 ^ 30) : Builtin.Range.small a b c = true := by
  have hs : 0 ≤ Builtin.Range.rangeSize a b c ∧ Builtin.Range.rangeSize a b c ≤ 2 ^ 63 - 1 := by
    unfold Builtin.Range.rangeSize
    rw [if_pos hc]
    split
    · have h1 : 0 ≤ (b - a - 1) / c := Int.ediv_nonneg (by omega) (by omega)
      have h2 : (b - a - 1) / c ≤ b - a - 1 := Int.ediv_le_self _ (by omega)
      omega
    · omega
  have fit : ∀ i : Int, -(2 ^ 63) ≤ i → i < 2 ^ 63 → Builtin.Range.rangeFitsLong i = true := fun i h1 h2 => by
    unfold Builtin.Range.rangeFitsLong
    rw [Bool.and_eq_true]
    exact ⟨decide_eq_true h1, decide_eq_true h2⟩
  unfold Builtin.Range.small
  rw [if_pos hc, fit a (by omega) (by omega), fit b (by omega) (by omega), fit c (by omega) (by omega), fit (Builtin.Range.rangeSize a b c) (by omega) (by omega), fit (b + (c - 1)) (by omega) (by omega)]
  simp
def iRng3 (ta : TA) : TI := fun σ H R => ta σ H fun vs H1 => ∃ i j c : Int, vs = [.int i, .int j, .int c] ∧ (-(2 ^ 62) ≤ i ∧ i < 2 ^ 62 ∧ -(2 ^ 62) ≤ j ∧ j < 2 ^ 62 ∧ 0 < c ∧ c < 2 ^ 30) ∧ R (Itrs i c (Builtin.Range.rangeSize i j c).toNat) H1
section
variable {X : Cx} {tg : Expr}
theorem range_itS {pins : List (Addr × Obj)} {σ : St} {H : Hp} {s : Shared} {R : It → Hp → Prop} {E : Value → Shared → Prop} {lo hi c : Int} {t u v : Tok} {tk : Nat} (I : Inv X pins σ H s) (h1 : -(2 ^ 62) ≤ lo) (h2 : lo < 2 ^ 62) (h3 : -(2 ^ 62) ≤ hi) (h4 : hi < 2 ^ 62) (h5 : 0 < c) (h6 : c < 2 ^ 30)
    (q : R (Itrs lo c (Builtin.Range.rangeSize lo hi c).toNat) H) : wpAny (model X.prog X.w) X.A (pyIter (.ref s.heap.objs.size)) (PIE X pins σ tg R) E { s with heap := s.heap.push { cls := .type "range", data := .fields #[.int lo t, .int hi u, .int c v] }, toks := tk } := by
  refine wpAny_pyIter_range (IsRange.new ..) (small_step h1 h2 h3 h4 h5 h6) ?_
  have I1 : Inv X pins σ H { s with heap := s.heap.push { cls := .type "range", data := .fields #[.int lo t, .int hi u, .int c v] }, toks := tk } := I.kept fun b o e => Heap.get?_push_of_some _ e
  refine ⟨(s.heap.push { cls := .type "range", data := .fields #[.int lo t, .int hi u, .int c v] }).objs.size, [(s.heap.push { cls := .type "range", data := .fields #[.int lo t, .int hi u, .int c v] }).objs.size], _, _, H, rfl,
    I1.kept (t' := tk) fun b o e => Heap.get?_push_of_some _ e, turn_rangeS _ lo c (Builtin.Range.rangeSize lo hi c).toNat, ?_, fun b hb => ?_, q⟩
  · have hs : 0 ≤ Builtin.Range.rangeSize lo hi c := by
      unfold Builtin.Range.rangeSize
      rw [if_pos h5]
      split
      · have h1 : 0 ≤ (hi - lo - 1) / c := Int.ediv_nonneg (by omega) (by omega)
        omega
      · omega
    have e1 : lo + ((0 : Nat) : Int) * c = lo := by simp
    have e2 : (((Builtin.Range.rangeSize lo hi c).toNat : Nat) : Int) - ((0 : Nat) : Int) = Builtin.Range.rangeSize lo hi c := by omega
    show IsRangeIter _ _ (lo + ((0 : Nat) : Int) * c) ((((Builtin.Range.rangeSize lo hi c).toNat : Nat) : Int) - ((0 : Nat) : Int)) c
    rw [e1, e2]
    exact Heap.get?_push_size _ rfl
  · have e : b = (s.heap.push { cls := .type "range", data := .fields #[.int lo t, .int hi u, .int c v] }).objs.size := by simpa using hb
    subst e
    exact I1.fpOk (Nat.le_refl _) (I1.hok.fresh (Nat.le_refl _))
theorem pi_range3 {a b c : Expr} {ta : TA} {p pos : Pos} (hg : Gl X "range") (hm : X.mg "range" = none) (ha : PA X [a, b, c] ta) (hs : starEach [a, b, c] X.env = (false, eval a X.env) :: starEach [b, c] X.env := by rfl) (hpl : (backTo pos (starEach [b, c] X.env)).any (·.1) = false := by rfl) :
    PI X tg (.Call (.Name "range" p) [a, b, c] [] pos) (iRng3 ta) := by
  intro pins s σ H R I h
  refine Call_ (ld_blt I hg hm boot_range (PyProof.Rows.callWith_type1 (thn (ha pos pins s σ H _ I h) fun us s1 ⟨vs, H1, I1, r1, q1⟩ => ?_) hs hpl))
  obtain ⟨i, j, k, e, ⟨q1, q2, q3, q4, q5, q6⟩, q⟩ := q1
  subst e
  cases r1 with
  | cons r rr =>
    cases rr with
    | cons r' rr =>
      cases rr with
      | cons r'' rr =>
        cases rr
        obtain ⟨t, rfl⟩ := r
        obtain ⟨t', rfl⟩ := r'
        obtain ⟨t'', rfl⟩ := r''
        exact call_range_3 (by omega) (range_itS I1 q1 q2 q3 q4 q5 q6 q) (.inl (PyProof.noPylong_small (by omega)))
end
theorem for_rangeS {lo c : Int} {n : Nat} {g : TG} {tb : TS} {D : Ends} {σ : St} {H : Hp} (Pv : Nat → St → Hp → Prop) (h0 : Pv 0 σ H)
    (hs : ∀ i σ H, i < n → Pv i σ H → g (.int (lo + i * c)) σ H fun σ2 H2 => tb { D with nx := Pv (i + 1), ct := Pv (i + 1), bk := D.nx } σ2 H2) (hd : ∀ σ H, Pv n σ H → D.nx σ H) :
    ∃ W : Nat → Nat → St → Hp → Prop, (∃ m, W 0 m σ H) ∧ ∀ i m σ H, W i m σ H →
      ((Itrs lo c n).stop i H ∧ D.nx σ H) ∨ ((Itrs lo c n).go i H ∧ ∃ N : St → Hp → Prop, (∀ σ' H', N σ' H' → ∃ m', m' < m ∧ W (i + 1) m' σ' H') ∧ ∀ x H', (Itrs lo c n).yld i H x H' → g x σ H' fun σ2 H2 => tb { D with nx := N, ct := N, bk := D.nx } σ2 H2) := by
  refine ⟨fun i m σ H => m = n - i ∧ i ≤ n ∧ Pv i σ H, ⟨n, by simp, Nat.zero_le _, h0⟩, ?_⟩
  rintro i m σ H ⟨rfl, hi, p⟩
  by_cases hlt : i < n
  · refine .inr ⟨hlt, Pv (i + 1), fun σ' H' p' => ⟨n - (i + 1), by omega, rfl, hlt, p'⟩, fun x H' y => ?_⟩
    obtain ⟨e, y⟩ := y
    subst e y
    exact hs i σ _ hlt p
  · have e : i = n := by omega
    subst e
    exact .inl ⟨Nat.le_refl _, hd σ H p⟩
section
variable {X : Cx}
theorem call_sorted : CallR X (.builtin "sorted") (fun xs H Q => ∃ (p : Addr) (ns : List Int), xs = [.ref p] ∧ SqL X.K H p (ns.map V.int) ∧ ns.length < 64 ∧ ∀ (l : Addr) (ns' : List Int), H l = none → ns'.Perm ns → ns'.Pairwise (· ≤ ·) → Q (.ref l) (upd H l (.lst (ns'.map V.int)))) := by
  intro pins s σ H xs us Q I r h
  obtain ⟨p, ns, rfl, hq, h64, q⟩ := h
  obtain ⟨u, rfl, ru⟩ := vals1 r
  cases ru
  obtain ⟨its, rv, pl, hz⟩ := I.list hq
  have hl := rv.length
  rw [List.length_map] at hl hz
  refine sorted_ints pl.isList (intsAre_of rv) (by omega) fun out ns' a1 a2 a3 => ?_
  obtain ⟨e, he⟩ := sortedAll_at s.heap its out
  refine ⟨.ref (s.heap.objs.size + 1), _, I.laid (t' := s.toks) (o := .lst (ns'.map V.int)) (fun b o z => sortedAll_old z) (Nat.le_succ _) ?_, rfl, q _ ns' (I.hok.fresh (Nat.le_succ _)) a2 a3⟩
  refine ⟨?_, out.toList, e, vals_ints a1, ?_⟩
  · rw [List.length_map, a2.length_eq]; exact hz
  · have q' : (seqObj "list" out e : Obj) = { cls := .type "list", data := .seq out.toList.toArray e } := by simp [seqObj]
    rw [← q']; exact he
theorem call_sum (hc : X.calm = true) : CallR X (.builtin "sum") (fun xs H Q => ∃ (p : Addr) (ns : List Int), xs = [.ref p] ∧ SqL X.K H p (ns.map V.int) ∧ Q (.int ns.sum) H) := by
  intro pins s σ H xs us Q I r h
  obtain ⟨p, ns, rfl, hq, q⟩ := h
  obtain ⟨u, rfl, ru⟩ := vals1 r
  cases ru
  obtain ⟨its, rv, pl, hz⟩ := I.list hq
  have hi := intsAre_of rv
  obtain ⟨zs, hzs⟩ := hi.allInts.items
  have hsum : preSum (numAt zs) zs.size = ns.sum := by
    rw [preSum_eq, List.take_of_length_le (by simp), ← nums_intItems, ← hzs]
    show (numsOf its).sum = ns.sum
    rw [hi.numsOf]
  refine sum_intListG (xs := zs) (I.ok.hd hc) (by rw [← hzs]; exact pl.isList) fun h' tk t' hk => ⟨.int ns.sum, H, I.kept hk, ⟨t', ?_⟩, q⟩
  rw [hsum]
def rIndex (K : PySem.W.Frag) : V → List V → Hp → VK → Prop := fun x vs H Q => ∃ (l : Addr) (ns : List Int) (k : Int), x = .ref l ∧ vs = [.int k] ∧ SqL K H l (ns.map V.int) ∧ k ∈ ns ∧ Q (.int (ns.idxOf k : Nat)) H
theorem mt_index : MtM X "list.index" (rIndex X.K) := by
  intro pins s σ H x vs v us Q I rx rv h
  obtain ⟨l, ns, k, rfl, rfl, hq, hk, q⟩ := h
  cases rx
  obtain ⟨u, rfl, ru⟩ := rv.one
  obtain ⟨t, rfl⟩ := ru
  obtain ⟨its, r, pl, hz⟩ := I.list hq
  have hi := intsAre_of r
  have hlen := hi.length
  rw [List.length_map] at hz
  have hs : sizeLine = 16777216 := sizeLine_eq
  have hj : ns.idxOf k < ns.length := List.idxOf_lt_length_iff.mpr hk
  obtain ⟨⟨cls, dd, data, sl⟩, ho, hc, n, hd⟩ := id pl.isList
  simp only at hc hd
  subst hc hd
  refine call_meets PySem.F.slot_list_index ⟨_, ho, rfl⟩ PySem.F.entry_list_index (PySem.F.args_list_index_2 _ _)
    (SeqAt.list_indexAt l its.toArray n dd sl (.int k t) (isInt k) (ns.idxOf k) (by simpa [hlen] using hj) (by omega) ?_ ?_) ⟨ho, fun y hy => (eq_isInt k t hi y (by simpa using hy)).at _ _, ⟨.int (ns.idxOf k : Nat), H, I.tok _, ⟨_, rfl⟩, q⟩⟩
  · show isInt k its[ns.idxOf k] = true
    rw [isInt_at k hi _ (by omega) hj]
    simpa using List.getElem_idxOf hj
  · intro j hjs hlt
    show isInt k its[j] = false
    rw [isInt_at k hi j (by simpa using hjs) (by omega)]
    exact ne_of_lt_idxOf hlt _
def rInsert : V → List V → Hp → VK → Prop := fun x vs H Q => ∃ l xs i y, x = .ref l ∧ vs = [.int i, y] ∧ H l = some (.lst xs) ∧ 0 ≤ i ∧ i ≤ xs.length ∧ xs.length < sizeLine ∧ Q .non (upd H l (.lst (xs.take i.toNat ++ y :: xs.drop i.toNat)))
theorem mt_insert : MtM X "list.insert" rInsert := by
  intro pins s σ H x vs v us Q I rx rv h
  obtain ⟨l, xs, i, y, rfl, rfl, hH, h0, h1, hz, q⟩ := h
  cases rx
  obtain ⟨u, u', rfl, ru, ry⟩ := rv.two
  obtain ⟨t, rfl⟩ := ru
  obtain ⟨z, its, n, r, hl, e⟩ := I.lstM hH
  have hn := line63
  have hfit : ¬ (!Builtin.List.listFitsIndex i) = true := by
    rw [fitsIndex_both (by omega) (by omega)]
    exact Bool.false_ne_true
  refine call_meets F.slot_list_insert ⟨_, e, rfl⟩ F.entry_list_insert (F.args_list_insert_3 _ _ _) (AutoSeq1.list_insert_list_int_val_1 l its.toArray n i t u' hfit (by rw [List.size_toArray]; omega)) ⟨e, ?_⟩
  refine ⟨.non, _, I.lset (its' := its.take i.toNat ++ u' :: its.drop i.toNat) hH e ?_ ((r.take _).append (.cons ry (r.drop _))) ?_, rfl, q⟩
  · have e1 : (if i < 0 then (i + ((its.toArray.size : Nat) : Int)).toNat else min i.toNat its.toArray.size) = i.toNat := by
      rw [if_neg (by omega), List.size_toArray]
      omega
    show ((its.toArray.extract 0 (if i < 0 then (i + ((its.toArray.size : Nat) : Int)).toNat else min i.toNat its.toArray.size)).push u' ++ its.toArray.extract (if i < 0 then (i + ((its.toArray.size : Nat) : Int)).toNat else min i.toNat its.toArray.size)) = _
    rw [e1]
    apply Array.toList_inj.mp
    simp
    exact List.take_of_length_le (by simp)
  · rw [List.length_append, List.length_cons, List.length_take, List.length_drop]
    omega
end
end L2
namespace Ink
abbrev Rs := List (List Int)
def acr (e : Int) : Int := e + 1 - 2 * (e % 2)
theorem acr_acr (e : Int) : acr (acr e) = e := by unfold acr; omega
theorem acr_lt {e : Int} {n : Nat} (hn : n % 2 = 0) (h0 : 0 ≤ e) (h1 : e < n) : 0 ≤ acr e ∧ acr e < n := by unfold acr; omega
def behind (r : List Int) (e : Int) : Int := r.getD ((r.idxOf e + 1) % r.length) e
def nextIn : Rs → Int → Int
  | [], e => e
  | r :: rs, e => if e ∈ r then behind r e else nextIn rs e
theorem behind_mem {r : List Int} {e : Int} (h : e ∈ r) : behind r e ∈ r := by
  have hl : 0 < r.length := List.length_pos_of_mem h
  have hk : (r.idxOf e + 1) % r.length < r.length := Nat.mod_lt _ hl
  unfold behind
  rw [List.getD_eq_getElem?_getD, List.getElem?_eq_getElem hk]
  exact List.getElem_mem hk
theorem behind_inj {r : List Int} {a b : Int} (nd : r.Nodup) (ha : a ∈ r) (hb : b ∈ r) (h : behind r a = behind r b) : a = b := by
  have hl : 0 < r.length := List.length_pos_of_mem ha
  have ka : (r.idxOf a + 1) % r.length < r.length := Nat.mod_lt _ hl
  have kb : (r.idxOf b + 1) % r.length < r.length := Nat.mod_lt _ hl
  unfold behind at h
  rw [List.getD_eq_getElem?_getD, List.getElem?_eq_getElem ka, List.getD_eq_getElem?_getD, List.getElem?_eq_getElem kb] at h
  have e : (r.idxOf a + 1) % r.length = (r.idxOf b + 1) % r.length := (List.getElem_inj nd).mp h
  have la : r.idxOf a < r.length := List.idxOf_lt_length_iff.mpr ha
  have lb : r.idxOf b < r.length := List.idxOf_lt_length_iff.mpr hb
  have key : ∀ x y n : Nat, x < n → y < n → (x + 1) % n = (y + 1) % n → x = y := by
    intro x y n hx hy he
    by_cases h1 : x + 1 = n
    · by_cases h2 : y + 1 = n
      · omega
      · rw [h1, Nat.mod_self, Nat.mod_eq_of_lt (by omega)] at he; omega
    · by_cases h2 : y + 1 = n
      · rw [h2, Nat.mod_self, Nat.mod_eq_of_lt (by omega)] at he; omega
      · rw [Nat.mod_eq_of_lt (by omega), Nat.mod_eq_of_lt (by omega)] at he; omega
  have i : r.idxOf a = r.idxOf b := key _ _ _ la lb e
  have ga := List.getElem_idxOf la
  have gb := List.getElem_idxOf lb
  rw [← ga, ← gb]
  exact getElem_congr rfl i _
theorem nextIn_mem : ∀ {rs : Rs} {e : Int}, e ∈ rs.flatten → nextIn rs e ∈ rs.flatten
  | [], _, h => by simp at h
  | r :: rs, e, h => by
    unfold nextIn
    rw [List.flatten_cons]
    by_cases he : e ∈ r
    · rw [if_pos he]; exact List.mem_append_left _ (behind_mem he)
    · rw [if_neg he]
      refine List.mem_append_right _ (nextIn_mem ?_)
      rw [List.flatten_cons] at h
      exact (List.mem_append.mp h).resolve_left he
theorem nextIn_inj : ∀ {rs : Rs} {a b : Int}, rs.flatten.Nodup → a ∈ rs.flatten → b ∈ rs.flatten → nextIn rs a = nextIn rs b → a = b
  | [], _, _, _, h, _, _ => by simp at h
  | r :: rs, a, b, nd, ha, hb, h => by
    rw [List.flatten_cons] at nd ha hb
    obtain ⟨n1, n2, n3⟩ := List.nodup_append.mp nd
    unfold nextIn at h
    by_cases h1 : a ∈ r
    · by_cases h2 : b ∈ r
      · rw [if_pos h1, if_pos h2] at h
        exact behind_inj n1 h1 h2 h
      · rw [if_pos h1, if_neg h2] at h
        have q := nextIn_mem ((List.mem_append.mp hb).resolve_left h2)
        exact absurd h (n3 _ (behind_mem h1) _ q)
    · by_cases h2 : b ∈ r
      · rw [if_neg h1, if_pos h2] at h
        have q := nextIn_mem ((List.mem_append.mp ha).resolve_left h1)
        exact absurd h.symm (n3 _ (behind_mem h2) _ q)
      · rw [if_neg h1, if_neg h2] at h
        exact nextIn_inj n2 ((List.mem_append.mp ha).resolve_left h1) ((List.mem_append.mp hb).resolve_left h2) h
structure Dr (rs : Rs) (n : Nat) : Prop where
  nd : rs.flatten.Nodup
  mem : ∀ z : Int, z ∈ rs.flatten ↔ 0 ≤ z ∧ z < n
  len : rs.flatten.length = n
  even : n % 2 = 0
def stp (rs : Rs) (e : Int) : Int := nextIn rs (acr e)
theorem Dr.stp_mem {rs : Rs} {n : Nat} (d : Dr rs n) {e : Int} (h0 : 0 ≤ e) (h1 : e < n) : 0 ≤ stp rs e ∧ stp rs e < n :=
  let ⟨a, b⟩ := acr_lt d.even h0 h1
  (d.mem _).mp (nextIn_mem ((d.mem _).mpr ⟨a, b⟩))
theorem Dr.stp_inj {rs : Rs} {n : Nat} (d : Dr rs n) {a b : Int} (ha : 0 ≤ a ∧ a < n) (hb : 0 ≤ b ∧ b < n) (h : stp rs a = stp rs b) : a = b := by
  have e := nextIn_inj d.nd ((d.mem _).mpr (acr_lt d.even ha.1 ha.2)) ((d.mem _).mpr (acr_lt d.even hb.1 hb.2)) h
  rw [← acr_acr a, ← acr_acr b, e]
def itr (f : Int → Int) : Nat → Int → Int
  | 0, x => x
  | k + 1, x => f (itr f k x)
theorem itr_in {f : Int → Int} {n : Nat} (hm : ∀ x : Int, 0 ≤ x ∧ x < n → 0 ≤ f x ∧ f x < n) {x : Int} (hx : 0 ≤ x ∧ x < (n : Int)) : ∀ k, 0 ≤ itr f k x ∧ itr f k x < n
  | 0 => hx
  | k + 1 => hm _ (itr_in hm hx k)
theorem itr_back {f : Int → Int} {n : Nat} (hm : ∀ x : Int, 0 ≤ x ∧ x < n → 0 ≤ f x ∧ f x < n) (hi : ∀ x y : Int, 0 ≤ x ∧ x < n → 0 ≤ y ∧ y < n → f x = f y → x = y) {x : Int} (hx : 0 ≤ x ∧ x < (n : Int)) :
    ∀ i d, itr f (i + d) x = itr f i x → itr f d x = x
  | 0, d, h => by rw [Nat.zero_add] at h; exact h
  | i + 1, d, h => by
    rw [Nat.succ_add] at h
    exact itr_back hm hi hx i d (hi _ _ (itr_in hm hx _) (itr_in hm hx _) h)
theorem nodup_le : ∀ (n : Nat) (l : List Int), l.Nodup → (∀ z ∈ l, 0 ≤ z ∧ z < n) → l.length ≤ n
  | 0, l, _, h => by
    cases l with
    | nil => simp
    | cons a r => have := h a (by simp); omega
  | n + 1, l, nd, h => by
    have e : (l.erase (n : Int)).length ≤ n := nodup_le n _ (nd.erase _) fun z hz => by
      have h1 := h z (List.mem_of_mem_erase hz)
      have h2 : z ≠ n := by
        intro q
        subst q
        exact (List.Nodup.not_mem_erase nd) hz
      omega
    have := List.length_erase (a := (n : Int)) (l := l)
    split at this <;> omega
theorem go_round {f : Int → Int} {n : Nat} (hm : ∀ x : Int, 0 ≤ x ∧ x < n → 0 ≤ f x ∧ f x < n) (hi : ∀ x y : Int, 0 ≤ x ∧ x < n → 0 ≤ y ∧ y < n → f x = f y → x = y) {x : Int} (hx : 0 ≤ x ∧ x < (n : Int)) :
    ∃ k, 0 < k ∧ k ≤ n ∧ itr f k x = x := by
  by_cases h : ∃ k, 0 < k ∧ k ≤ n ∧ itr f k x = x
  · exact h
  · exfalso
    have nd : ((List.range (n + 1)).map fun k => itr f k x).Nodup := by
      rw [List.nodup_iff_pairwise_ne, List.pairwise_map]
      refine List.Pairwise.imp_of_mem ?_ List.pairwise_lt_range
      intro a b ha hb hab q
      have hb' := List.mem_range.mp hb
      refine h ⟨b - a, by omega, by omega, itr_back hm hi hx a (b - a) ?_⟩
      rw [show a + (b - a) = b by omega]
      exact q.symm
    have l := nodup_le n _ nd fun z hz => by
      obtain ⟨k, _, rfl⟩ := List.mem_map.mp hz
      exact itr_in hm hx k
    rw [List.length_map, List.length_range] at l
    omega
end Ink
namespace Ink
def insAt (r : List Int) (b e : Int) : List Int := r.take (r.idxOf b + 1) ++ e :: r.drop (r.idxOf b + 1)
def putRow (b e : Int) (r : List Int) : List Int := if b ∈ r then insAt r b e else r
def putIn (rs : Rs) (b e : Int) : Rs := rs.map (putRow b e)
theorem insAt_perm (r : List Int) (b e : Int) : (insAt r b e).Perm (e :: r) := by
  unfold insAt
  refine List.perm_middle.trans ?_
  rw [List.take_append_drop]
theorem putRow_no {b e : Int} {r : List Int} (h : b ∉ r) : putRow b e r = r := by unfold putRow; rw [if_neg h]
theorem putIn_no {b e : Int} : ∀ {rs : Rs}, b ∉ rs.flatten → putIn rs b e = rs
  | [], _ => rfl
  | r :: rs, h => by
    rw [List.flatten_cons] at h
    show putRow b e r :: putIn rs b e = r :: rs
    rw [putRow_no fun q => h (List.mem_append_left _ q), putIn_no fun q => h (List.mem_append_right _ q)]
theorem putIn_perm {b e : Int} : ∀ {rs : Rs}, rs.flatten.Nodup → b ∈ rs.flatten → (putIn rs b e).flatten.Perm (e :: rs.flatten)
  | [], _, h => by simp at h
  | r :: rs, nd, h => by
    rw [List.flatten_cons] at nd h
    obtain ⟨n1, n2, n3⟩ := List.nodup_append.mp nd
    show (putRow b e r :: putIn rs b e).flatten.Perm _
    rw [List.flatten_cons, List.flatten_cons]
    by_cases hb : b ∈ r
    · have no : b ∉ rs.flatten := fun q => n3 b hb b q rfl
      rw [putIn_no no]
      unfold putRow
      rw [if_pos hb]
      exact (insAt_perm r b e).append_right _
    · rw [putRow_no hb]
      exact ((putIn_perm n2 ((List.mem_append.mp h).resolve_left hb)).append_left r).trans List.perm_middle
theorem putIn_length (rs : Rs) (b e : Int) : (putIn rs b e).length = rs.length := List.length_map _
theorem Dr.of_perm {rs rs' : Rs} {n : Nat} (d : Dr rs n) {l : List Int} (hl : l = [(n : Int), n + 1] ∨ l = [(n : Int) + 1, n]) (h : rs'.flatten.Perm (l ++ rs.flatten)) : Dr rs' (n + 2) := by
  have hmem : ∀ z, z ∈ l ↔ z = n ∨ z = (n : Int) + 1 := by
    intro z
    rcases hl with rfl | rfl <;> simp [or_comm]
  have hlen : l.length = 2 := by rcases hl with rfl | rfl <;> rfl
  have hnd : l.Nodup := by
    rcases hl with rfl | rfl <;> simp [List.nodup_cons] <;> omega
  refine ⟨(h.nodup_iff).mpr (List.nodup_append.mpr ⟨hnd, d.nd, fun a ha b hb q => ?_⟩), fun z => ?_, ?_, by have := d.even; omega⟩
  · subst q
    have h1 := (hmem a).mp ha
    have h2 := (d.mem a).mp hb
    omega
  · rw [h.mem_iff, List.mem_append, hmem, d.mem]
    omega
  · rw [h.length_eq, List.length_append, hlen, d.len]
    omega
theorem Dr.alone {rs : Rs} {n : Nat} (d : Dr rs n) : Dr (rs ++ [[]]) n := by
  have e : (rs ++ [[]]).flatten = rs.flatten := by simp
  exact ⟨by rw [e]; exact d.nd, fun z => by rw [e]; exact d.mem z, by rw [e]; exact d.len, d.even⟩
theorem Dr.tie {rs : Rs} {n : Nat} {h t : Int} (d : Dr rs n) (h0 : 0 ≤ h ∧ h < n) (t0 : 0 ≤ t ∧ t < n) : Dr (putIn (putIn rs h n) t ((n : Int) + 1)) (n + 2) := by
  refine d.of_perm (l := [(n : Int) + 1, n]) (.inr rfl) ?_
  have p := putIn_perm (e := (n : Int)) d.nd ((d.mem _).mpr h0)
  have nd : (putIn rs h n).flatten.Nodup := p.nodup_iff.mpr (List.nodup_cons.mpr ⟨fun q => by have := (d.mem _).mp q; omega, d.nd⟩)
  have mt : t ∈ (putIn rs h n).flatten := p.mem_iff.mpr (List.mem_cons_of_mem _ ((d.mem _).mpr t0))
  exact (putIn_perm nd mt).trans (p.cons _)
def orb (f : Int → Int) (x : Int) (j : Nat) : List Int := (List.range (j + 1)).map fun i => itr f i x
theorem orb_succ (f : Int → Int) (x : Int) (j : Nat) : orb f x (j + 1) = orb f x j ++ [itr f (j + 1) x] := by
  unfold orb
  rw [List.range_succ, List.map_append]
  rfl
theorem orb_length (f : Int → Int) (x : Int) (j : Nat) : (orb f x j).length = j + 1 := by unfold orb; rw [List.length_map, List.length_range]
structure IsFace (f : Int → Int) (x : Int) (row : List Int) : Prop where
  ex : ∃ j, row = orb f x j ∧ itr f (j + 1) x = x ∧ ∀ i, 0 < i → i ≤ j → itr f i x ≠ x
theorem IsFace.pos {f : Int → Int} {x : Int} {row : List Int} (h : IsFace f x row) : 0 < row.length := by
  obtain ⟨j, rfl, _⟩ := h.ex
  rw [orb_length]; omega
theorem IsFace.mem {f : Int → Int} {n : Nat} (hm : ∀ x : Int, 0 ≤ x ∧ x < n → 0 ≤ f x ∧ f x < n) {x : Int} (hx : 0 ≤ x ∧ x < (n : Int)) {row : List Int} (h : IsFace f x row) : ∀ z ∈ row, 0 ≤ z ∧ z < n := by
  obtain ⟨j, rfl, _⟩ := h.ex
  intro z hz
  obtain ⟨i, _, rfl⟩ := List.mem_map.mp hz
  exact itr_in hm hx i
theorem IsFace.uniq {f : Int → Int} {x : Int} {row row' : List Int} (h : IsFace f x row) (h' : IsFace f x row') : row = row' := by
  obtain ⟨j, rfl, e, l⟩ := h.ex
  obtain ⟨j', rfl, e', l'⟩ := h'.ex
  have : j = j' := by
    by_cases q : j < j'
    · exact absurd e (l' (j + 1) (by omega) (by omega))
    · by_cases q' : j' < j
      · exact absurd e' (l (j' + 1) (by omega) (by omega))
      · omega
  rw [this]
inductive Made (any : Prop) : Rs → Nat → Prop
  | two : Made any [[0], [1]] 2
  | one : Made any [[0, 1]] 2
  | apart {rs : Rs} {n : Nat} : Made any rs n → Made any (rs ++ [[(n : Int)], [(n : Int) + 1]]) (n + 2)
  | alone {rs : Rs} {n : Nat} : Made any rs n → Made any (rs ++ [[]]) n
  | leaf {rs : Rs} {n : Nat} {h : Int} : Made any rs n → 0 ≤ h ∧ h < (n : Int) → Made any (putIn rs h n ++ [[(n : Int) + 1]]) (n + 2)
  | tie {rs : Rs} {n : Nat} {h t : Int} : Made any rs n → 0 ≤ h ∧ h < (n : Int) → 0 ≤ t ∧ t < (n : Int) →
      (any ∨ ∃ row z, IsFace (stp rs) (nextIn rs h) row ∧ z ∈ row ∧ t = acr z) → Made any (putIn (putIn rs h n) t ((n : Int) + 1)) (n + 2)
theorem putRow_ne {b e : Int} {r : List Int} (h : r ≠ []) : putRow b e r ≠ [] := by
  unfold putRow
  split
  · unfold insAt; simp
  · exact h
end Ink
namespace L2
open PySem PySem.Spec PyProof.Rows
inductive IsiV (K : PySem.W.Frag) (H : Hp) : V → String → Bool → Prop
  | ii (i) : IsiV K H (.int i) "int" true
  | ib (i) : IsiV K H (.int i) "bool" false
  | il (i) : IsiV K H (.int i) "list" false
  | it (i) : IsiV K H (.int i) "tuple" false
  | is (i) : IsiV K H (.int i) "str" false
  | bi (b) : IsiV K H (.bl b) "int" true
  | bb (b) : IsiV K H (.bl b) "bool" true
  | bl (b) : IsiV K H (.bl b) "list" false
  | bt (b) : IsiV K H (.bl b) "tuple" false
  | bs (b) : IsiV K H (.bl b) "str" false
  | si (x) : IsiV K H (.str x) "int" false
  | sl (x) : IsiV K H (.str x) "list" false
  | st (x) : IsiV K H (.str x) "tuple" false
  | ss (x) : IsiV K H (.str x) "str" true
  | ll {p xs} : SqL K H p xs → IsiV K H (.ref p) "list" true
  | li {p xs} : SqL K H p xs → IsiV K H (.ref p) "int" false
  | lb {p xs} : SqL K H p xs → IsiV K H (.ref p) "bool" false
  | lt {p xs} : SqL K H p xs → IsiV K H (.ref p) "tuple" false
  | ls {p xs} : SqL K H p xs → IsiV K H (.ref p) "str" false
  | tt {p xs} : SqT K H p xs → IsiV K H (.ref p) "tuple" true
  | tl {p xs} : SqT K H p xs → IsiV K H (.ref p) "list" false
  | ti {p xs} : SqT K H p xs → IsiV K H (.ref p) "int" false
  | tb {p xs} : SqT K H p xs → IsiV K H (.ref p) "bool" false
  | ts {p xs} : SqT K H p xs → IsiV K H (.ref p) "str" false
section
variable {X : Cx}
theorem call_isi : CallR X (.builtin "isinstance") (fun xs H Q => ∃ x T b, xs = [x, .ty T] ∧ IsiV X.K H x T b ∧ Q (.bl b) H) := by
  intro pins s σ H xs us Q I r h
  obtain ⟨x, T, b, rfl, hi, q⟩ := h
  obtain ⟨u, w', rfl, ru, rw'⟩ := vals2 r
  cases rw'
  have fin : ∀ {k : Bool}, Q (.bl k) H → EP X pins σ Q (.bool k) s := fun q => ⟨.bl _, H, I, rfl, q⟩
  have fin' : ∀ {k : Bool}, Q (.bl k) H → EP X pins σ Q (.bool k) { s with toks := s.toks + 1 } := fun q => ⟨.bl _, H, I.tok _, rfl, q⟩
  cases hi with
  | ii i => obtain ⟨t, rfl⟩ := ru; exact call_isinstance_yes (typeIs_int s i t) F.isi_meta_int F.isi_self_int (fin q)
  | ib i => obtain ⟨t, rfl⟩ := ru; exact call_isinstance (isinstance_false_int (by decide) F.isi_meta_bool F.sub_int_bool) (fin' q)
  | il i => obtain ⟨t, rfl⟩ := ru; exact call_isinstance (isinstance_false_int (by decide) F.isi_meta_list F.sub_int_list) (fin' q)
  | it i => obtain ⟨t, rfl⟩ := ru; exact call_isinstance (isinstance_false_int (by decide) F.isi_meta_tuple F.sub_int_tuple) (fin' q)
  | is i => obtain ⟨t, rfl⟩ := ru; exact call_isinstance (isinstance_false_int (by decide) F.isi_meta_str F.sub_int_str) (fin' q)
  | bi b => cases ru; exact call_isinstance_yes (PySem.typeIs_bool s b) F.isi_meta_int F.sub_bool_int (fin q)
  | bb b => cases ru; exact call_isinstance_yes (PySem.typeIs_bool s b) F.isi_meta_bool F.isi_self_bool (fin q)
  | bl b => cases ru; exact call_isinstance (isinstance_false_bool (by decide) F.isi_meta_list F.sub_bool_list) (fin' q)
  | bt b => cases ru; exact call_isinstance (isinstance_false_bool (by decide) F.isi_meta_tuple F.sub_bool_tuple) (fin' q)
  | bs b => cases ru; exact call_isinstance (isinstance_false_bool (by decide) F.isi_meta_str F.sub_bool_str) (fin' q)
  | si x => obtain ⟨t, rfl⟩ := ru; exact call_isinstance (isinstance_false_str (by decide) F.isi_meta_int F.sub_str_int) (fin' q)
  | sl x => obtain ⟨t, rfl⟩ := ru; exact call_isinstance (isinstance_false_str (by decide) F.isi_meta_list F.sub_str_list) (fin' q)
  | st x => obtain ⟨t, rfl⟩ := ru; exact call_isinstance (isinstance_false_str (by decide) F.isi_meta_tuple F.sub_str_tuple) (fin' q)
  | ss x => obtain ⟨t, rfl⟩ := ru; exact call_isinstance_yes (PySem.typeIs_str s x t) F.isi_meta_str F.isi_self_str (fin q)
  | ll hq => cases ru; obtain ⟨its, rv, pl, hz⟩ := I.list hq; exact call_isinstance_yes pl.isList.typeIs F.isi_meta_list F.isi_self_list (fin q)
  | li hq => cases ru; obtain ⟨its, rv, ⟨o, n, e, c, _, _⟩, hz⟩ := I.list hq; exact call_isinstance (isinstance_false_list (by decide) F.isi_meta_int F.sub_list_int) ⟨⟨o, e, c⟩, fin' q⟩
  | lb hq => cases ru; obtain ⟨its, rv, ⟨o, n, e, c, _, _⟩, hz⟩ := I.list hq; exact call_isinstance (isinstance_false_list (by decide) F.isi_meta_bool F.sub_list_bool) ⟨⟨o, e, c⟩, fin' q⟩
  | lt hq => cases ru; obtain ⟨its, rv, ⟨o, n, e, c, _, _⟩, hz⟩ := I.list hq; exact call_isinstance (isinstance_false_list (by decide) F.isi_meta_tuple F.sub_list_tuple) ⟨⟨o, e, c⟩, fin' q⟩
  | ls hq => cases ru; obtain ⟨its, rv, ⟨o, n, e, c, _, _⟩, hz⟩ := I.list hq; exact call_isinstance (isinstance_false_list (by decide) F.isi_meta_str F.sub_list_str) ⟨⟨o, e, c⟩, fin' q⟩
  | tt hq => cases ru; obtain ⟨its, rv, pl, hz⟩ := I.tuple hq; exact call_isinstance_yes pl.typeIs F.isi_meta_tuple F.isi_self_tuple (fin q)
  | tl hq => cases ru; obtain ⟨its, rv, ⟨o, e, c, _, _⟩, hz⟩ := I.tuple hq; exact call_isinstance (isinstance_false_tuple (by decide) F.isi_meta_list F.sub_tuple_list) ⟨⟨o, e, c⟩, fin' q⟩
  | ti hq => cases ru; obtain ⟨its, rv, ⟨o, e, c, _, _⟩, hz⟩ := I.tuple hq; exact call_isinstance (isinstance_false_tuple (by decide) F.isi_meta_int F.sub_tuple_int) ⟨⟨o, e, c⟩, fin' q⟩
  | tb hq => cases ru; obtain ⟨its, rv, ⟨o, e, c, _, _⟩, hz⟩ := I.tuple hq; exact call_isinstance (isinstance_false_tuple (by decide) F.isi_meta_bool F.sub_tuple_bool) ⟨⟨o, e, c⟩, fin' q⟩
  | ts hq => cases ru; obtain ⟨its, rv, ⟨o, e, c, _, _⟩, hz⟩ := I.tuple hq; exact call_isinstance (isinstance_false_tuple (by decide) F.isi_meta_str F.sub_tuple_str) ⟨⟨o, e, c⟩, fin' q⟩
end
mutual
inductive DatV (K : PySem.W.Frag) (H : Hp) : V → PyData → Prop
  | int (i) : DatV K H (.int i) (.int i)
  | bl (b) : DatV K H (.bl b) (.bool b)
  | str (x) : DatV K H (.str x) (.str x)
  | lst {a xs ds} : SqL K H a xs → DatVs K H xs ds → DatV K H (.ref a) (.list ds)
  | tup {a xs ds} : SqT K H a xs → DatVs K H xs ds → DatV K H (.ref a) (.tuple ds)
inductive DatVs (K : PySem.W.Frag) (H : Hp) : List V → List PyData → Prop
  | nil : DatVs K H [] []
  | cons {x xs d ds} : DatV K H x d → DatVs K H xs ds → DatVs K H (x :: xs) (d :: ds)
end
section
variable {X : Cx} {pins : List (Addr × Obj)} {σ : St} {H : Hp} {s : Shared}
theorem DatV.reads (I : Inv X pins σ H s) {v : V} {d : PyData} (h : DatV X.K H v d) : ∀ {u : Value}, RelV v u → ∃ as, Reads s.heap u d as := by
  refine DatV.rec (motive_1 := fun v d _ => ∀ {u : Value}, RelV v u → ∃ as, Reads s.heap u d as) (motive_2 := fun xs ds _ => ∀ {us : List Value}, Vals xs us → ∃ as, ReadsAll s.heap us ds as) ?_ ?_ ?_ ?_ ?_ ?_ ?_ h
  · intro i u r
    obtain ⟨t, rfl⟩ := r
    exact ⟨_, .int i t⟩
  · intro b u r
    cases r
    exact ⟨_, .bool b⟩
  · intro x u r
    obtain ⟨t, rfl⟩ := r
    exact ⟨_, .str x t⟩
  · intro a xs ds hq _ ih u r
    cases r
    obtain ⟨its, rv, ⟨o, n, e, c, _, d⟩, _⟩ := I.list hq
    obtain ⟨as, ra⟩ := ih rv
    exact ⟨_, .list e c d (by simpa using ra)⟩
  · intro a xs ds hq _ ih u r
    cases r
    obtain ⟨its, rv, ⟨o, e, c, n, d⟩, _⟩ := I.tuple hq
    obtain ⟨as, ra⟩ := ih rv
    exact ⟨_, .tuple e c d (by simpa using ra)⟩
  · intro us r
    cases r
    exact ⟨_, .nil⟩
  · intro x xs d ds _ _ ih1 ih2 us r
    cases r with
    | cons r1 r2 =>
      obtain ⟨as, ra⟩ := ih1 r1
      obtain ⟨bs, rb⟩ := ih2 r2
      exact ⟨_, .cons ra rb⟩
end
section
variable {X : Cx}
def rEqD (K : PySem.W.Frag) : R2 := fun x y H Q => ∃ da db, DatV K H x da ∧ DatV K H y db ∧ da.canLay0 = true ∧ db.canLay0 = true ∧ da.depth ≤ 64 ∧ Q (.bl (PyData.eqv da db)) H
def rNeD (K : PySem.W.Frag) : R2 := fun x y H Q => ∃ da db, DatV K H x da ∧ DatV K H y db ∧ da.canLay0 = true ∧ db.canLay0 = true ∧ da.depth ≤ 64 ∧ Q (.bl (!PyData.eqv da db)) H
theorem op_eqD (hu : X.A.units + 64 < cLine) : OpR X (compareOp .Eq) (rEqD X.K) := by
  intro pins s σ H x y v u Q I rx ry h
  obtain ⟨da, db, ha, hb, ca, cb, hd, q⟩ := h
  obtain ⟨as, ra⟩ := ha.reads I rx
  obtain ⟨bs, rb⟩ := hb.reads I ry
  exact SeqAt.compareEq_reads ra rb ca cb (by have : min da.depth db.depth ≤ da.depth := Nat.min_le_left _ _; omega) ⟨.bl _, H, I, rfl, q⟩
theorem op_neD (hu : X.A.units + 64 < cLine) : OpR X (compareOp .NotEq) (rNeD X.K) := by
  intro pins s σ H x y v u Q I rx ry h
  obtain ⟨da, db, ha, hb, ca, cb, hd, q⟩ := h
  obtain ⟨as, ra⟩ := ha.reads I rx
  obtain ⟨bs, rb⟩ := hb.reads I ry
  exact SeqAt.compareNe_reads ra rb ca cb (by have : min da.depth db.depth ≤ da.depth := Nat.min_le_left _ _; omega) ⟨.bl _, H, I, rfl, q⟩
end
def intsD (r : List Int) : PyData := .list (r.map .int)
def rowsD (rs : List (List Int)) : PyData := .list (rs.map intsD)
theorem DatVs.ints {K : PySem.W.Frag} {H : Hp} : ∀ r : List Int, DatVs K H (r.map V.int) (r.map PyData.int)
  | [] => .nil
  | i :: r => .cons (.int i) (DatVs.ints r)
theorem DatV.ints {K : PySem.W.Frag} {H : Hp} {a : Addr} {r : List Int} (h : SqL K H a (r.map V.int)) : DatV K H (.ref a) (intsD r) := .lst h (.ints r)
theorem lay_intsAll : ∀ r : List Int, PyData.canLayAll0 (r.map PyData.int) = true
  | [] => rfl
  | _ :: r => by rw [List.map_cons, PyData.canLayAll0, lay_intsAll r]; rfl
theorem lay_ints (r : List Int) : (intsD r).canLay0 = true := by unfold intsD; rw [PyData.canLay0]; exact lay_intsAll r
theorem lay_rowsAll : ∀ rs : List (List Int), PyData.canLayAll0 (rs.map intsD) = true
  | [] => rfl
  | r :: rs => by rw [List.map_cons, PyData.canLayAll0, lay_rowsAll rs, lay_ints r]; rfl
theorem lay_rows (rs : List (List Int)) : (rowsD rs).canLay0 = true := by unfold rowsD; rw [PyData.canLay0]; exact lay_rowsAll rs
theorem depth_intsAll : ∀ r : List Int, PyData.depthAll (r.map PyData.int) = 0
  | [] => rfl
  | i :: r => by rw [List.map_cons, PyData.depthAll, depth_intsAll r]; rfl
theorem depth_ints (r : List Int) : (intsD r).depth ≤ 1 := by unfold intsD; rw [PyData.depth, depth_intsAll]; decide
theorem depth_rowsAll : ∀ rs : List (List Int), PyData.depthAll (rs.map intsD) ≤ 1
  | [] => Nat.zero_le _
  | r :: rs => by
    rw [List.map_cons, PyData.depthAll]
    have h1 := depth_ints r
    have h2 := depth_rowsAll rs
    omega
theorem depth_rows (rs : List (List Int)) : (rowsD rs).depth ≤ 2 := by
  unfold rowsD
  rw [PyData.depth]
  have := depth_rowsAll rs
  omega
theorem eqv_intsAll : ∀ a b : List Int, PyData.eqvAll (a.map PyData.int) (b.map PyData.int) = decide (a = b)
  | [], [] => by simp [PyData.eqvAll]
  | [], _ :: _ => by simp [PyData.eqvAll]
  | _ :: _, [] => by simp [PyData.eqvAll]
  | x :: a, y :: b => by
    rw [List.map_cons, List.map_cons, PyData.eqvAll, eqv_intsAll a b, PyData.eqv, Bool.eq_iff_iff]
    simp
theorem eqv_ints (a b : List Int) : PyData.eqv (intsD a) (intsD b) = decide (a = b) := by unfold intsD; rw [PyData.eqv]; exact eqv_intsAll a b
theorem eqv_rowsAll : ∀ a b : List (List Int), PyData.eqvAll (a.map intsD) (b.map intsD) = decide (a = b)
  | [], [] => by simp [PyData.eqvAll]
  | [], _ :: _ => by simp [PyData.eqvAll]
  | _ :: _, [] => by simp [PyData.eqvAll]
  | x :: a, y :: b => by
    rw [List.map_cons, List.map_cons, PyData.eqvAll, eqv_rowsAll a b, eqv_ints, Bool.eq_iff_iff]
    simp
theorem eqv_rows (a b : List (List Int)) : PyData.eqv (rowsD a) (rowsD b) = decide (a = b) := by unfold rowsD; rw [PyData.eqv]; exact eqv_rowsAll a b
structure Rows (H : Hp) (p : Addr) (ps : List Addr) (rs : List (List Int)) : Prop where
  out : H p = some (.lst (ps.map V.ref))
  nd : ps.Nodup
  len : ps.length = rs.length
  row : ∀ (i : Nat) (q : Addr) (r : List Int), ps[i]? = some q → rs[i]? = some r → H q = some (.lst (r.map V.int))
theorem Rows.get {H : Hp} {p : Addr} {ps : List Addr} {rs : List (List Int)} (h : Rows H p ps rs) {i : Nat} {r : List Int} (e : rs[i]? = some r) : ∃ q, ps[i]? = some q ∧ H q = some (.lst (r.map V.int)) := by
  have hi : i < rs.length := (List.getElem?_eq_some_iff.mp e).1
  have hi' : i < ps.length := by rw [h.len]; exact hi
  exact ⟨ps[i], List.getElem?_eq_getElem hi', h.row i _ r (List.getElem?_eq_getElem hi') e⟩
theorem Rows.at {H : Hp} {p : Addr} {ps : List Addr} {rs : List (List Int)} (h : Rows H p ps rs) {i : Nat} {q : Addr} (e : ps[i]? = some q) : ∃ r, rs[i]? = some r ∧ H q = some (.lst (r.map V.int)) := by
  have hi : i < ps.length := (List.getElem?_eq_some_iff.mp e).1
  have hi' : i < rs.length := by rw [← h.len]; exact hi
  exact ⟨rs[i], List.getElem?_eq_getElem hi', h.row i q _ e (List.getElem?_eq_getElem hi')⟩
theorem Rows.mem {H : Hp} {p : Addr} {ps : List Addr} {rs : List (List Int)} (h : Rows H p ps rs) {q : Addr} (e : q ∈ ps) : ∃ r, r ∈ rs ∧ H q = some (.lst (r.map V.int)) := by
  obtain ⟨i, hi⟩ := List.mem_iff_getElem?.mp e
  obtain ⟨r, hr, hq⟩ := h.at hi
  exact ⟨r, List.mem_of_getElem? hr, hq⟩
theorem Rows.notin {H : Hp} {p : Addr} {ps : List Addr} {rs : List (List Int)} (h : Rows H p ps rs) : p ∉ ps := fun e => by
  obtain ⟨r, _, hq⟩ := h.mem e
  have o := h.out
  rw [hq] at o
  have o' : r.map V.int = ps.map V.ref := by
    have := Option.some.inj o
    injection this
  cases ps with
  | nil => cases e
  | cons a ps =>
    cases r with
    | nil => cases o'
    | cons i r =>
      rw [List.map_cons, List.map_cons] at o'
      injection o' with o1 _
      cases o1
theorem Rows.same {H H' : Hp} {p : Addr} {ps : List Addr} {rs : List (List Int)} (h : Rows H p ps rs) (s : Same H H') : Rows H' p ps rs :=
  ⟨s _ _ h.out, h.nd, h.len, fun i q r e1 e2 => s _ _ (h.row i q r e1 e2)⟩
theorem Rows.set {H : Hp} {p : Addr} {ps : List Addr} {rs : List (List Int)} (h : Rows H p ps rs) {i : Nat} {q : Addr} (e : ps[i]? = some q) (r' : List Int) : Rows (upd H q (.lst (r'.map V.int))) p ps (rs.set i r') := by
  have hq : q ∈ ps := List.mem_of_getElem? e
  have np : p ≠ q := fun z => h.notin (z ▸ hq)
  refine ⟨by rw [upd_ne np]; exact h.out, h.nd, by rw [List.length_set]; exact h.len, fun j q' r e1 e2 => ?_⟩
  by_cases hj : j = i
  · subst hj
    rw [e] at e1
    cases e1
    have hlt : j < rs.length := by rw [← h.len]; exact (List.getElem?_eq_some_iff.mp e).1
    rw [List.getElem?_set_self hlt] at e2
    cases e2
    exact upd_same
  · rw [List.getElem?_set_ne (Ne.symm hj)] at e2
    have ne : q' ≠ q := by
      rintro rfl
      obtain ⟨h1, e1'⟩ := List.getElem?_eq_some_iff.mp e1
      obtain ⟨h2, e2'⟩ := List.getElem?_eq_some_iff.mp e
      exact hj ((List.getElem_inj h.nd).mp (e1'.trans e2'.symm))
    rw [upd_ne ne]
    exact h.row j q' r e1 e2
theorem Rows.snoc {H : Hp} {p : Addr} {ps : List Addr} {rs : List (List Int)} (h : Rows H p ps rs) {q : Addr} {r : List Int} (hq : H q = some (.lst (r.map V.int))) (hn : q ∉ ps) (hp : q ≠ p) :
    Rows (upd H p (.lst (ps.map V.ref ++ [.ref q]))) p (ps ++ [q]) (rs ++ [r]) := by
  refine ⟨?_, ?_, by rw [List.length_append, List.length_append, h.len]; rfl, fun j q' r' e1 e2 => ?_⟩
  · rw [upd_same, List.map_append]; rfl
  · refine List.nodup_append.mpr ⟨h.nd, by simp, fun a ha b hb z => ?_⟩
    have : b = q := by simpa using hb
    subst this; subst z
    exact hn ha
  · have key : H q' = some (.lst (r'.map V.int)) ∧ q' ≠ p := by
      by_cases hj : j < ps.length
      · rw [List.getElem?_append_left hj] at e1
        rw [List.getElem?_append_left (by rw [← h.len]; exact hj)] at e2
        exact ⟨h.row j q' r' e1 e2, fun z => h.notin (z ▸ List.mem_of_getElem? e1)⟩
      · have hj' : j = ps.length := by
          have := (List.getElem?_eq_some_iff.mp e1).1
          rw [List.length_append, List.length_singleton] at this
          omega
        subst hj'
        rw [List.getElem?_append_right (Nat.le_refl _), Nat.sub_self] at e1
        rw [List.getElem?_append_right (by rw [h.len]; exact Nat.le_refl _), h.len, Nat.sub_self] at e2
        have z1 : q = q' := by simpa using e1
        have z2 : r = r' := by simpa using e2
        subst z1; subst z2
        exact ⟨hq, hp⟩
    rw [upd_ne key.2]
    exact key.1
theorem Rows.vals {K : PySem.W.Frag} {H : Hp} {ps : List Addr} {rs : List (List Int)} (hl : ps.length = rs.length) (hr : ∀ (i : Nat) (q : Addr) (r : List Int), ps[i]? = some q → rs[i]? = some r → H q = some (.lst (r.map V.int))) : DatVs K H (ps.map V.ref) (rs.map intsD) := by
  induction ps generalizing rs with
  | nil =>
    cases rs with
    | nil => exact .nil
    | cons r rs => cases hl
  | cons q ps ih =>
    cases rs with
    | nil => cases hl
    | cons r rs =>
      refine .cons (.ints (.of (hr 0 q r rfl rfl))) (ih (by simpa using hl) fun i q' r' e1 e2 => hr (i + 1) q' r' (by simpa using e1) (by simpa using e2))
theorem Rows.dat {K : PySem.W.Frag} {H : Hp} {p : Addr} {ps : List Addr} {rs : List (List Int)} (h : Rows H p ps rs) : DatV K H (.ref p) (rowsD rs) := .lst (.of h.out) (Rows.vals h.len h.row)
end L2
namespace L2
open PySem
theorem upd_none {H : Hp} {a b : Addr} {o : HO} (h : upd H a o b = none) : b ≠ a ∧ H b = none := by
  by_cases e : b = a
  · subst e
    rw [upd_same] at h
    cases h
  · rw [upd_ne e] at h
    exact ⟨e, h⟩
theorem Same.put {H H2 : Hp} {l : Addr} {o : HO} (s : Same H H2) (hl : H l = none) : Same H (L2.upd H2 l o) := fun b u e => by
  rw [upd_ne (ne_of_none e hl)]
  exact s b u e
section
variable {X : Cx}
theorem call_range1 : CallR X (.type "range") (fun xs H Q => ∃ j : Int, xs = [.int j] ∧ ∀ p, H p = none → Q (.ref p) (upd H p (.rng 0 j))) := by
  intro pins s σ H xs us Q I r h
  obtain ⟨j, rfl, q⟩ := h
  obtain ⟨u, rfl, t, rfl⟩ := vals1 r
  refine call_range_1 ⟨.ref s.heap.objs.size, _, I.laid (fun b o e => Heap.get?_push_of_some _ e) (Nat.le_refl _) ?_, rfl, q _ (I.hok.fresh (Nat.le_refl _))⟩
  exact ⟨_, _, _, Heap.get?_push_size _ rfl⟩
theorem vals_range (acc : List Value) : ∀ (n : Nat), n ≤ acc.length → (∀ (j : Nat) (v : Value), acc[j]? = some v → ∃ t, v = .int (j : Int) t) → Vals ((List.range n).map fun (i : Nat) => V.int (i : Int)) (acc.take n)
  | 0, _, _ => .nil
  | n + 1, hn, h => by
    have e := List.getElem?_eq_getElem (l := acc) (i := n) (by omega)
    rw [List.range_succ, List.map_append, List.take_add_one, e]
    refine Vals.append (vals_range acc n (by omega) h) (.cons ?_ .nil)
    obtain ⟨t, e2⟩ := h n _ e
    exact ⟨t, e2⟩
theorem call_list_rng (hc : X.calm = true) : CallR X (.type "list") (fun xs H Q => ∃ (p : Addr) (n : Nat), xs = [.ref p] ∧ H p = some (.rng 0 (n : Int)) ∧ n ≤ 1000000 ∧ ∀ l, H l = none → Q (.ref l) (upd H l (.lst ((List.range n).map fun (i : Nat) => V.int (i : Int))))) := by
  intro pins s σ H xs us Q I r h
  obtain ⟨p, n, rfl, hp, hn, q⟩ := h
  obtain ⟨u, rfl, ru⟩ := vals1 r
  cases ru
  obtain ⟨t, u, v, e⟩ := I.hok p _ hp
  have hs : sizeLine = 16777216 := sizeLine_eq
  refine call_list_range (n := n) (I.ok.hd hc) e (small_one (by omega) (by omega) (by omega) (by omega)) (by rw [rangeSize_one]; split <;> omega) (by omega) fun h' tk acc' c' hk hS hit => ?_
  refine ⟨.ref s.heap.objs.size, _, I.laid (t' := tk) hk (Nat.le_refl _) (o := .lst ((List.range n).map fun (i : Nat) => V.int (i : Int))) ?_, rfl, q _ (I.hok.fresh (Nat.le_refl _))⟩
  refine ⟨by rw [List.length_map, List.length_range]; omega, acc'.toList, c', ?_, by simpa using hS⟩
  have hl : acc'.toList.length = n := by simpa using hit.1
  have vr := vals_range acc'.toList n (by omega) fun j v e => ?_
  · rw [List.take_of_length_le (by omega)] at vr
    exact vr
  · obtain ⟨t, e2⟩ := hit.2 j v (by simpa using e)
    exact ⟨t, by rw [e2]; congr 1; omega⟩
end
end L2
namespace L2
open PySem PySem.Spec PyProof.Rows
section
variable {κ : Type} [DecidableEq κ]
def valV (kvs : List (κ × V)) (k : κ) : Option V := (kvs.find? fun kv => decide (kv.1 = k)).map (·.2)
def putK (kvs : List (κ × V)) (k : κ) (v : V) : List (κ × V) :=
  if (kvs.any fun kv => decide (kv.1 = k)) = true then kvs.map (fun kv => if kv.1 = k then (kv.1, v) else kv) else kvs ++ [(k, v)]
theorem valV_nil {k : κ} : valV ([] : List (κ × V)) k = none := rfl
theorem valV_pos {p : κ × V} {r : List (κ × V)} {k : κ} (e : p.1 = k) : valV (p :: r) k = some p.2 := by simp [valV, List.find?_cons, e]
theorem valV_neg {p : κ × V} {r : List (κ × V)} {k : κ} (e : ¬ p.1 = k) : valV (p :: r) k = valV r k := by simp [valV, List.find?_cons, e]
theorem valV_any (k : κ) : ∀ kvs : List (κ × V), (kvs.any fun kv => decide (kv.1 = k)) = (valV kvs k).isSome
  | [] => rfl
  | p :: r => by
    rw [List.any_cons]
    by_cases e : p.1 = k
    · simp only [valV_pos e, decide_eq_true e, Bool.true_or, Option.isSome_some]
    · rw [valV_neg e, decide_eq_false e, Bool.false_or]; exact valV_any k r
theorem valV_map (k j : κ) (y : V) : ∀ kvs : List (κ × V), valV (kvs.map fun kv => if kv.1 = k then (kv.1, y) else kv) j = (valV kvs j).map fun x => if j = k then y else x
  | [] => rfl
  | p :: r => by
    have ih := valV_map k j y r
    rw [List.map_cons]
    by_cases h : p.1 = k
    · rw [if_pos h]
      by_cases e : p.1 = j
      · rw [valV_pos (p := (p.1, y)) e, valV_pos e, Option.map_some, if_pos (e.symm.trans h)]
      · rw [valV_neg (p := (p.1, y)) e, valV_neg e, ih]
    · rw [if_neg h]
      by_cases e : p.1 = j
      · rw [valV_pos (p := p) e, valV_pos e, Option.map_some, if_neg (fun z => h (e.trans z))]
      · rw [valV_neg (p := p) e, valV_neg e, ih]
theorem valV_snoc (k j : κ) (y : V) : ∀ kvs : List (κ × V), valV kvs k = none → valV (kvs ++ [(k, y)]) j = if j = k then some y else valV kvs j
  | [], _ => by
    by_cases e : k = j
    · rw [if_pos e.symm]; exact valV_pos (p := (k, y)) e
    · rw [if_neg (fun z => e z.symm)]; exact valV_neg (p := (k, y)) e
  | p :: r, hn => by
    rw [List.cons_append]
    have hk : ¬ p.1 = k := fun z => by rw [valV_pos z] at hn; cases hn
    rw [valV_neg hk] at hn
    have ih := valV_snoc k j y r hn
    by_cases e : p.1 = j
    · rw [valV_pos e, valV_pos e, if_neg (fun z => hk (e.trans z))]
    · rw [valV_neg e, valV_neg e, ih]
theorem valV_put (kvs : List (κ × V)) (k j : κ) (y : V) : valV (putK kvs k y) j = if j = k then some y else valV kvs j := by
  unfold putK
  by_cases a : (kvs.any fun kv => decide (kv.1 = k)) = true
  · rw [if_pos a, valV_map]
    rw [valV_any] at a
    by_cases e : j = k
    · obtain ⟨x, hx⟩ := Option.isSome_iff_exists.mp a
      rw [if_pos e, e, hx, Option.map_some, if_pos rfl]
    · rw [if_neg e]
      cases valV kvs j with
      | none => rfl
      | some x => rw [Option.map_some, if_neg e]
  · rw [if_neg a]
    refine valV_snoc k j y kvs ?_
    rw [valV_any] at a
    cases q : valV kvs k with
    | none => rfl
    | some x => rw [q] at a; exact (a rfl).elim
theorem length_putK (kvs : List (κ × V)) (k : κ) (v : V) : (putK kvs k v).length ≤ kvs.length + 1 := by
  unfold putK
  split
  · rw [List.length_map]; omega
  · rw [List.length_append, List.length_cons, List.length_nil]; omega
theorem putK_new {kvs : List (κ × V)} {k : κ} (v : V) (h : valV kvs k = none) : putK kvs k v = kvs ++ [(k, v)] := by
  unfold putK
  rw [valV_any, h]
  exact if_neg (by decide)
theorem RelO.isSome_eq {o : Option V} {u : Option Value} (r : RelO o u) : o.isSome = u.isSome := by
  cases o with
  | none => cases u with
    | none => rfl
    | some _ => exact (show False from r).elim
  | some _ => cases u with
    | none => exact (show False from r).elim
    | some _ => rfl
theorem KV.val {kvs : List (κ × V)} {vs : List (κ × Value)} (r : KV kvs vs) (k : κ) : RelO (valV kvs k) (valueAt vs k) := by
  unfold KV at r
  induction r with
  | nil => exact True.intro
  | @cons p q ps qs h t ih =>
    obtain ⟨h1, h2⟩ := h
    by_cases e : p.1 = k
    · have e' : q.1 = k := h1.symm.trans e
      have b : valueAt (q :: qs) k = some q.2 := by simp [valueAt, List.find?_cons, e']
      rw [valV_pos e, b]; exact h2
    · have e' : ¬ q.1 = k := fun z => e (h1.trans z)
      have b : valueAt (q :: qs) k = valueAt qs k := by simp [valueAt, List.find?_cons, e']
      rw [valV_neg e, b]; exact ih
theorem KV.any {kvs : List (κ × V)} {vs : List (κ × Value)} (r : KV kvs vs) (k : κ) : (kvs.any fun kv => decide (kv.1 = k)) = vs.any fun kv => decide (kv.1 = k) := by
  unfold KV at r
  induction r with
  | nil => rfl
  | cons h t ih => rw [List.any_cons, List.any_cons, ih, h.1]
theorem KV.repl {kvs : List (κ × V)} {vs : List (κ × Value)} (r : KV kvs vs) (k : κ) {y : V} {u : Value} (ry : RelV y u) :
    KV (kvs.map fun kv => if kv.1 = k then (kv.1, y) else kv) (vs.map fun kv => if kv.1 = k then (kv.1, u) else kv) := by
  unfold KV at r ⊢
  induction r with
  | nil => exact .nil
  | @cons p q ps qs h t ih =>
    rw [List.map_cons, List.map_cons]
    refine .cons ?_ ih
    obtain ⟨h1, h2⟩ := h
    by_cases e : p.1 = k
    · rw [if_pos e, if_pos (h1.symm.trans e)]; exact ⟨h1, ry⟩
    · rw [if_neg e, if_neg (fun z => e (h1.trans z))]; exact ⟨h1, h2⟩
theorem KV.put {kvs : List (κ × V)} {vs : List (κ × Value)} (r : KV kvs vs) (k : κ) {y : V} {u : Value} (ry : RelV y u) : KV (putK kvs k y) (stored vs k u) := by
  unfold putK stored
  rw [r.any k]
  by_cases e : (vs.any fun kv => decide (kv.1 = k)) = true
  · rw [if_pos e, if_pos e]; exact r.repl k ry
  · rw [if_neg e, if_neg e]; exact Paired.snoc r ⟨rfl, ry⟩
theorem KV.length {kvs : List (κ × V)} {vs : List (κ × Value)} (r : KV kvs vs) : kvs.length = vs.length := Paired.length r
end
theorem kV_is {P : Program} {w : World} {k : Key} {u : Value} (r : RelV (kV k) u) : (mixKind P w).is k u = true := by
  cases k with
  | inl i => obtain ⟨t, e⟩ := (show ∃ t, u = Value.int i t from r); subst e; exact mixKind_int P w i t
  | inr x => obtain ⟨t, e⟩ := (show ∃ t, u = Value.str x t from r); subst e; exact mixKind_str P w x t
theorem items_are {P : Program} {w : World} : ∀ {ks : List Key} {us : List Value}, Vals (ks.map kV) us → ItemsAre (mixKind P w) ks us
  | [], _, r => by rw [List.map_nil] at r; cases r; exact .nil
  | k :: ks, _, r => by
    rw [List.map_cons] at r
    cases r with
    | cons h t => exact .cons (kV_is h) (items_are t)
abbrev KT (H : Hp) : List (List Key × V) → List (List Key × Addr × Value) → Prop := Paired fun p q => p.1 = q.1 ∧ H q.2.1 = some (.tup (p.1.map kV)) ∧ RelV p.2 q.2.2
theorem KT.val {H : Hp} {kvs : List (List Key × V)} {xs : List (List Key × Addr × Value)} (r : KT H kvs xs) (k : List Key) : RelO (valV kvs k) ((atKey xs k).map (·.2)) := by
  induction r with
  | nil => exact True.intro
  | @cons p q ps qs h t ih =>
    obtain ⟨h1, _, h2⟩ := h
    by_cases e : p.1 = k
    · have e' : q.1 = k := h1.symm.trans e
      have b : atKey (q :: qs) k = some q.2 := by simp [atKey, List.find?_cons, e']
      rw [valV_pos e, b]; exact h2
    · have e' : ¬ q.1 = k := fun z => e (h1.trans z)
      have b : atKey (q :: qs) k = atKey qs k := by simp [atKey, List.find?_cons, e']
      rw [valV_neg e, b]; exact ih
theorem KT.repl {H : Hp} {kvs : List (List Key × V)} {xs : List (List Key × Addr × Value)} (r : KT H kvs xs) (k : List Key) {y : V} {u : Value} (ry : RelV y u) :
    KT H (kvs.map fun kv => if kv.1 = k then (kv.1, y) else kv) (xs.map (putAt k u)) := by
  induction r with
  | nil => exact .nil
  | @cons p q ps qs h t ih =>
    rw [List.map_cons, List.map_cons]
    refine .cons ?_ ih
    obtain ⟨h1, h2, h3⟩ := h
    unfold putAt
    by_cases e : p.1 = k
    · rw [if_pos e, if_pos (h1.symm.trans e)]; exact ⟨h1, h2, ry⟩
    · rw [if_neg e, if_neg (fun z => e (h1.trans z))]; exact ⟨h1, h2, h3⟩
theorem KT.put {H : Hp} {kvs : List (List Key × V)} {xs : List (List Key × Addr × Value)} (r : KT H kvs xs) (k : List Key) {b : Addr} {y : V} {u : Value} (hb : H b = some (.tup (k.map kV))) (ry : RelV y u) :
    KT H (putK kvs k y) (storedH xs k b u) := by
  have e : (kvs.any fun kv => decide (kv.1 = k)) = (atKey xs k).isSome := by
    rw [valV_any, (r.val k).isSome_eq, Option.isSome_map]
  unfold putK storedH
  rw [e]
  by_cases q : (atKey xs k).isSome = true
  · rw [if_pos q, if_pos q]; exact r.repl k ry
  · rw [if_neg q, if_neg q]; exact Paired.snoc r ⟨rfl, hb, ry⟩
theorem KT.keeps {H H' : Hp} {kvs : List (List Key × V)} {xs : List (List Key × Addr × Value)} (r : KT H kvs xs) (ht : ∀ b ys, H b = some (.tup ys) → H' b = some (.tup ys)) : KT H' kvs xs :=
  Paired.mapP r fun _ _ z => ⟨z.1, ht _ _ z.2.1, z.2.2⟩
section
variable {P : Program} {w : World} {H : Hp} {h : Heap} {a : Addr}
theorem rd_of {u : HO} (ok : HOk P w H h) (e : Rd H a u) : ObjOk P w H h a u := e.ok ok
theorem dk_rd {kvs : List (Key × V)} (ok : HOk P w H h) (e : Rd H a (.dK kvs)) : kvs.length ≤ sizeLine ∧ (a == sysModules) = false ∧ ∃ vs, KV kvs vs ∧ h.DictOf (mixKind P w) a vs :=
  show ObjOk P w H h a (.dK kvs) from rd_of ok e
theorem dk_of {kvs : List (Key × V)} (ok : HOk P w H h) (e : H a = some (.dK kvs)) : kvs.length ≤ sizeLine ∧ (a == sysModules) = false ∧ ∃ vs, KV kvs vs ∧ h.DictOf (mixKind P w) a vs := dk_rd ok (.inl e)
theorem key_of {ks : List Key} (ok : HOk P w H h) (e : H a = some (.tup (ks.map kV))) : (tupleKind (mixKind P w)).is h ks a := by
  obtain ⟨_, its, r, o, h1, h2, n, h3⟩ := (show ObjOk P w H h a (.tup (ks.map kV)) from ok a _ e)
  exact ⟨o, its.toArray, n, h1, h2, h3, by simpa using items_are r⟩
theorem dt_rd {kvs : List (List Key × V)} (ok : HOk P w H h) (e : Rd H a (.dT kvs)) : kvs.length ≤ sizeLine ∧ (a == sysModules) = false ∧
    ∃ xs, KT H kvs xs ∧ h.DictOfH (tupleKind (mixKind P w)) a xs := by
  obtain ⟨z, y, xs, r, o, es, ep, h1, h2, h3, h4, h5⟩ := (show ObjOk P w H h a (.dT kvs) from rd_of ok e)
  refine ⟨z, y, xs, r, o, es, ep, h1, h2, h3, h4, fun x hx => ?_, h5⟩
  have all : ∀ {l : List (List Key × V)} {m : List (List Key × Addr × Value)}, KT H l m → ∀ x ∈ m, (tupleKind (mixKind P w)).is h x.1 x.2.1 := by
    intro l m q
    induction q with
    | nil => intro x hx; exact nomatch hx
    | @cons p q ps qs hq t ih =>
      intro x hx
      rcases List.mem_cons.mp hx with e | hx
      · subst e
        exact key_of ok (by rw [← hq.1]; exact hq.2.1)
      · exact ih x hx
  exact all r x hx
theorem dt_of {kvs : List (List Key × V)} (ok : HOk P w H h) (e : H a = some (.dT kvs)) : kvs.length ≤ sizeLine ∧ (a == sysModules) = false ∧
    ∃ xs, KT H kvs xs ∧ h.DictOfH (tupleKind (mixKind P w)) a xs := dt_rd ok (.inl e)
end
def DGet (H : Hp) (a : Addr) (y : V) (r : Option V) : Prop :=
  (∃ kvs k, Rd H a (.dK kvs) ∧ y = kV k ∧ r = valV kvs k) ∨ ∃ kvs k b, Rd H a (.dT kvs) ∧ y = .ref b ∧ H b = some (.tup (k.map kV)) ∧ r = valV kvs k
def DPut (H : Hp) (a : Addr) (y v : V) (H' : Hp) : Prop :=
  (∃ kvs k, H a = some (.dK kvs) ∧ y = kV k ∧ kvs.length < sizeLine ∧ H' = upd H a (.dK (putK kvs k v))) ∨
  ∃ kvs k b, H a = some (.dT kvs) ∧ y = .ref b ∧ H b = some (.tup (k.map kV)) ∧ kvs.length < sizeLine ∧ H' = upd H a (.dT (putK kvs k v))
theorem DGet.k {H : Hp} {a : Addr} {kvs : List (Key × V)} {k : Key} (e : H a = some (.dK kvs)) : DGet H a (kV k) (valV kvs k) := .inl ⟨kvs, k, .inl e, rfl, rfl⟩
theorem DPut.k {H : Hp} {a : Addr} {kvs : List (Key × V)} {k : Key} {v : V} (e : H a = some (.dK kvs)) (hl : kvs.length < sizeLine) : DPut H a (kV k) v (upd H a (.dK (putK kvs k v))) := .inl ⟨kvs, k, e, rfl, hl, rfl⟩
section
variable {X : Cx} {pins : List (Addr × Obj)} {σ : St} {H : Hp} {s : Shared} {a : Addr} {y v : V} {u r : Value} {o : Option V} {A : Around} {E : Value → Shared → Prop}
theorem Inv.big (I : Inv X pins σ H s) : sysModules < s.heap.objs.size := by
  have h : mainGlobals < s.heap.objs.size := (I.mod.glob.keeps I.bk).lt
  exact Nat.lt_trans (by decide) h
theorem d_getItem {Q : Value → Shared → Prop} (hu : A.units + 1 < cLine) (I : Inv X pins σ H s) (g : DGet H a y (some v)) (ry : RelV y u) (h : ∀ w' s', Inv X pins σ H s' → RelV v w' → Q w' s') :
    wpAny (model X.prog X.w) A (getItem (.ref a) u) Q E s := by
  rcases g with ⟨kvs, k, e, ey, l⟩ | ⟨kvs, k, b, e, ey, eb, l⟩
  · subst ey
    obtain ⟨z, hd, vs, rel, dd⟩ := dk_rd I.hok e
    obtain ⟨w', hw, rw'⟩ := RelO.some_of (v := v) (o := valueAt vs k) (by rw [l]; exact rel.val k)
    exact wpAny_getItem_of (kV_is ry) dd.mapOf hw (h w' _ (I.tok _) rw')
  · subst ey
    cases (show u = Value.ref b from ry)
    obtain ⟨z, hd, xs, rel, dd⟩ := dt_rd I.hok e
    obtain ⟨w', hw, rw'⟩ := RelO.some_of (v := v) (o := (atKey xs k).map (·.2)) (by rw [l]; exact rel.val k)
    obtain ⟨p, hp, hp2⟩ := Option.map_eq_some_iff.mp hw
    refine wpAny_getItem_heap (tupleKind_room_in1 hu) (key_of I.hok eb) dd hp ?_
    rw [hp2]
    exact h w' _ (I.tok _) rw'
theorem d_notIn {Q : Value → Shared → Prop} (hu : A.units + 1 < cLine) (I : Inv X pins σ H s) (g : DGet H a y o) (ry : RelV y u) (h : ∀ s', Inv X pins σ H s' → Q (.bool (!o.isSome)) s') :
    wpAny (model X.prog X.w) A (compareOp .NotIn u (.ref a)) Q E s := by
  rcases g with ⟨kvs, k, e, ey, l⟩ | ⟨kvs, k, b, e, ey, eb, l⟩
  · subst ey
    obtain ⟨z, hd, vs, rel, dd⟩ := dk_rd I.hok e
    refine wpAny_notIn_of (kV_is ry) hd dd.mapOf ?_
    rw [← (rel.val k).isSome_eq, ← l]
    exact h _ (I.tok _)
  · subst ey
    cases (show u = Value.ref b from ry)
    obtain ⟨z, hd, xs, rel, dd⟩ := dt_rd I.hok e
    refine wpAny_notIn_heap (tupleKind_room_in1 hu) (key_of I.hok eb) hd dd ?_
    have q := (rel.val k).isSome_eq
    rw [Option.isSome_map] at q
    rw [← q, ← l]
    exact h _ (I.tok _)
theorem d_write {h' : Heap} {t' : Nat} {ob : HO} (I : Inv X pins σ H s) (mu : Mut (H a)) (hs : Heap.SameBut a s.heap h') (he : ∃ q, h'.get? a = some q) (new : ObjOk X.prog X.w (upd H a ob) h' a ob) :
    Inv X pins σ (upd H a ob) { s with heap := h', toks := t' } :=
  I.write (x := a) (e := a) mu (.inl rfl) (fun b q hb z => (hs.2 b hb).trans z) he new
theorem dk_new {P : Program} {w : World} {H' : Hp} {h' : Heap} {kvs : List (Key × V)} {vs : List (Key × Value)} (z : kvs.length ≤ sizeLine) (hd : (a == sysModules) = false) (rel : KV kvs vs) (dd : h'.DictOf (mixKind P w) a vs) :
    ObjOk P w H' h' a (.dK kvs) := ⟨z, hd, vs, rel, dd⟩
theorem d_setItem {H' : Hp} {Q : Unit → Shared → Prop} (hu : A.units + 1 < cLine) (I : Inv X pins σ H s) (g : DPut H a y v H') (ry : RelV y u) (rv : RelV v r) (h : ∀ s', Inv X pins σ H' s' → Q () s') :
    wpAny (model X.prog X.w) A (setItem (.ref a) u r) Q E s := by
  rcases g with ⟨kvs, k, e, ey, l, eH⟩ | ⟨kvs, k, b, e, ey, eb, l, eH⟩
  · subst ey eH
    obtain ⟨z, hd, vs, rel, dd⟩ := dk_of I.hok e
    have hz : vs.length ≤ sizeLine := by rw [← rel.length]; exact z
    have hl : (putK kvs k v).length ≤ sizeLine := by have := length_putK kvs k v; omega
    refine wpAny_setItem_pairs (hsz := hz) (kV_is ry) dd fun h' dd' hs => h _ ?_
    have he : ∃ q, h'.get? a = some q := let ⟨q, _, _, hq, _⟩ := dd'; ⟨q, hq⟩
    exact d_write I (by rw [e]; exact True.intro) hs he (dk_new hl hd (rel.put k rv) dd')
  · subst ey eH
    cases (show u = Value.ref b from ry)
    obtain ⟨z, hd, xs, rel, dd⟩ := dt_of I.hok e
    have hz : xs.length ≤ sizeLine := by rw [← Paired.length rel]; exact z
    have hl : (putK kvs k v).length ≤ sizeLine := by have := length_putK kvs k v; omega
    refine wpAny_setItem_heap (hsz := hz) (tupleKind_room_in1 hu) (key_of I.hok eb) dd fun h' dd' hs => h _ ?_
    obtain ⟨q, es, ep, hq, h2, h3, h4, _, h5⟩ := dd'
    refine d_write I (by rw [e]; exact True.intro) hs ⟨q, hq⟩ ⟨hl, hd, _, (rel.put k eb rv).keeps fun c ys ec => ?_, q, es, ep, hq, h2, h3, h4, h5⟩
    rw [upd_ne (ne_of ec e (fun z => nomatch z))]
    exact ec
end
section
variable {X : Cx} {pins : List (Addr × Obj)} {σ : St} {H : Hp} {s : Shared} {a : Addr} {kvs : List (Key × V)} {k : Key} {u : Value} {A : Around} {E : Value → Shared → Prop}
theorem d_len {Q : Value → Shared → Prop} (I : Inv X pins σ H s) (e : Rd H a (.dK kvs)) (h : ∀ t s', Inv X pins σ H s' → Q (.int kvs.length t) s') : wpAny (model X.prog X.w) A (call (.builtin "len") [.ref a]) Q E s := by
  obtain ⟨z, hd, vs, rel, dd⟩ := dk_rd I.hok e
  refine call_len_dict hd dd (by rw [← rel.length]; rw [sizeLine_eq] at z; omega) ?_
  rw [← rel.length]
  exact h _ _ (I.tok _)
end
def NoSl (i : Expr) : Prop := ∀ ov iv, subscripted i false ov iv = operate [ov, iv] (getItem ov iv)
theorem subD_of {prog : Program} {w : World} {A : Around} {E : Value → Shared → Prop} {s : Shared} {env : Env} {value slice : Expr} {pos : Pos} {T id : String} {Q : Value → Shared → Prop}
    (hl : typeLookup (.type T) "__getitem__" = pure (some (.builtin id))) (hs : NoSl slice)
    (h : wpAny (model prog w) A (eval value env) (fun o s₁ => wpAny (model prog w) A (eval slice env) (fun i s₂ => s₂.TypeIs o T ∧ wpAny (model prog w) A (getItem o i) Q E s₂) E s₁) E s) :
    wpAny (model prog w) A (eval (.Subscript value slice pos) env) Q E s := by
  refine Subscript_ (wpAny_mono h (fun o s₁ h₁ => wpAny_mono h₁ (fun i s₂ h₂ => ?_) fun _ _ x => x) fun _ _ x => x)
  obtain ⟨hT, h₂⟩ := h₂
  unfold subscriptTail
  refine wpAny_bind ?_
  rw [getitemInPython_of_ne hT.not_modules]
  refine wpAny_bind (wpAny_specialOf hT hl ?_)
  have fin : wpAny (model prog w) A (subscripted slice false o i) (fun r s₃ => wpAny (model prog w) A (letTemporaryGo value o r >>= fun _ => pure r) Q E s₃) E s₂ := by
    rw [hs o i]
    exact wpAny_operating (wpAny_mono h₂ (fun r s₃ h₃ => wpAny_bind (wpAny_letTemporaryGo (wpAny_pure h₃))) fun _ _ x => x)
  first
    | exact wpAny_pure (wpAny_bind fin)
    | exact wpAny_bind (wpAny_pure (wpAny_bind fin))
    | exact wpAny_bind fin
theorem dict_typeIs {X : Cx} {pins : List (Addr × Obj)} {σ : St} {H : Hp} {s : Shared} {a : Addr} {y : V} {o : Option V} (I : Inv X pins σ H s) (g : DGet H a y o) : s.TypeIs (.ref a) "dict" := by
  rcases g with ⟨kvs, k, e, _, _⟩ | ⟨kvs, k, b, e, _, _, _⟩
  · obtain ⟨_, _, vs, _, dd⟩ := dk_rd I.hok e
    exact dd.typeIs
  · obtain ⟨_, _, xs, _, dd⟩ := dt_rd I.hok e
    exact dd.typeIs
def tDGet (td ty : TE) : TE := fun σ H Q => td σ H fun x H1 => ty σ H1 fun y H2 => ∃ a v, x = .ref a ∧ DGet H2 a y (some v) ∧ Q v H2
def tDNotIn (ty td : TE) : TE := fun σ H Q => ty σ H fun y H1 => td σ H1 fun x H2 => ∃ a o, x = .ref a ∧ DGet H2 a y o ∧ Q (.bl (!o.isSome)) H2
def sDPut (td ty tv : TE) : TS := fun D σ H => tv σ H fun v H1 => td σ H1 fun x H2 => ty σ H2 fun y H3 => ∃ a H4, x = .ref a ∧ DPut H3 a y v H4 ∧ D.nx σ H4
section
variable {X : Cx} {o i e value : Expr} {pos pos' tpos : Pos} {td ty tv : TE}
theorem pe_dget (hu : X.A.units + 1 < cLine) (ho : PE X o td) (hi : PE X i ty) (hs : NoSl i) : PE X (.Subscript o i pos) (tDGet td ty) := by
  intro pins s σ H Q I h
  refine subD_of PySem.F.slot_dict_getitem.lookup hs (thn (ho pins s σ H _ I h) fun u s1 ⟨x, H1, I1, rx, q1⟩ => thn (hi pins s1 σ H1 _ I1 q1) fun iv s2 ⟨y, H2, I2, ry, a, v, ex, g, q2⟩ => ?_)
  subst ex
  obtain rfl : u = Value.ref a := rx
  exact ⟨dict_typeIs I2 g, d_getItem hu I2 g ry fun w' s3 I3 rw' => ⟨v, H2, I3, rw', q2⟩⟩
theorem pc_dnotin (hu : X.A.units + 1 < cLine) (hi : PE X i ty) (ho : PE X o td) : PC X .NotIn i o (tDNotIn ty td) := by
  intro pins s σ H Q I h
  refine thn (hi pins s σ H _ I h) fun iv s1 ⟨y, H1, I1, ry, q1⟩ => thn (ho pins s1 σ H1 _ I1 q1) fun u s2 ⟨x, H2, I2, rx, a, ov, ex, g, q2⟩ => ?_
  subst ex
  obtain rfl : u = Value.ref a := rx
  exact d_notIn hu I2 g ry fun s3 I3 => ⟨.bl (!ov.isSome), H2, I3, rfl, q2⟩
theorem ps_dput (hu : X.A.units + 1 < cLine) (ho : PE X o td) (hi : PE X i ty) (hv : PE X value tv) (hs : swapsWith value (some (.Subscript o i pos')) pos.line X.env = pure false) :
    PS X (.Assign [.Subscript o i pos'] value pos) (sDPut td ty tv) := by
  intro pins s σ H D I h
  refine wpAny_Assign_Subscript (thn (hv pins s σ H _ I h) fun r s1 ⟨v, H1, I1, rv, q1⟩ => thn (ho pins s1 σ H1 _ I1 q1) fun u s2 ⟨x, H2, I2, rx, q2⟩ => thn (hi pins s2 σ H2 _ I2 q2) fun iv s3 ⟨y, H3, I3, ry, a, H4, ex, g, q3⟩ => ?_) hs
  subst ex
  obtain rfl : u = Value.ref a := rx
  exact d_setItem hu I3 g ry rv fun s4 I4 => ⟨σ, H4, I4, q3⟩
end
theorem dk_empty {P : Program} {w : World} {H : Hp} (h : Heap) (hb : sysModules < h.objs.size) : ObjOk P w H (h.push { cls := .type "dict", data := .dict #[] }) h.objs.size (.dK []) :=
  ⟨Nat.zero_le _, beq_eq_false_iff_ne.mpr (Ne.symm (Nat.ne_of_lt hb)), [], .nil, Heap.DictOf.new h⟩
def tDNewK : TE := fun _ H Q => ∀ p, H p = none → Q (.ref p) (upd H p (.dK []))
section
variable {X : Cx} {pos : Pos}
theorem pe_dnewK : PE X (.Dict [] [] pos) tDNewK := fun pins s σ H Q I h =>
  wpAny_Dict_empty ⟨.ref s.heap.objs.size, _, I.laid (a := s.heap.objs.size) (o := .dK []) (t' := s.toks) (fun _ _ q => Heap.get?_push_of_some _ q) (Nat.le_refl _) (dk_empty s.heap I.big), rfl, h _ (I.hok.fresh (Nat.le_refl _))⟩
end
def tPairs : List (TE × TE) → St → Hp → (List (V × V) → Hp → Prop) → Prop
  | [], _, H, Q => Q [] H
  | (tk, tv) :: r, σ, H, Q => tk σ H fun x H1 => tv σ H1 fun y H2 => tPairs r σ H2 fun ps H3 => Q ((x, y) :: ps) H3
abbrev VV : List (V × V) → List (Value × Value) → Prop := Paired fun p q => RelV p.1 q.1 ∧ RelV p.2 q.2
def PPs (X : Cx) (pos : Pos) (keys : List (Option Expr)) (values : List Expr) (trs : List (TE × TE)) : Prop :=
  ∀ (pins : List (Addr × Obj)) (s : Shared) (σ : St) (H : Hp) (Q : List (V × V) → Hp → Prop), Inv X pins σ H s → tPairs trs σ H Q →
    wpAny (model X.prog X.w) X.A (evalPairs (pairTrees keys values X.env pos)) (fun vs s' => ∃ ps H', Inv X pins σ H' s' ∧ VV ps vs ∧ Q ps H') X.xe s
theorem pps_nil {X : Cx} {pos : Pos} : PPs X pos [] [] [] := fun pins s σ H Q I h => pairTrees_nil_walk ⟨[], H, I, .nil, h⟩
theorem pps_cons {X : Cx} {pos : Pos} {k v : Expr} {ks : List (Option Expr)} {vs : List Expr} {tk tv : TE} {trs : List (TE × TE)} (hk : PE X k tk) (hv : PE X v tv) (hr : PPs X pos ks vs trs) :
    PPs X pos (some k :: ks) (v :: vs) ((tk, tv) :: trs) := fun pins s σ H Q I h =>
  pairTrees_cons_walk (thn (hk pins s σ H _ I h) fun u s1 ⟨x, H1, I1, rx, q1⟩ => thn (hv pins s1 σ H1 _ I1 q1) fun w2 s2 ⟨y, H2, I2, ry, q2⟩ =>
    thn (hr pins s2 σ H2 _ I2 q2) fun ws s3 ⟨ps, H3, I3, rel, q3⟩ => ⟨(x, y) :: ps, H3, I3, .cons ⟨rx, ry⟩ rel, q3⟩)
def mergeK (kvs more : List (Key × V)) : List (Key × V) := more.foldl (fun acc kv => putK acc kv.1 kv.2) kvs
theorem KV.merge : ∀ {more : List (Key × V)} {rs : List (Key × Value)} {kvs : List (Key × V)} {vs : List (Key × Value)}, KV more rs → KV kvs vs → KV (mergeK kvs more) (merged vs rs) := by
  intro more rs kvs vs r
  unfold KV at r
  induction r generalizing kvs vs with
  | nil => intro q; exact q
  | @cons p q ps qs h t ih =>
    intro r0
    have e : KV (putK kvs p.1 p.2) (stored vs q.1 q.2) := by
      have := r0.put p.1 h.2
      rw [← h.1]; exact this
    exact ih e
theorem length_mergeK : ∀ (more kvs : List (Key × V)), (mergeK kvs more).length ≤ kvs.length + more.length
  | [], kvs => by show kvs.length ≤ kvs.length + 0; omega
  | p :: r, kvs => by
    have h1 := length_mergeK r (putK kvs p.1 p.2)
    have h2 := length_putK kvs p.1 p.2
    show (mergeK (putK kvs p.1 p.2) r).length ≤ _
    rw [List.length_cons]; omega
theorem carries_of {P : Program} {w : World} : ∀ {kvs : List (Key × V)} {ws : List (Value × Value)}, VV (kvs.map fun kv => (kV kv.1, kv.2)) ws → ∃ rs, Carries (mixKind P w) ws rs ∧ KV kvs rs
  | [], _, r => by rw [List.map_nil] at r; cases r; exact ⟨[], True.intro, .nil⟩
  | p :: kvs, _, r => by
    rw [List.map_cons] at r
    cases r with
    | @cons a b as bs h t =>
      obtain ⟨rs, c, q⟩ := carries_of (P := P) (w := w) t
      obtain ⟨b1, b2⟩ := b
      exact ⟨(p.1, b2) :: rs, ⟨kV_is h.1, rfl, c⟩, .cons ⟨rfl, h.2⟩ q⟩
def tDisp (trs : List (TE × TE)) : TE := fun σ H Q => ∀ p, H p = none → tPairs trs σ (upd H p (.dK [])) fun ps H2 => H2 p = some (.dK []) ∧ ∃ kvs : List (Key × V), ps = kvs.map (fun kv => (kV kv.1, kv.2)) ∧ kvs.length ≤ 15 ∧ Q (.ref p) (upd H2 p (.dK (mergeK [] kvs)))
theorem pe_disp {X : Cx} {pos : Pos} {keys : List (Option Expr)} {values : List Expr} {trs : List (TE × TE)} (h : PPs X pos keys values trs) (hall : keys.all (·.isSome) = true) (hl : keys.length = values.length) (h0 : keys ≠ [])
    (h15 : keys.length ≤ 15) : PE X (.Dict keys values pos) (tDisp trs) := by
  intro pins s σ H Q I q
  have hn := I.hok.fresh (Nat.le_refl s.heap.objs.size)
  have I1 := I.laid (a := s.heap.objs.size) (o := .dK []) (h' := s.heap.push { cls := .type "dict", data := .dict #[] }) (t' := s.toks) (fun _ _ q => Heap.get?_push_of_some _ q) (Nat.le_refl _) (dk_empty s.heap I.big)
  refine wpAny_Dict_walk (knd := mixKind X.prog X.w) hall hl h0 h15 (thn (h pins _ σ _ _ I1 (q _ hn)) fun ws s2 ⟨ps, H2, I2, rel, e, kvs, ep, lk, q2⟩ => ?_)
  subst ep
  obtain ⟨rs, c, rk⟩ := carries_of (P := X.prog) (w := X.w) rel
  obtain ⟨z, hd, vs0, r0, dd⟩ := dk_of I2.hok e
  cases r0
  refine ⟨rs, c, dd, fun h' dd' hs => ⟨.ref s.heap.objs.size, _, ?_, rfl, q2⟩⟩
  have hz : (mergeK [] kvs).length ≤ sizeLine := by
    have h1 := length_mergeK kvs []
    rw [List.length_nil] at h1
    rw [sizeLine_eq]; omega
  have he : ∃ q, h'.get? s.heap.objs.size = some q := let ⟨q, _, _, hq, _⟩ := dd'; ⟨q, hq⟩
  exact d_write I2 (by rw [e]; exact True.intro) hs he (dk_new hz hd (rk.merge .nil) dd')
structure M1 (X : Cx) (o : Expr) (m : Str) (apos : Pos) (e : Expr) (cpos : Pos) : Prop where
  base : attributeBase o m X.env (eval o X.env) = eval o X.env
  few : ((backTo cpos (starEach [e] X.env)).all (fun x => !x.1) && (backToKw cpos (keywordEach [] X.env)).all (fun x => x.1.isSome)
    && decide (([e] : List Expr).length + ([] : List Keyword).length + (if ([] : List Keyword).isEmpty then 0 else 1) < 30)) = true
  line : (apos.endLine == cpos.line) = true
  trees : backTo cpos (starEach [e] X.env) = [(false, eval e X.env)]
structure M2 (X : Cx) (o : Expr) (m : Str) (apos : Pos) (e f : Expr) (cpos : Pos) : Prop where
  base : attributeBase o m X.env (eval o X.env) = eval o X.env
  few : ((backTo cpos (starEach [e, f] X.env)).all (fun x => !x.1) && (backToKw cpos (keywordEach [] X.env)).all (fun x => x.1.isSome)
    && decide (([e, f] : List Expr).length + ([] : List Keyword).length + (if ([] : List Keyword).isEmpty then 0 else 1) < 30)) = true
  line : (apos.endLine == cpos.line) = true
  trees : backTo cpos (starEach [e, f] X.env) = [(false, eval e X.env), (false, eval f X.env)]
section
variable {X : Cx} {pins : List (Addr × Obj)} {σ : St} {H : Hp} {s : Shared} {a : Addr} {y d : V} {u r : Value} {o : Option V} {A : Around} {E : Value → Shared → Prop}
end
section
variable {X : Cx} {o e f : Expr} {apos cpos : Pos} {td ty tx : TE}
end
section
variable {X : Cx} {pins : List (Addr × Obj)} {σ : St} {H : Hp} {s : Shared} {a : Addr} {kvs : List (Key × V)} {A : Around} {E : Value → Shared → Prop}
end
section
variable {X : Cx} {pins : List (Addr × Obj)} {σ : St} {H : Hp} {s : Shared} {a : Addr} {y : V} {u : Value} {A : Around} {E : Value → Shared → Prop}
end
end L2
namespace L2
open PySem PySem.Spec PyProof.Rows
section
variable {X : Cx}
theorem call_lenD : CallR X (.builtin "len") (fun xs H Q => ∃ a kvs, xs = [V.ref a] ∧ H a = some (.dK kvs) ∧ Q (.int kvs.length) H) := by
  intro pins s σ H xs us Q I r h
  obtain ⟨a, kvs, rfl, ha, q⟩ := h
  obtain ⟨u, rfl, ru⟩ := vals1 r
  cases ru
  exact d_len I (.inl ha) fun t s' I' => ⟨.int kvs.length, H, I', ⟨t, rfl⟩, q⟩
end
section
variable {κ : Type} [DecidableEq κ]
end
end L2
namespace L2
open PySem PySem.Spec PyProof.Rows
theorem Inv.turnedLay {X : Cx} {pins : List (Addr × Obj)} {σ : St} {H : Hp} {s : Shared} {h' : Heap} {ch : List Addr} {a : Addr} {o : HO} {t' : Nat} (I : Inv X pins σ H s) (hf : ∀ b ∈ ch, FpOk X pins H b)
    (k : ∀ b u, b ∉ ch → s.heap.get? b = some u → h'.get? b = some u) (hp : s.heap.objs.size ≤ a) (new : ObjOk X.prog X.w (upd H a o) h' a o) : Inv X pins σ (upd H a o) { s with heap := h', toks := t' } := by
  have hn : H a = none := I.hok.fresh hp
  have nch : ∀ b u, H b = some u → b ∉ ch := fun b u e z => by rw [(hf b z).1] at e; cases e
  have nea : ∀ b u, H b = some u → b ≠ a := fun b u e => ne_of_none e hn
  refine I.step (g' := s.gens) (d' := s.drawn) (ch := ch) (fun b hb => ?_) (fun b o _ _ hc e _ => k b o hc e) (fun b o _ _ hc e _ => ⟨o.slots, k b o hc e⟩) (fun b u _ e n => ?_) (fun b o hc e => ⟨o, k b o hc e⟩)
    (fun b xs e => by rw [upd_ne (nea b _ e)]; exact e) (fun b ob xs e => by rw [upd_ne (nea b _ e)]; exact e) (fun b ps e => ⟨#[], by rw [upd_ne (nea b _ e), e]; simp⟩) (fun m hm => ?_) (fun b u e => ?_) I.bare
  · obtain ⟨_, f1, _, f3, f4, f5⟩ := hf b hb
    exact ⟨f3, f1, f4, f5⟩
  · rw [upd_ne (Nat.ne_of_lt (Nat.lt_of_lt_of_le (Heap.lt_size e) hp))]
    exact n
  · obtain ⟨ob, es, ep, ho, r⟩ := hm
    exact ⟨ob, es, ep, k _ ob (fun z => (hf _ z).2.1 rfl) ho, r⟩
  · by_cases hb : b = a
    · subst hb
      rw [upd_same] at e
      cases e
      exact new
    · rw [upd_ne hb] at e
      refine (I.hok b u e).stay (fun c v hc q => k c v ?_ q) (fun c q => by rw [upd_ne (nea c _ q)]; exact q) fun c xs q => by rw [upd_ne (nea c _ q)]; exact q
      rcases hc with z | z
      · rw [z]; exact nch b u e
      · exact nch c _ z
def Ite (K : PySem.W.Frag) (a : Addr) : It :=
  ⟨fun i H => ∃ xs x, SqL K H a xs ∧ xs[i]? = some x, fun i H x H' => ∃ t y, x = .ref t ∧ H t = none ∧ H' = upd H t (.tup [.int (i : Int), y]) ∧ ∀ xs, SqL K H a xs → xs[i]? = some y, fun i H => ∃ xs, SqL K H a xs ∧ xs.length ≤ i⟩
theorem turn_enum {P : Program} {w : World} {K : PySem.W.Frag} {es : List Expr} {k1 : Nat} {pos : Pos} (a e it : Addr) (hne : e ≠ it) :
    Turn P w K (.Tuple es k1 pos) (Ite K a) [e, it] e (fun i h => (∃ old, IsEnum h e it i old) ∧ h.IsListIter it a i) where
  mem := by simp
  obj := fun i h st b hb => by
    obtain ⟨⟨old, st1⟩, st2⟩ := st
    rcases List.mem_cons.mp hb with z | z
    · subst z
      exact ⟨_, st1, fun v z => by
        have z' : Data.fields _ = Data.cell v := z
        cases z'⟩
    · have z' : b = it := by simpa using z
      subst z'
      obtain ⟨o, e, c, d⟩ := st2
      exact ⟨o, e, fun v z => by rw [d] at z; cases z⟩
  keep := fun i h h' st k => ⟨let ⟨old, s1⟩ := st.1; ⟨old, k e (by simp) _ s1⟩, st.2.at fun o q => k it (by simp) o q⟩
  item := by
    intro X hP hw hK hc i pins s σ H E I hf st hg
    subst hP hw hK
    obtain ⟨⟨old, st1⟩, st2⟩ := st
    obtain ⟨xs, x, hq, hx⟩ := hg
    obtain ⟨its, rv, p, hz⟩ := I.list hq
    obtain ⟨u, hu, ru⟩ := rv.get hx
    refine wpAny_pyNext_enum_item st1 st2 p.isList (x := u) (by simpa using hu) hne fun h' o1 o2 o3 o4 kk => ⟨_, rfl, ?_⟩
    refine wpAny_letOwnedTupleGo_enum (s := { s with heap := h', toks := s.toks + 1 }) o1 fun h'' e1 sb => ?_
    have hel : e < s.heap.objs.size := Heap.lt_size st1
    have hil : it < s.heap.objs.size := by obtain ⟨o, z, _⟩ := st2; exact Heap.lt_size z
    have sb' : Heap.SameBut e h' h'' := sb
    refine ⟨.ref s.heap.objs.size, _, I.turnedLay (ch := [e, it]) (o := .tup [.int (i : Int), x]) (t' := s.toks + 1) hf (fun b ob hb q => ?_) (Nat.le_refl _) ?_, rfl, ⟨_, x, rfl, I.hok.fresh (Nat.le_refl _), rfl, fun ys hy => by rw [I.list_inj hy hq]; exact hx⟩, ⟨⟨u, e1⟩, ?_⟩, fun b hb => ?_⟩
    · have n1 : b ≠ e := fun z => hb (by simp [z])
      have n2 : b ≠ it := fun z => hb (by simp [z])
      exact (sb'.2 b n1).trans (kk b ob n1 n2 q)
    · refine ⟨by show 2 ≤ sizeLine; rw [sizeLine_eq]; decide, [.int (i : Int) s.toks, u], .cons ⟨_, rfl⟩ (.cons ru .nil), _, (sb'.2 _ (Nat.ne_of_gt hel)).trans o3, rfl, _, rfl⟩
    · obtain ⟨o, z, r⟩ := o2
      exact ⟨o, (sb'.2 it (Ne.symm hne)).trans z, r⟩
    · have hb' : b < s.heap.objs.size := by
        rcases List.mem_cons.mp hb with z | z
        · rw [z]; exact hel
        · have z' : b = it := by simpa using z
          rw [z']; exact hil
      rw [upd_ne (Nat.ne_of_lt hb')]
      exact (hf b hb).1
  done := by
    intro X hP hw hK hc i pins s σ H E I hf st hg
    subst hP hw hK
    obtain ⟨⟨old, st1⟩, st2⟩ := st
    obtain ⟨xs, hq, hx⟩ := hg
    obtain ⟨its, rv, p, hz⟩ := I.list hq
    have hl := rv.length
    obtain ⟨f0, f1, f2, f3, f4, f5⟩ := hf it (by simp)
    exact wpAny_pyNext_enum_end (I.ok.hd hc) st1 st2 p.isList (by simp; omega) fun h' eb => ⟨rfl, I.turned (t' := s.toks) (fun b o hb q => eb b o hb q) f0 f1 f3 f4 f5⟩
  self := fun A i s Q E st h => by
    obtain ⟨⟨old, st1⟩, _⟩ := st
    exact wpAny_pyIter_enum st1 h
def iEnum (K : PySem.W.Frag) (ta : TA) : TI := fun σ H R => ta σ H fun vs H1 => ∃ a, vs = [.ref a] ∧ (∃ xs, SqL K H1 a xs) ∧ R (Ite K a) H1
section
variable {X : Cx}
theorem pi_enum {es : List Expr} {k1 : Nat} {tp : Pos} {a : Expr} {ta : TA} {p pos : Pos} (hg : Gl X "enumerate") (hm : X.mg "enumerate" = none) (ha : PA X [a] ta) (hs : starEach [a] X.env = [(false, eval a X.env)] := by rfl) : PI X (.Tuple es k1 tp) (.Call (.Name "enumerate" p) [a] [] pos) (iEnum X.K ta) := by
  intro pins s σ H R I h
  refine Call_ (ld_blt I hg hm boot_enumerate (PyProof.Rows.callWith_type1 (thn (ha pos pins s σ H _ I h) fun us s1 ⟨vs, H1, I1, r1, q1⟩ => ?_) hs rfl))
  obtain ⟨b, e, ⟨xs, hq⟩, q⟩ := q1
  subst e
  obtain ⟨u, rfl, ru⟩ := vals1 r1
  cases ru
  obtain ⟨its, rv, pl, hz⟩ := I1.list hq
  refine call_enumerate_list pl.isList fun h' e1 e2 e3 kk => ?_
  have I2 : Inv X pins σ H1 { s1 with heap := h' } := I1.kept (t' := s1.toks) kk
  refine wpAny_pyIter_enum (s := { s1 with heap := h' }) e1 ?_
  refine ⟨_, [s1.heap.objs.size + 1, s1.heap.objs.size], _, _, H1, rfl, I2, turn_enum b _ _ (Nat.ne_of_gt (Nat.lt_succ_self _)), ⟨⟨_, e1⟩, e2⟩, fun c hc => ?_, q⟩
  have hc' : s1.heap.objs.size ≤ c := by
    rcases List.mem_cons.mp hc with z | z
    · rw [z]; exact Nat.le_succ _
    · have z' : c = s1.heap.objs.size := by simpa using z
      rw [z']; exact Nat.le_refl _
  exact I1.fpOk hc' (I1.hok.fresh hc')
end
theorem for_enum {K : PySem.W.Frag} {a : Addr} {xs : List V} {g : TG} {tb : TS} {D : Ends} {σ : St} {H : Hp} (Pv : Nat → St → Hp → Prop) (h0 : Pv 0 σ H) (hl : ∀ i σ H, i ≤ xs.length → Pv i σ H → SqL K H a xs)
    (hs : ∀ i x σ H t, xs[i]? = some x → Pv i σ H → H t = none → g (.ref t) σ (upd H t (.tup [.int (i : Int), x])) fun σ2 H2 => tb { D with nx := Pv (i + 1), ct := Pv (i + 1), bk := D.nx } σ2 H2) (hd : ∀ σ H, Pv xs.length σ H → D.nx σ H) :
    ∃ W : Nat → Nat → St → Hp → Prop, (∃ m, W 0 m σ H) ∧ ∀ i m σ H, W i m σ H →
      ((Ite K a).stop i H ∧ D.nx σ H) ∨ ((Ite K a).go i H ∧ ∃ N : St → Hp → Prop, (∀ σ' H', N σ' H' → ∃ m', m' < m ∧ W (i + 1) m' σ' H') ∧ ∀ x H', (Ite K a).yld i H x H' → g x σ H' fun σ2 H2 => tb { D with nx := N, ct := N, bk := D.nx } σ2 H2) := by
  refine ⟨fun i m σ H => m = xs.length - i ∧ i ≤ xs.length ∧ Pv i σ H, ⟨xs.length, by simp, Nat.zero_le _, h0⟩, ?_⟩
  rintro i m σ H ⟨rfl, hi, p⟩
  have q := hl i σ H hi p
  by_cases hlt : i < xs.length
  · refine .inr ⟨⟨xs, xs[i], q, by simp [hlt]⟩, Pv (i + 1), fun σ' H' p' => ⟨xs.length - (i + 1), by omega, rfl, hlt, p'⟩, fun x H' y => ?_⟩
    obtain ⟨t, z, rfl, ht, rfl, y⟩ := y
    exact hs i z σ H t (y xs q) p ht
  · have e : i = xs.length := by omega
    subst e
    exact .inl ⟨⟨xs, q, Nat.le_refl _⟩, hd σ H p⟩
end L2
namespace Srt
open PySem PySem.W PyProof.Rows
section
variable {n : Nat} {r : Nat → Int}
structure B (n : Nat) (p : Array Nat) : Prop where
  size : p.size = n
  perm : p.toList.Perm (List.range n)
def at' (p : Array Nat) (i : Nat) : Nat := p.getD i 0
def Dn (r : Nat → Int) (p : Array Nat) (m : Nat) : Prop := ∀ i j, i < j → j < m → r (at' p j) < r (at' p i)
structure Asks (n : Nat) (r : Nat → Int) (cmp : Nat → Nat → (Bool → Shared → Prop) → Shared → Prop) (s : Shared) : Prop where
  pos : 0 < n
  inj : ∀ i j, i < n → j < n → i ≠ j → r i ≠ r j
  ask : ∀ i j (C : Bool → Shared → Prop), i < n → j < n → i ≠ j → C (decide (r i < r j)) s → cmp i j C s
variable {cmp : Nat → Nat → (Bool → Shared → Prop) → Shared → Prop} {s : Shared}
end
end Srt
namespace Srt
open PySem PySem.W PyProof.Rows
section
open PySem.SeqAt
open PySem.AutoSeq1 (wpAny_loadPart')
open PySem.MeetsSeq PySem.MeetsSeq2 PySem.MeetsSeq3
end
section
variable {prog : Program} {w : World} {A : Around} {E : Value → Shared → Prop} {s : Shared}
end
end Srt
namespace Ink
inductive Fcs (f : Int → Int) : Nat → Rs → Prop
  | zero : Fcs f 0 []
  | skip {i : Nat} {fs : Rs} : Fcs f i fs → (i : Int) ∈ fs.flatten → Fcs f (i + 1) fs
  | add {i : Nat} {fs : Rs} {row : List Int} : Fcs f i fs → (i : Int) ∉ fs.flatten → IsFace f i row → Fcs f (i + 1) (fs ++ [row])
theorem Fcs.uniq {f : Int → Int} : ∀ {i : Nat} {fs fs' : Rs}, Fcs f i fs → Fcs f i fs' → fs = fs' := by
  intro i fs fs' h
  induction h generalizing fs' with
  | zero => intro h'; cases h'; rfl
  | skip _ hm ih =>
    intro h'
    cases h' with
    | skip h2 _ => exact ih h2
    | add h2 hn _ => exact absurd (ih h2 ▸ hm) hn
  | add _ hn hf ih =>
    intro h'
    cases h' with
    | skip h2 hm => exact absurd (ih h2 ▸ hm) hn
    | add h2 _ hf2 => rw [ih h2, hf.uniq hf2]
theorem IsFace.len {f : Int → Int} {n : Nat} (hm : ∀ x : Int, 0 ≤ x ∧ x < n → 0 ≤ f x ∧ f x < n) (hi : ∀ x y : Int, 0 ≤ x ∧ x < n → 0 ≤ y ∧ y < n → f x = f y → x = y) {x : Int} (hx : 0 ≤ x ∧ x < (n : Int)) {row : List Int} (h : IsFace f x row) : row.length ≤ n := by
  obtain ⟨j, rfl, _, l⟩ := h.ex
  obtain ⟨k, k0, k1, k2⟩ := go_round hm hi hx
  rw [orb_length]
  rcases Nat.lt_or_ge j k with z | z
  · omega
  · exact absurd k2 (l k k0 z)
theorem Fcs.bound {f : Int → Int} {n : Nat} (hm : ∀ x : Int, 0 ≤ x ∧ x < n → 0 ≤ f x ∧ f x < n) (hi : ∀ x y : Int, 0 ≤ x ∧ x < n → 0 ≤ y ∧ y < n → f x = f y → x = y) {i : Nat} {fs : Rs} (h : Fcs f i fs) (hin : i ≤ n) : fs.length ≤ i ∧ fs.flatten.length ≤ i * n := by
  induction h with
  | zero => exact ⟨Nat.le_refl _, Nat.zero_le _⟩
  | skip _ _ ih =>
    have := ih (by omega)
    refine ⟨by omega, ?_⟩
    rw [Nat.succ_mul]; omega
  | add _ _ hf ih =>
    have := ih (by omega)
    have hl := hf.len hm hi (by omega)
    rename_i row _ _
    have e1 : ([row] : Rs).flatten.length = row.length := by simp
    rw [List.length_append, List.flatten_append, List.length_append, Nat.succ_mul, e1]
    refine ⟨?_, by omega⟩
    show _ + 1 ≤ _
    omega
theorem nextIn_at : ∀ {rs : Rs} {i j : Nat} {r : List Int} {e : Int}, rs.flatten.Nodup → rs[i]? = some r → r[j]? = some e → nextIn rs e = r.getD ((j + 1) % r.length) e
  | [], _, _, _, _, _, h, _ => by simp at h
  | r0 :: rs, 0, j, r, e, nd, h, hj => by
    have : r0 = r := by simpa using h
    subst this
    obtain ⟨hl, he⟩ := List.getElem?_eq_some_iff.mp hj
    have hm : e ∈ r0 := he ▸ List.getElem_mem hl
    have nd0 : r0.Nodup := by rw [List.flatten_cons] at nd; exact (List.nodup_append.mp nd).1
    have hx : r0.idxOf e = j := by
      have h1 : r0.idxOf e < r0.length := List.idxOf_lt_length_iff.mpr hm
      exact (List.getElem_inj nd0 (h₀ := h1) (h₁ := hl)).mp ((List.getElem_idxOf h1).trans he.symm)
    show (if e ∈ r0 then behind r0 e else nextIn rs e) = _
    rw [if_pos hm]
    unfold behind
    rw [hx]
  | r0 :: rs, i + 1, j, r, e, nd, h, hj => by
    have h' : rs[i]? = some r := by simpa using h
    rw [List.flatten_cons] at nd
    obtain ⟨_, nd2, dj⟩ := List.nodup_append.mp nd
    have hm : e ∈ rs.flatten := List.mem_flatten.mpr ⟨r, List.mem_of_getElem? h', List.mem_of_getElem? hj⟩
    have hn : e ∉ r0 := fun z => dj e z e hm rfl
    show (if e ∈ r0 then behind r0 e else nextIn rs e) = _
    rw [if_neg hn]
    exact nextIn_at nd2 h' hj
def pre (n k : Nat) : Nat := (k + n - 1) % n
theorem pre_lt {n k : Nat} (h : 0 < n) : pre n k < n := Nat.mod_lt _ h
theorem pre_zero {n : Nat} (h : 0 < n) : pre n 0 = n - 1 := by unfold pre; rw [Nat.zero_add]; exact Nat.mod_eq_of_lt (by omega)
theorem pre_succ {n k : Nat} (h : k + 1 < n) : pre n (k + 1) = k := by
  unfold pre
  rw [show k + 1 + n - 1 = k + n by omega, Nat.add_mod_right, Nat.mod_eq_of_lt (by omega)]
theorem pre_next {n k : Nat} (h : k < n) : (pre n k + 1) % n = k := by
  cases k with
  | zero => rw [pre_zero h, show n - 1 + 1 = n by omega, Nat.mod_self]
  | succ k => rw [pre_succ h, Nat.mod_eq_of_lt h]
theorem pre_inj {n a b : Nat} (ha : a < n) (hb : b < n) (h : pre n a = pre n b) : a = b := by
  rw [← pre_next ha, ← pre_next hb, h]
def rot (r : List Int) (k : Nat) : List Int := (List.range k).map fun i => r.getD (pre r.length i) 0
theorem rot_succ (r : List Int) (k : Nat) : rot r (k + 1) = rot r k ++ [r.getD (pre r.length k) 0] := by
  unfold rot
  rw [List.range_succ, List.map_append]
  rfl
theorem rot_length (r : List Int) (k : Nat) : (rot r k).length = k := by unfold rot; rw [List.length_map, List.length_range]
theorem getD_pre {r : List Int} {k : Nat} (h : k < r.length) : r[pre r.length k]? = some (r.getD (pre r.length k) 0) := by
  have hl := pre_lt (k := k) (n := r.length) (by omega)
  rw [List.getD_eq_getElem?_getD, List.getElem?_eq_getElem hl]
  rfl
theorem rot_mem {r : List Int} {k : Nat} (hk : k ≤ r.length) : ∀ z ∈ rot r k, z ∈ r := by
  intro z hz
  obtain ⟨i, hi, rfl⟩ := List.mem_map.mp hz
  have := List.mem_range.mp hi
  exact List.mem_of_getElem? (getD_pre (by omega))
theorem rot_all {r : List Int} : ∀ z ∈ r, z ∈ rot r r.length := by
  intro z hz
  obtain ⟨j, hj⟩ := List.mem_iff_getElem?.mp hz
  obtain ⟨hl, e⟩ := List.getElem?_eq_some_iff.mp hj
  refine List.mem_map.mpr ⟨(j + 1) % r.length, List.mem_range.mpr (Nat.mod_lt _ (by omega)), ?_⟩
  have hp : pre r.length ((j + 1) % r.length) = j := by
    by_cases h : j + 1 = r.length
    · rw [h, Nat.mod_self, pre_zero (by omega)]; omega
    · rw [Nat.mod_eq_of_lt (by omega), pre_succ (by omega)]
  rw [hp, List.getD_eq_getElem?_getD, hj]
  rfl
theorem rot_new {r : List Int} {k : Nat} (nd : r.Nodup) (hk : k < r.length) : r.getD (pre r.length k) 0 ∉ rot r k := by
  intro z
  obtain ⟨i, hi, e⟩ := List.mem_map.mp z
  have hi' := List.mem_range.mp hi
  obtain ⟨l1, e1⟩ := List.getElem?_eq_some_iff.mp (getD_pre hk)
  obtain ⟨l2, e2⟩ := List.getElem?_eq_some_iff.mp (getD_pre (r := r) (k := i) (by omega))
  have := (List.getElem_inj nd (h₀ := l2) (h₁ := l1)).mp (e2.trans (e.trans e1.symm))
  have := pre_inj (by omega) hk this
  omega
def rots (rs : Rs) (i : Nat) : List Int := ((rs.take i).map fun r => rot r r.length).flatten
theorem rots_succ {rs : Rs} {i : Nat} {r : List Int} (h : rs[i]? = some r) : rots rs (i + 1) = rots rs i ++ rot r r.length := by
  unfold rots
  rw [List.take_add_one, h, List.map_append, List.flatten_append]
  simp
theorem rots_mem {rs : Rs} {i : Nat} : ∀ z ∈ rots rs i, z ∈ (rs.take i).flatten := by
  intro z hz
  obtain ⟨l, hl, hz⟩ := List.mem_flatten.mp hz
  obtain ⟨r, hr, rfl⟩ := List.mem_map.mp hl
  exact List.mem_flatten.mpr ⟨r, hr, rot_mem (Nat.le_refl _) z hz⟩
theorem rots_all {rs : Rs} : ∀ z ∈ rs.flatten, z ∈ rots rs rs.length := by
  intro z hz
  obtain ⟨r, hr, hz⟩ := List.mem_flatten.mp hz
  unfold rots
  rw [List.take_length]
  exact List.mem_flatten.mpr ⟨_, List.mem_map.mpr ⟨r, hr, rfl⟩, rot_all z hz⟩
theorem rots_length (rs : Rs) : (rots rs rs.length).length = rs.flatten.length := by
  unfold rots
  rw [List.take_length]
  induction rs with
  | nil => rfl
  | cons r rs ih =>
    rw [List.map_cons, List.flatten_cons, List.flatten_cons, List.length_append, List.length_append, rot_length, ih]
theorem later_new {rs : Rs} {i j : Nat} {r : List Int} {e : Int} (nd : rs.flatten.Nodup) (h : rs[i]? = some r) (hj : r[j]? = some e) : e ∉ (rs.take i).flatten := by
  intro z
  obtain ⟨hi, hr⟩ := List.getElem?_eq_some_iff.mp h
  have e1 : rs.flatten = (rs.take i).flatten ++ (rs.drop i).flatten := by rw [← List.flatten_append, List.take_append_drop]
  rw [e1] at nd
  have hd : e ∈ (rs.drop i).flatten := by
    rw [List.drop_eq_getElem_cons hi, hr, List.flatten_cons]
    exact List.mem_append_left _ (List.mem_of_getElem? hj)
  exact (List.nodup_append.mp nd).2.2 e z e hd rfl
end Ink
namespace Ink
structure Cyc (f : Int → Int) (r : List Int) : Prop where
  ne : r ≠ []
  nd : r.Nodup
  go : ∀ (i : Nat) (x : Int), r[i]? = some x → r[(i + 1) % r.length]? = some (f x)
theorem Cyc.pos {f : Int → Int} {r : List Int} (c : Cyc f r) : 0 < r.length := List.length_pos_iff.mpr c.ne
theorem Cyc.itr {f : Int → Int} {r : List Int} (c : Cyc f r) {x : Int} {i : Nat} (h : r[i]? = some x) : ∀ k, r[(i + k) % r.length]? = some (itr f k x)
  | 0 => by
    have := (List.getElem?_eq_some_iff.mp h).1
    rw [Nat.add_zero, Nat.mod_eq_of_lt this]; exact h
  | k + 1 => by
    have ih := c.go _ _ (Cyc.itr c h k)
    rw [Nat.mod_add_mod] at ih
    exact ih
theorem Cyc.face {f : Int → Int} {x : Int} {t : List Int} (c : Cyc f (x :: t)) : IsFace f x (x :: t) := by
  have h0 : (x :: t)[0]? = some x := rfl
  have hk := c.itr h0
  refine ⟨t.length, ?_, ?_, fun i h1 h2 e => ?_⟩
  · refine List.ext_getElem? fun i => ?_
    unfold orb
    by_cases hi : i < t.length + 1
    · have := hk i
      rw [Nat.zero_add, Nat.mod_eq_of_lt (by rw [List.length_cons]; exact hi)] at this
      rw [this, List.getElem?_map, List.getElem?_range hi]
      rfl
    · rw [List.getElem?_eq_none (by rw [List.length_cons]; omega), List.getElem?_eq_none (by rw [List.length_map, List.length_range]; omega)]
  · have := hk (t.length + 1)
    rw [Nat.zero_add, List.length_cons, Nat.mod_self] at this
    exact (Option.some.inj this).symm
  · have := hk i
    rw [Nat.zero_add, Nat.mod_eq_of_lt (by rw [List.length_cons]; omega), e] at this
    obtain ⟨l1, e1⟩ := List.getElem?_eq_some_iff.mp this
    have := (List.getElem_inj c.nd (h₀ := l1) (h₁ := by simp)).mp (e1.trans (show x = (x :: t)[0] from rfl))
    omega
theorem IsFace.cyc {f : Int → Int} {n : Nat} (hm : ∀ x : Int, 0 ≤ x ∧ x < n → 0 ≤ f x ∧ f x < n) (hi : ∀ x y : Int, 0 ≤ x ∧ x < n → 0 ≤ y ∧ y < n → f x = f y → x = y) {x : Int} (hx : 0 ≤ x ∧ x < (n : Int)) {row : List Int} (h : IsFace f x row) : Cyc f row := by
  obtain ⟨j, rfl, e, l⟩ := h.ex
  refine ⟨?_, ?_, ?_⟩
  · intro z
    have := congrArg List.length z
    rw [orb_length] at this
    cases this
  · unfold orb
    rw [List.nodup_iff_pairwise_ne, List.pairwise_map]
    refine List.Pairwise.imp_of_mem ?_ List.pairwise_lt_range
    intro a b ha hb hab q
    have hb' := List.mem_range.mp hb
    refine l (b - a) (by omega) (by omega) (itr_back hm hi hx a (b - a) ?_)
    rw [show a + (b - a) = b by omega]
    exact q.symm
  · intro i y hy
    have hil : i < j + 1 := by
      have := (List.getElem?_eq_some_iff.mp hy).1
      rw [orb_length] at this
      exact this
    have hy' : y = itr f i x := by
      unfold orb at hy
      rw [List.getElem?_map, List.getElem?_range hil] at hy
      exact (Option.some.inj hy).symm
    rw [orb_length]
    unfold orb
    rw [List.getElem?_map]
    by_cases h1 : i = j
    · rw [h1, Nat.mod_self, List.getElem?_range (by omega)]
      show some x = some (f y)
      rw [hy', h1]
      exact congrArg some e.symm
    · rw [Nat.mod_eq_of_lt (by omega), List.getElem?_range (by omega), hy']
      rfl
theorem orb_first (f : Int → Int) (x : Int) (j : Nat) : (orb f x j)[0]? = some x := by
  unfold orb
  rw [List.getElem?_map, List.getElem?_range (by omega)]
  rfl
theorem getElem?_rot (a b : List Int) (i : Nat) (h : i < (a ++ b).length) : (b ++ a)[i]? = (a ++ b)[(i + a.length) % (a ++ b).length]? := by
  rw [List.length_append] at h ⊢
  by_cases hi : i < b.length
  · rw [List.getElem?_append_left hi, Nat.mod_eq_of_lt (by omega), List.getElem?_append_right (by omega), show i + a.length - a.length = i by omega]
  · rw [List.getElem?_append_right (by omega), show i + a.length = (i - b.length) + (a.length + b.length) by omega, Nat.add_mod_right, Nat.mod_eq_of_lt (by omega), List.getElem?_append_left (by omega)]
theorem Cyc.rot {f : Int → Int} {a b : List Int} (c : Cyc f (a ++ b)) : Cyc f (b ++ a) := by
  have hp := c.pos
  have hl : (b ++ a).length = (a ++ b).length := by rw [List.length_append, List.length_append]; omega
  refine ⟨fun z => ?_, (List.perm_append_comm.nodup_iff).mp c.nd, fun i x hx => ?_⟩
  · rw [z] at hl
    rw [← hl] at hp
    exact absurd hp (by simp)
  · have hi : i < (a ++ b).length := by rw [← hl]; exact (List.getElem?_eq_some_iff.mp hx).1
    rw [getElem?_rot a b i hi] at hx
    have h2 := c.go _ _ hx
    rw [hl, getElem?_rot a b _ (Nat.mod_lt _ hp), Nat.mod_add_mod, ← h2, Nat.mod_add_mod]
    congr 2
    omega
structure Cycs (f : Int → Int) (n : Nat) (L : Rs) : Prop where
  cyc : ∀ r ∈ L, Cyc f r
  nd : L.flatten.Nodup
  mem : ∀ z : Int, z ∈ L.flatten ↔ 0 ≤ z ∧ z < n
def least : List Int → Int
  | [] => 0
  | [x] => x
  | x :: y :: t => min x (least (y :: t))
theorem least_le : ∀ {r : List Int} {z : Int}, z ∈ r → least r ≤ z
  | [x], z, h => by simp at h; subst h; exact Int.le_refl _
  | x :: y :: t, z, h => by
    have e : least (x :: y :: t) = min x (least (y :: t)) := rfl
    rw [e]
    rcases List.mem_cons.mp h with rfl | h
    · omega
    · have := least_le h
      omega
theorem least_mem : ∀ {r : List Int}, r ≠ [] → least r ∈ r
  | [], h => absurd rfl h
  | [x], _ => by simp [least]
  | x :: y :: t, _ => by
    have e : least (x :: y :: t) = min x (least (y :: t)) := rfl
    have ih := least_mem (r := y :: t) (by simp)
    rw [e]
    by_cases h : x ≤ least (y :: t)
    · rw [Int.min_eq_left h]; exact List.mem_cons_self
    · rw [Int.min_eq_right (by omega)]; exact List.mem_cons_of_mem _ ih
def fromLeast (r : List Int) : List Int := r.drop (r.idxOf (least r)) ++ r.take (r.idxOf (least r))
theorem fromLeast_cons {r : List Int} (h : r ≠ []) : ∃ t, fromLeast r = least r :: t := by
  have hm := least_mem h
  have hl : r.idxOf (least r) < r.length := List.idxOf_lt_length_iff.mpr hm
  unfold fromLeast
  rw [List.drop_eq_getElem_cons hl, List.getElem_idxOf hl]
  exact ⟨_, rfl⟩
theorem fromLeast_perm (r : List Int) : (fromLeast r).Perm r := by
  unfold fromLeast
  refine List.perm_append_comm.trans ?_
  rw [List.take_append_drop]
theorem Cyc.fromLeast {f : Int → Int} {r : List Int} (c : Cyc f r) : Cyc f (fromLeast r) := by
  refine Cyc.rot ?_
  rw [List.take_append_drop]
  exact c
def hd (r : List Int) : Int := r.headD 0
theorem perm_flatten_map {g : List Int → List Int} (hg : ∀ r, (g r).Perm r) : ∀ L : Rs, (L.map g).flatten.Perm L.flatten
  | [] => .nil
  | r :: L => by
    rw [List.map_cons, List.flatten_cons, List.flatten_cons]
    exact (hg r).append (perm_flatten_map hg L)
theorem perm_flatten {L L' : Rs} (h : L.Perm L') : L.flatten.Perm L'.flatten := by
  induction h with
  | nil => exact .nil
  | cons x _ ih => rw [List.flatten_cons, List.flatten_cons]; exact ih.append_left _
  | swap x y l =>
    rw [List.flatten_cons, List.flatten_cons, List.flatten_cons, List.flatten_cons, ← List.append_assoc, ← List.append_assoc]
    exact List.perm_append_comm.append_right _
  | trans _ _ i1 i2 => exact i1.trans i2
theorem Cycs.perm {f : Int → Int} {n : Nat} {L L' : Rs} (c : Cycs f n L) (h : L.Perm L') : Cycs f n L' :=
  ⟨fun r hr => c.cyc r (h.mem_iff.mpr hr), (perm_flatten h).nodup_iff.mp c.nd, fun z => by rw [← (perm_flatten h).mem_iff]; exact c.mem z⟩
theorem Cycs.least {f : Int → Int} {n : Nat} {L : Rs} (c : Cycs f n L) : Cycs f n (L.map Ink.fromLeast) := by
  have p := perm_flatten_map (g := Ink.fromLeast) fromLeast_perm L
  refine ⟨fun r hr => ?_, p.nodup_iff.mpr c.nd, fun z => by rw [p.mem_iff]; exact c.mem z⟩
  obtain ⟨t, ht, rfl⟩ := List.mem_map.mp hr
  exact (c.cyc t ht).fromLeast
structure Rising (f : Int → Int) (n : Nat) (L : Rs) : Prop where
  cs : Cycs f n L
  hds : L.Pairwise fun a b => hd a < hd b
  lst : ∀ r ∈ L, ∀ z ∈ r, hd r ≤ z
theorem hd_mem {r : List Int} (h : r ≠ []) : hd r ∈ r := by
  cases r with
  | nil => exact absurd rfl h
  | cons x t => exact List.mem_cons_self
theorem row_inj {L : Rs} (nd : L.flatten.Nodup) {a b : List Int} (ha : a ∈ L) (hb : b ∈ L) {z : Int} (h1 : z ∈ a) (h2 : z ∈ b) : a = b := by
  induction L with
  | nil => cases ha
  | cons r L ih =>
    rw [List.flatten_cons] at nd
    obtain ⟨n1, n2, n3⟩ := List.nodup_append.mp nd
    rcases List.mem_cons.mp ha with ea | ha'
    · rcases List.mem_cons.mp hb with eb | hb'
      · rw [ea, eb]
      · rw [ea] at h1
        exact absurd rfl (n3 z h1 z (List.mem_flatten.mpr ⟨b, hb', h2⟩))
    · rcases List.mem_cons.mp hb with eb | hb'
      · rw [eb] at h2
        exact absurd rfl (n3 z h2 z (List.mem_flatten.mpr ⟨a, ha', h1⟩))
      · exact ih n2 ha' hb'
theorem Rising.fcs {f : Int → Int} {n : Nat} {L : Rs} (c : Rising f n L) : ∀ i, i ≤ n → Fcs f i (L.filter fun r => decide (hd r < i))
  | 0, _ => by
    have e : (L.filter fun r => decide (hd r < (0 : Nat))) = [] := by
      rw [List.filter_eq_nil_iff]
      intro r hr z
      have h1 := of_decide_eq_true z
      have h2 := (c.cs.mem (hd r)).mp (List.mem_flatten.mpr ⟨r, hr, hd_mem (c.cs.cyc r hr).ne⟩)
      omega
    rw [e]
    exact .zero
  | i + 1, hi => by
    have ih := Rising.fcs c i (by omega)
    obtain ⟨r, hr, hir⟩ := List.mem_flatten.mp ((c.cs.mem (i : Int)).mpr ⟨by omega, by omega⟩)
    by_cases hh : hd r = i
    · -- a new face
      obtain ⟨A, B, rfl⟩ := List.append_of_mem hr
      obtain ⟨p1, p2, p3⟩ := List.pairwise_append.mp c.hds
      obtain ⟨p4, p5⟩ := List.pairwise_cons.mp p2
      have fA : ∀ k : Nat, i ≤ k → (A.filter fun r => decide (hd r < (k : Int))) = A := fun k hk => List.filter_eq_self.mpr fun a ha => decide_eq_true (by have := p3 a ha r List.mem_cons_self; omega)
      have fB : ∀ k : Nat, k ≤ i + 1 → (B.filter fun r => decide (hd r < (k : Int))) = [] := fun k hk => by
        rw [List.filter_eq_nil_iff]
        intro b hb z
        have h1 := of_decide_eq_true z
        have h2 := p4 b hb
        omega
      have e1 : ((A ++ r :: B).filter fun r => decide (hd r < ((i : Nat) : Int))) = A := by
        rw [List.filter_append, List.filter_cons, fA i (Nat.le_refl _), fB i (by omega), if_neg (by simp [hh]), List.append_nil]
      have e2 : ((A ++ r :: B).filter fun r => decide (hd r < ((i + 1 : Nat) : Int))) = A ++ [r] := by
        rw [List.filter_append, List.filter_cons, fA (i + 1) (by omega), fB (i + 1) (Nat.le_refl _), if_pos (by rw [hh]; exact decide_eq_true (by omega))]
      rw [e1] at ih
      rw [e2]
      have cr := c.cs.cyc r hr
      refine .add ih (fun z => ?_) ?_
      · obtain ⟨a, ha, hz⟩ := List.mem_flatten.mp z
        have := row_inj c.cs.nd (List.mem_append_left _ ha) hr hz hir
        have h3 := p3 a ha r List.mem_cons_self
        rw [this] at h3
        omega
      · cases r with
        | nil => exact absurd rfl cr.ne
        | cons x t =>
          have : x = (i : Int) := hh
          subst this
          exact cr.face
    · have hlt : hd r < i := by
        have := c.lst r hr _ hir
        omega
      have e : (L.filter fun r => decide (hd r < ((i + 1 : Nat) : Int))) = L.filter fun r => decide (hd r < ((i : Nat) : Int)) := by
        refine List.filter_congr fun a ha => ?_
        have hne : hd a ≠ i := fun z => by
          have ha' := hd_mem (c.cs.cyc a ha).ne
          rw [z] at ha'
          have := row_inj c.cs.nd ha hr ha' hir
          rw [this] at z
          exact hh z
        rw [Bool.eq_iff_iff, decide_eq_true_iff, decide_eq_true_iff]
        omega
      rw [e]
      exact .skip ih (List.mem_flatten.mpr ⟨r, List.mem_filter.mpr ⟨hr, decide_eq_true hlt⟩, hir⟩)
theorem Rising.all {f : Int → Int} {n : Nat} {L : Rs} (c : Rising f n L) : Fcs f n L := by
  have h := c.fcs n (Nat.le_refl _)
  have e : (L.filter fun r => decide (hd r < (n : Int))) = L := List.filter_eq_self.mpr fun a ha => decide_eq_true ((c.cs.mem _).mp (List.mem_flatten.mpr ⟨a, ha, hd_mem (c.cs.cyc a ha).ne⟩)).2
  rw [e] at h
  exact h
theorem Cycs.sorted {f : Int → Int} {n : Nat} {L M : Rs} (c : Cycs f n L) (h : M.Perm (L.map Ink.fromLeast)) (hs : M.Pairwise fun a b => hd a ≤ hd b) : Rising f n M := by
  have cM : Cycs f n M := c.least.perm h.symm
  have hl : ∀ r ∈ M, ∀ z ∈ r, hd r ≤ z := by
    intro r hr z hz
    obtain ⟨t, ht, rfl⟩ := List.mem_map.mp (h.mem_iff.mp hr)
    obtain ⟨u, hu⟩ := fromLeast_cons (c.cyc t ht).ne
    have : hd (Ink.fromLeast t) = Ink.least t := by rw [hu]; rfl
    rw [this]
    exact least_le ((fromLeast_perm t).mem_iff.mp hz)
  refine ⟨cM, ?_, hl⟩
  have nd := cM.nd
  have hne := fun r hr => (cM.cyc r hr).ne
  clear hl h cM
  induction M with
  | nil => exact .nil
  | cons r M ih =>
    obtain ⟨h1, h2⟩ := List.pairwise_cons.mp hs
    rw [List.flatten_cons] at nd
    obtain ⟨n1, n2, n3⟩ := List.nodup_append.mp nd
    refine List.pairwise_cons.mpr ⟨fun b hb => ?_, ih h2 n2 fun r hr => hne r (List.mem_cons_of_mem _ hr)⟩
    have h3 := h1 b hb
    have h4 := n3 _ (hd_mem (hne r List.mem_cons_self)) _ (List.mem_flatten.mpr ⟨b, hb, hd_mem (hne b (List.mem_cons_of_mem _ hb))⟩)
    omega
theorem Cycs.fcs {f : Int → Int} {n : Nat} {L : Rs} (c : Cycs f n L) : ∃ fs, Fcs f n fs ∧ fs.length = L.length := by
  refine ⟨(L.map Ink.fromLeast).mergeSort (fun a b => decide (hd a ≤ hd b)), (c.sorted (List.mergeSort_perm _ _) ?_).all, by rw [(List.mergeSort_perm _ _).length_eq, List.length_map]⟩
  have := List.pairwise_mergeSort (le := fun (a b : List Int) => decide (hd a ≤ hd b)) (fun a b c h1 h2 => by simp at h1 h2 ⊢; omega) (fun a b => by simp; omega) (L.map Ink.fromLeast)
  exact this.imp fun h => of_decide_eq_true h
theorem Fcs.cycs {f : Int → Int} {n : Nat} (hm : ∀ x : Int, 0 ≤ x ∧ x < n → 0 ≤ f x ∧ f x < n) (hi : ∀ x y : Int, 0 ≤ x ∧ x < n → 0 ≤ y ∧ y < n → f x = f y → x = y) {i : Nat} {fs : Rs} (h : Fcs f i fs) (hin : i ≤ n) :
    (∀ r ∈ fs, Cyc f r) ∧ fs.flatten.Nodup ∧ (∀ z ∈ fs.flatten, 0 ≤ z ∧ z < (n : Int)) ∧ ∀ k : Nat, k < i → (k : Int) ∈ fs.flatten := by
  induction h with
  | zero => exact ⟨(fun r hr => by cases hr), List.nodup_nil, (fun z hz => by cases hz), fun k hk => absurd hk (by omega)⟩
  | skip _ hmem ih =>
    rename_i i0 fs0 _
    obtain ⟨a, b, c, d⟩ := ih (by omega)
    refine ⟨a, b, c, fun k hk => ?_⟩
    rcases Nat.lt_or_ge k i0 with z | z
    · exact d k z
    · rw [show k = i0 by omega]; exact hmem
  | add _ hn hf ih =>
    rename_i i0 fs0 row _
    obtain ⟨a, b, c, d⟩ := ih (by omega)
    have hx : 0 ≤ (i0 : Int) ∧ (i0 : Int) < n := by omega
    have cr := hf.cyc hm hi hx
    have e1 : ([row] : Rs).flatten = row := by simp
    refine ⟨fun r hr => ?_, ?_, fun z hz => ?_, fun k hk => ?_⟩
    · rcases List.mem_append.mp hr with z | z
      · exact a r z
      · have : r = row := by simpa using z
        subst this; exact cr
    · rw [List.flatten_append, e1]
      refine List.nodup_append.mpr ⟨b, cr.nd, fun y hy z hz q => ?_⟩
      subst q
      -- y in an earlier cycle and in this one: then its first is in the earlier one
      obtain ⟨r, hr, hyr⟩ := List.mem_flatten.mp hy
      obtain ⟨p, hp⟩ := List.mem_iff_getElem?.mp hz
      obtain ⟨q, hq⟩ := List.mem_iff_getElem?.mp hyr
      have hpl : p < row.length := (List.getElem?_eq_some_iff.mp hp).1
      have h1 := cr.itr hp (row.length - p)
      rw [show p + (row.length - p) = row.length by omega, Nat.mod_self] at h1
      have h2 := (a r hr).itr hq (row.length - p)
      obtain ⟨j, hj, _⟩ := hf.ex
      have h3 : row[0]? = some (i0 : Int) := by rw [hj]; exact orb_first _ _ _
      rw [h3] at h1
      rw [← h1] at h2
      exact hn (List.mem_flatten.mpr ⟨r, hr, List.mem_of_getElem? h2⟩)
    · rw [List.flatten_append, e1] at hz
      rcases List.mem_append.mp hz with z' | z'
      · exact c z z'
      · exact hf.mem hm hx z z'
    · rw [List.flatten_append, e1]
      rcases Nat.lt_or_ge k i0 with z | z
      · exact List.mem_append_left _ (d k z)
      · rw [show k = i0 by omega]
        refine List.mem_append_right _ ?_
        obtain ⟨j, hj, _⟩ := hf.ex
        rw [hj]
        exact List.mem_of_getElem? (i := 0) (orb_first _ _ _)
theorem Fcs.all {f : Int → Int} {n : Nat} (hm : ∀ x : Int, 0 ≤ x ∧ x < n → 0 ≤ f x ∧ f x < n) (hi : ∀ x y : Int, 0 ≤ x ∧ x < n → 0 ≤ y ∧ y < n → f x = f y → x = y) {fs : Rs} (h : Fcs f n fs) : Cycs f n fs := by
  obtain ⟨a, b, c, d⟩ := h.cycs hm hi (Nat.le_refl _)
  refine ⟨a, b, fun z => ⟨c z, fun hz => ?_⟩⟩
  have := d z.toNat (by omega)
  rw [show ((z.toNat : Nat) : Int) = z by omega] at this
  exact this
theorem Cycs.count {f : Int → Int} {n : Nat} {L M : Rs} (c : Cycs f n L) (d : Cycs f n M) : L.length = M.length := by
  obtain ⟨fs, h1, h2⟩ := c.fcs
  obtain ⟨gs, h3, h4⟩ := d.fcs
  rw [← h2, ← h4, h1.uniq h3]
end Ink
namespace L2
open PySem PySem.Spec PyProof.Rows
section
variable {prog : Program} {w : World} {A : Around} {E : Value → Shared → Prop} {s : Shared}
end
section
variable {X : Cx} {tg : Expr}
theorem call_min (hc : X.calm = true) : CallR X (.builtin "min") (fun xs H Q => ∃ (p : Addr) (ns : List Int), xs = [.ref p] ∧ SqL X.K H p (ns.map V.int) ∧ ns ≠ [] ∧ ∀ m : Int, m ∈ ns → (∀ z ∈ ns, m ≤ z) → Q (.int m) H) := by
  intro pins s σ H xs us Q I r h
  obtain ⟨p, ns, rfl, hq, hne, q⟩ := h
  obtain ⟨u, rfl, ru⟩ := vals1 r
  cases ru
  obtain ⟨its, rv, pl, hz⟩ := I.list hq
  have hi := intsAre_of rv
  obtain ⟨zs, hzs⟩ := hi.allInts.items
  have hl := pl.isList
  rw [hzs] at hl
  have hnum : zs.toList.map (·.1) = ns := by
    rw [← nums_intItems, ← hzs]
    show numsOf its = ns
    rw [hi.numsOf]
  have hsz : 0 < zs.size := by
    have : zs.toList.length = ns.length := by rw [← hnum, List.length_map]
    rw [Array.length_toList] at this
    have := List.length_pos_iff.mpr hne
    omega
  refine min_intList (I.ok.hd hc) hl hsz fun v h' tk hv hk => ?_
  obtain ⟨t, rfl⟩ := intItems_at hv
  obtain ⟨h1, h2⟩ := argBest_lt (numAt zs) (zs.size - 1)
  refine ⟨.int _, H, I.kept hk, ⟨t, rfl⟩, q _ ?_ fun a ha => ?_⟩
  · rw [numAt_eq, ← hnum]; exact getD_mem (by rw [List.length_map, Array.length_toList]; omega)
  · rw [← hnum] at ha
    obtain ⟨j, hj, rfl⟩ := mem_getD ha
    rw [List.length_map, Array.length_toList] at hj
    rw [← numAt_eq]; exact h2 j (by omega)
theorem vals_refs : ∀ {ps : List Addr} {us : List Value}, Vals (ps.map V.ref) us → us = ps.map Value.ref
  | [], _, r => by rw [List.map_nil] at r; cases r; rfl
  | p :: ps, _, r => by
    rw [List.map_cons] at r
    cases r with
    | cons r1 r2 =>
      cases r1
      rw [vals_refs r2, List.map_cons]
theorem range_getD {α : Type} (l : List α) (d : α) : ((List.range l.length).map fun i => l.getD i d) = l := by
  refine List.ext_getElem? fun i => ?_
  by_cases hi : i < l.length
  · rw [List.getElem?_map, List.getElem?_range hi, List.getElem?_eq_getElem hi]
    show some (l.getD i d) = _
    rw [List.getD_eq_getElem?_getD, List.getElem?_eq_getElem hi]
    rfl
  · rw [List.getElem?_eq_none (by simp; omega), List.getElem?_eq_none (by omega)]
end
end L2
namespace L2
open PySem PySem.Spec PyProof.Rows
def clOf (cells : List (Str × Addr)) : List (Str × NameKind) → List (Str × Addr) → List (Str × Addr)
  | [], acc => acc
  | (n, k) :: r, acc => clOf cells r (if k == .free then (n, (cells.lookup n).getD 0) :: acc else acc)
theorem closureFor_cl {scope : Scope} {env : Env} (h : ∀ y ∈ scope.names, y.2 = .free → ∃ c, env.cells.lookup y.1 = some c) : closureFor scope env = pure (clOf env.cells scope.names []) := by
  simp only [closureFor]
  generalize scope.names = names at h ⊢
  generalize ([] : List (Str × Addr)) = acc
  have key : ∀ (names : List (Str × NameKind)) (acc : List (Str × Addr)), (∀ y ∈ names, y.2 = .free → ∃ c, env.cells.lookup y.1 = some c) →
      (forIn names acc fun (x : Str × NameKind) (r : List (Str × Addr)) => match x with
        | (name, kind) => if (kind == NameKind.free) = true then (do let c ← cellOf env name; pure (ForInStep.yield ((name, c) :: r)) : Sem (ForInStep (List (Str × Addr)))) else pure (ForInStep.yield r)) = pure (clOf env.cells names acc) := by
    intro names
    induction names with
    | nil => intro acc _; rfl
    | cons y names ih =>
      obtain ⟨n, k⟩ := y
      intro acc h
      rw [List.forIn_cons]
      by_cases hk : k = .free
      · obtain ⟨c, hc⟩ := h (n, k) List.mem_cons_self hk
        subst hk
        have e1 : cellOf env n = pure c := by unfold cellOf; rw [hc]
        simp only [beq_self_eq_true, if_true, e1, pure_bind]
        rw [ih _ fun y hy => h y (List.mem_cons_of_mem _ hy)]
        show pure (clOf env.cells names ((n, c) :: acc)) = pure (clOf env.cells names (if (NameKind.free == NameKind.free) = true then (n, (env.cells.lookup n).getD 0) :: acc else acc))
        rw [hc]
        rfl
      · have hk' : (k == NameKind.free) = false := beq_eq_false_iff_ne.mpr hk
        simp only [hk', Bool.false_eq_true, if_false, pure_bind]
        rw [ih _ fun y hy => h y (List.mem_cons_of_mem _ hy)]
        show pure (clOf env.cells names acc) = pure (clOf env.cells names (if (k == NameKind.free) = true then _ else acc))
        rw [hk']
        rfl
  have := key names acc h
  simp only at this
  rw [this]
  rfl
theorem clOf_mem {cells : List (Str × Addr)} : ∀ {names : List (Str × NameKind)} {acc : List (Str × Addr)} {p : Str × Addr}, p ∈ clOf cells names acc → p ∈ acc ∨ ((p.1, NameKind.free) ∈ names ∧ p.2 = (cells.lookup p.1).getD 0)
  | [], _, _, h => .inl h
  | (n, k) :: r, acc, p, h => by
    have h' : p ∈ clOf cells r (if k == .free then (n, (cells.lookup n).getD 0) :: acc else acc) := h
    rcases clOf_mem h' with z | ⟨z1, z2⟩
    · by_cases hk : (k == NameKind.free) = true
      · rw [if_pos hk] at z
        rcases List.mem_cons.mp z with z | z
        · subst z
          have : k = .free := eq_of_beq hk
          subst this
          exact .inr ⟨List.mem_cons_self, rfl⟩
        · exact .inl z
      · rw [if_neg hk] at z
        exact .inl z
    · exact .inr ⟨List.mem_cons_of_mem _ z1, z2⟩
theorem clOf_has {cells : List (Str × Addr)} : ∀ {names : List (Str × NameKind)} {acc : List (Str × Addr)} {y : Str}, ((∃ c, (y, c) ∈ acc) ∨ (y, NameKind.free) ∈ names) → ∃ c, (y, c) ∈ clOf cells names acc
  | [], _, _, h => by
    rcases h with h | h
    · exact h
    · cases h
  | (n, k) :: r, acc, y, h => by
    show ∃ c, (y, c) ∈ clOf cells r (if k == .free then (n, (cells.lookup n).getD 0) :: acc else acc)
    refine clOf_has ?_
    rcases h with ⟨c, hc⟩ | h
    · refine .inl ⟨c, ?_⟩
      split
      · exact List.mem_cons_of_mem _ hc
      · exact hc
    · rcases List.mem_cons.mp h with z | z
      · injection z with z1 z2
        subst z1; subst z2
        exact .inl ⟨_, by rw [if_pos (by rfl)]; exact List.mem_cons_self⟩
      · exact .inr z
theorem lookup_of_mem {α : Type} : ∀ {l : List (Str × α)} {y : Str} {c : α}, (y, c) ∈ l → ∃ c', l.lookup y = some c'
  | (n, d) :: r, y, c, h => by
    rw [List.lookup_cons]
    cases e : y == n with
    | true => exact ⟨_, rfl⟩
    | false =>
      rcases List.mem_cons.mp h with z | z
      · injection z with z1 _
        subst z1
        rw [beq_self_eq_true] at e
        cases e
      · exact lookup_of_mem z
def capOk (X : Cx) (x : Str) (caps : List Nat) (scope : Scope) : Bool :=
  scope.names.all (fun y => y.2 != .cell && (y.2 != .local || scope.names.lookup y.1 == some .local) && (y.2 != .free || (scope.names.lookup y.1 == some .free && (X.env.scope.names.lookup y.1 == some .cell || X.env.scope.names.lookup y.1 == some .free))))
  && caps.all fun i => match X.N[i]? with
    | some y => scope.names.lookup y == some .free && (X.env.scope.names.lookup y == some .cell || X.env.scope.names.lookup y == some .free)
    | none => false
theorem Blk.capt {X : Cx} {x : Str} {caps : List Nat} {scope : Scope} (hk : scope.kind = .function) (h : capOk X x caps scope = true) (hx : scope.names.lookup x = some .local) (nd : (x :: caps.map fun i => X.N.getD i "").Nodup) (ok : X.Ok) :
    Blk X x caps scope (clOf X.env.cells scope.names []) := by
  unfold capOk at h
  rw [Bool.and_eq_true] at h
  obtain ⟨h1, h2⟩ := h
  have hy : ∀ y ∈ scope.names, y.2 ≠ .cell ∧ (y.2 = .local → scope.names.lookup y.1 = some .local) ∧ (y.2 = .free → scope.names.lookup y.1 = some .free ∧ (X.env.scope.names.lookup y.1 = some .cell ∨ X.env.scope.names.lookup y.1 = some .free)) := fun y hy => by
    have q := List.all_eq_true.mp h1 y hy
    rw [Bool.and_eq_true, Bool.and_eq_true] at q
    obtain ⟨⟨q1, q2⟩, q3⟩ := q
    refine ⟨fun e => by rw [e] at q1; simp at q1, fun e => by rw [e] at q2; simpa using q2, fun e => ?_⟩
    rw [e] at q3
    simpa using q3
  have hfree : ∀ y ∈ scope.names, y.2 = .free → ∃ c, X.env.cells.lookup y.1 = some c := fun y hm e => ok.has y.1 ((hy y hm).2.2 e).2
  refine ⟨closureFor_cl hfree, fun y hm => (hy y hm).1, hk, fun y hm => (hy y hm).2.1, hx, fun y c e => ?_, fun y e => ?_, fun y e => ?_, nd, fun i hi => ?_⟩
  · have hm := PySem.mem_of_lookup e
    rcases clOf_mem hm with z | ⟨z1, z2⟩
    · cases z
    · obtain ⟨c', hc'⟩ := hfree _ z1 rfl
      have z2' : c = (X.env.cells.lookup y).getD 0 := z2
      rw [z2', show X.env.cells.lookup y = some c' from hc']
      rfl
  · obtain ⟨c, hc⟩ := clOf_has (cells := X.env.cells) (acc := []) (.inr (PySem.mem_of_lookup e))
    exact lookup_of_mem hc
  · cases q : (clOf X.env.cells scope.names []).lookup y with
    | none => rfl
    | some c =>
      rcases clOf_mem (PySem.mem_of_lookup q) with z | ⟨z1, _⟩
      · cases z
      · have := ((hy _ z1).2.2 rfl).1
        have this' : scope.names.lookup y = some .free := this
        rw [e] at this'
        cases this'
  · have q := List.all_eq_true.mp h2 i hi
    cases e : X.N[i]? with
    | none => rw [e] at q; cases q
    | some y =>
      rw [e] at q
      refine ⟨y, rfl, ?_⟩
      simpa using q
theorem Blk.captN {X : Cx} {x : Str} {caps : List Nat} {scope : Scope} (N : List Str) (sn : List (Str × NameKind)) (hN : X.N = N) (hn : X.env.scope.names = sn) (hk : scope.kind = .function)
    (h : (scope.names.all (fun y => y.2 != .cell && (y.2 != .local || scope.names.lookup y.1 == some .local) && (y.2 != .free || (scope.names.lookup y.1 == some .free && (sn.lookup y.1 == some .cell || sn.lookup y.1 == some .free))))
      && caps.all fun i => match N[i]? with
        | some y => scope.names.lookup y == some .free && (sn.lookup y == some .cell || sn.lookup y == some .free)
        | none => false) = true) (hx : scope.names.lookup x = some .local) (nd : (x :: caps.map fun i => N.getD i "").Nodup) (ok : X.Ok) :
    Blk X x caps scope (clOf X.env.cells scope.names []) := by
  subst hN hn
  exact Blk.capt hk h hx nd ok
end L2
namespace L2
open PySem PySem.Spec PyProof.Rows
section
variable {X : Cx}
theorem kv_keys : ∀ {kvs : List (Key × V)} {vs : List (Key × Value)}, KV kvs vs → vs.map (·.1) = kvs.map (·.1)
  | _, _, .nil => rfl
  | _, _, .cons h r => by rw [List.map_cons, List.map_cons, kv_keys r, h.1]
theorem call_sortedD (hc : X.calm = true) : CallR X (.builtin "sorted") (fun xs H Q => ∃ (d : Addr) (kvs : List (Key × V)) (ns : List Int), xs = [.ref d] ∧ H d = some (.dK kvs) ∧ kvs.map (·.1) = ns.map Sum.inl ∧ ns.length < 64 ∧
    ∀ (l : Addr) (ns' : List Int), H l = none → ns'.Perm ns → ns'.Pairwise (· ≤ ·) → Q (.ref l) (upd H l (.lst (ns'.map V.int)))) := by
  intro pins s σ H xs us Q I r h
  obtain ⟨d, kvs, ns, rfl, hd, hk, h64, q⟩ := h
  obtain ⟨u, rfl, ru⟩ := vals1 r
  cases ru
  obtain ⟨z, hsys, vs, rel, dd⟩ := dk_of I.hok hd
  obtain ⟨ep, hat⟩ := dd.dictAt
  have hkeys := kv_keys rel
  rw [hk] at hkeys
  have hlen : vs.length = ns.length := by
    have := congrArg List.length hkeys
    rw [List.length_map, List.length_map] at this
    exact this
  have hs : sizeLine = 16777216 := sizeLine_eq
  refine Calls.call_function_entry kind_sorted plain_sorted entry_sorted (args_sorted1 _) ?_
  unfold Builtin.«sorted»
  refine wpAny_bind (m := checkCount "sorted" 1 1 _) (wpAny_pure ?_)
  refine wpAny_bind (PySem.W.kdu_collect (PySem.W.kdl_dict (knd := mixKind X.prog X.w) (kvs := vs) (ep := ep) hsys) (I.ok.hd hc) hat (by omega) fun h' tk acc hkeep hacc => ?_)
  have hal : acc.toList.length = ns.length := by rw [Array.length_toList, hacc.1, hlen]
  have hI : IntsAre acc.toList ns := by
    refine intsAre_of ?_
    have key : ∀ (as : List Value) (ms : List Int), as.length = ms.length → (∀ (j : Nat) (v : Value) (m : Int), as[j]? = some v → ms[j]? = some m → ∃ t, v = .int m t) → Vals (ms.map V.int) as := by
      intro as
      induction as with
      | nil =>
        intro ms hl _
        cases ms with
        | nil => exact .nil
        | cons m ms => cases hl
      | cons a as ih =>
        intro ms hl hj
        cases ms with
        | nil => cases hl
        | cons m ms =>
          exact .cons (hj 0 a m rfl rfl) (ih ms (by simpa using hl) fun j v m e1 e2 => hj (j + 1) v m (by simpa using e1) (by simpa using e2))
    refine key _ _ hal fun j v m e1 e2 => ?_
    obtain ⟨k, x, e3, e4⟩ := hacc.2 j v (by rw [← Array.getElem?_toList]; exact e1)
    have e5 : (vs.map (·.1))[j]? = some k := by rw [List.getElem?_map, e3]; rfl
    rw [hkeys, List.getElem?_map, e2] at e5
    have e6 : (Sum.inl m : Key) = k := Option.some.inj e5
    subst e6
    obtain ⟨t, e7⟩ := Value.isInt_shape (k := m) (v := v) e4
    exact ⟨t, e7⟩
  refine wpAny_bind (wpAny_newList ?_ (by omega))
  have hoL : (h'.push (seqObj "list" acc.toList.toArray 0)).get? h'.objs.size = some (seqObj "list" acc.toList.toArray 0) := Heap.get?_push_size _ rfl
  show wpAny _ _ _ _ _ { s with heap := h'.push (seqObj "list" acc.toList.toArray 0), toks := tk }
  refine wpAny_bind (wpAny_holding (wpAny_call_entry slot_list_sort ⟨_, hoL, rfl⟩ entry_list_sort (list_sort_tree hoL hI (by omega) fun out ns' a1 a2 a3 => ⟨_, rfl, ?_⟩) (args_list_sort _)))
  obtain ⟨e, he⟩ := sortedHeap_at (out := out) hoL
  have I1 : Inv X pins σ H { s with heap := h', toks := tk } := I.kept hkeep
  refine wpAny_pure ⟨_, rfl, .ref h'.objs.size, _, I1.laid (t' := tk) (o := .lst (ns'.map V.int)) (fun b o zz => ?_) (Nat.le_refl _) ?_, rfl, q _ ns' (I1.hok.fresh (Nat.le_refl _)) a2 a3⟩
  · have zz' : h'.get? b = some o := zz
    have hb : b < h'.objs.size := Heap.lt_size zz'
    show (sortedHeap _ _ _ _).get? b = _
    rw [sortedHeap_old (Nat.ne_of_lt hb) (by rw [size_push']; exact Nat.lt_succ_of_lt hb), Heap.get?_push_ne _ _ _ (Nat.ne_of_lt hb)]
    exact zz'
  · refine ⟨?_, out.toList, e, vals_ints a1, ?_⟩
    · rw [List.length_map, a2.length_eq]; omega
    · have q' : (seqObj "list" out e : Obj) = { cls := .type "list", data := .seq out.toList.toArray e } := by simp [seqObj]
      rw [← q']; exact he
theorem firstMet_nodup (val : Nat → Int) : ∀ i, (firstMet val i).Nodup
  | 0 => List.nodup_nil
  | i + 1 => by
    rw [firstMet_succ]
    unfold step_dedup
    split
    · exact firstMet_nodup val i
    · rename_i h
      refine List.nodup_append.mpr ⟨firstMet_nodup val i, by simp, fun a ha b hb z => ?_⟩
      have : b = val i := by simpa using hb
      subst z
      exact h (List.any_eq_true.mpr ⟨a, ha, by rw [this]; simp⟩)
theorem firstMet_mem (ns : List Int) (z : Int) : z ∈ firstMet (fun i => ns.getD i 0) ns.length ↔ z ∈ ns := by
  have h := firstMet_any (fun i => ns.getD i 0) ns.length z
  rw [range_getD] at h
  rw [Bool.eq_iff_iff] at h
  simpa using h
def tLenSet (K : PySem.W.Frag) (ta : TA) : TE := fun σ H Q => ta σ H fun vs H1 => ∃ (b : Addr) (ns : List Int), vs = [.ref b] ∧ SqL K H1 b (ns.map V.int) ∧ ns.length ≤ 1000 ∧ ∀ D : List Int, D.Nodup → (∀ z, z ∈ D ↔ z ∈ ns) → Q (.int (D.length : Nat)) H1
theorem pe_lenSet {a : Expr} {ta : TA} {p p' pos pos' : Pos} (hc : X.calm = true) (hg : Gl X "len") (hm : X.mg "len" = none) (hg' : Gl X "set") (hm' : X.mg "set" = none) (ha : PA X [a] ta)
    (hs : starEach [a] X.env = [(false, eval a X.env)] := by rfl) (hs2 : starEach [.Call (.Name "set" p') [a] [] pos'] X.env = [(false, eval (.Call (.Name "set" p') [a] [] pos') X.env)] := by rfl) :
    PE X (.Call (.Name "len" p) [.Call (.Name "set" p') [a] [] pos'] [] pos) (tLenSet X.K ta) := by
  intro pins s σ H Q I h
  refine wpAny_Call_Name_kw (ld_blt I hg hm PySem.boot_len (PyProof.Rows.callWith_builtin1 ?_ hs2 rfl))
  rw [hs2]
  show wpAny _ _ (spliced ((false, eval (.Call (.Name "set" p') [a] [] pos') X.env) :: [])) _ _ s
  refine Calls.spliced_cons (Call_ (ld_blt I hg' hm' boot_set (PyProof.Rows.callWith_type1 (thn (ha pos' pins s σ H _ I h) fun us s1 ⟨vs, H1, I1, r1, q1⟩ => ?_) hs rfl)))
  obtain ⟨b, ns, e, hq, h1000, q⟩ := q1
  subst e
  obtain ⟨u, rfl, ru⟩ := vals1 r1
  cases ru
  obtain ⟨its, rv, pl, hz⟩ := I1.list hq
  have hi := intsAre_of rv
  have hlen : its.length = ns.length := hi.length
  have hsb : scanBound = 4096 := rfl
  refine call_set_list (items := its.toArray) (ns := ns) (I1.ok.hd hc) pl.isList (by simpa using hi) (by rw [List.size_toArray]; omega) fun h' tk hS hk => Calls.spliced_nil ?_
  obtain ⟨o, es, ep, t, ho, hex, hd, _, _, hsz, hf, hn⟩ := hS
  rw [show its.toArray.size = ns.length from hlen] at hn
  have hkeep : ∀ b o, s1.heap.get? b = some o → h'.get? b = some o := fun b o e => hk b o (Heap.lt_size e) e
  have I2 : Inv X pins σ H1 { s1 with heap := h', toks := tk } := I1.kept hkeep
  refine call_len_set (s := { s1 with heap := h', toks := tk }) ho hex hd hf (by omega) ⟨.int es.size, H1, I2.tok _, ⟨_, rfl⟩, ?_⟩
  rw [hn]
  exact q _ (firstMet_nodup _ _) (firstMet_mem ns)
def rowAt (H : Hp) (q : Addr) : List Int := match H q with
  | some (.lst xs) => xs.filterMap fun x => match x with
    | .int i => some i
    | _ => none
  | _ => []
theorem rowAt_eq {H : Hp} {q : Addr} {r : List Int} (h : H q = some (.lst (r.map V.int))) : rowAt H q = r := by
  have key : ∀ r : List Int, ((r.map V.int).filterMap fun x => match x with
    | .int i => some i
    | _ => none) = r := by
    intro r
    induction r with
    | nil => rfl
    | cons x r ih =>
      rw [List.map_cons, List.filterMap_cons]
      show x :: _ = _
      rw [ih]
  unfold rowAt
  rw [h]
  exact key r
theorem Rows.rowAt {H : Hp} {p : Addr} {ps : List Addr} {rs : List (List Int)} (R : Rows H p ps rs) : ps.map (L2.rowAt H) = rs := by
  refine List.ext_getElem? fun i => ?_
  rw [List.getElem?_map]
  cases e : ps[i]? with
  | none =>
    have : rs.length ≤ i := by rw [← R.len]; exact List.getElem?_eq_none_iff.mp e
    rw [List.getElem?_eq_none this]
    rfl
  | some q =>
    obtain ⟨r, hr, hH⟩ := R.at e
    rw [hr]
    show some (L2.rowAt H q) = _
    rw [rowAt_eq hH]
def rCountR : V → List V → Hp → VK → Prop := fun x vs H Q => ∃ (l a : Addr) (ps : List Addr) (rs : List (List Int)) (r : List Int), x = .ref l ∧ vs = [.ref a] ∧ Rows H l ps rs ∧ H a = some (.lst (r.map V.int)) ∧ Q (.int ((rs.filter fun t => decide (t = r)).length : Nat)) H
theorem mt_countR (hu : X.A.units + 64 < cLine) : MtM X "list.count" rCountR := by
  intro pins s σ H x vs v us Q I rx rv h
  obtain ⟨l, a, ps, rs, r, rfl, rfl, R, ha, q⟩ := h
  cases rx
  obtain ⟨u, rfl, ru⟩ := rv.one
  cases ru
  obtain ⟨its, rv', pl, hz⟩ := I.list (.of R.out)
  have ei := vals_refs rv'
  subst ei
  obtain ⟨⟨cls, dd, data, sl⟩, ho, hc, n, hd⟩ := id pl.isList
  simp only at hc hd
  subst hc hd
  have da : DatV X.K H (.ref a) (intsD r) := .ints (.of ha)
  obtain ⟨as, ra⟩ := da.reads I (show RelV (.ref a) (.ref a) from rfl)
  refine call_meets PySem.F.slot_list_count ⟨_, ho, rfl⟩ PySem.F.entry_list_count (PySem.F.args_list_count_2 _ _)
    (SeqAt.list_countAt l (ps.map Value.ref).toArray n dd sl (.ref a) (fun v => match v with | .ref q => decide (L2.rowAt H q = r) | _ => false)) ⟨ho, fun y hy => ?_, ⟨.int ((rs.filter fun t => decide (t = r)).length : Nat), H, I.tok _, ⟨s.toks, ?_⟩, q⟩⟩
  · have hy' : y ∈ ps.map Value.ref := by simpa using hy
    obtain ⟨c, hcm, rfl⟩ := List.mem_map.mp hy'
    obtain ⟨t, ht, hH⟩ := R.mem hcm
    have dc : DatV X.K H (.ref c) (intsD t) := .ints (.of hH)
    obtain ⟨cs, rc⟩ := dc.reads I (show RelV (.ref c) (.ref c) from rfl)
    have := SeqAt.eqAt_reads (intsD t) (intsD r) X.A.in1 s (.ref c) (.ref a) cs as rc ra (lay_ints t) (lay_ints r) (by
      have h1 := depth_ints t
      have : min (intsD t).depth (intsD r).depth ≤ (intsD t).depth := Nat.min_le_left _ _
      show X.A.units + 1 + _ < cLine
      omega)
    rw [eqv_ints] at this
    show SeqAt.EqAt _ _ _ _ (decide (L2.rowAt H c = r))
    rw [rowAt_eq hH]
    exact this
  · congr 1
    have e1 : (ps.map Value.ref).toArray.toList = ps.map Value.ref := rfl
    rw [e1, List.countP_map, ← R.rowAt, List.filter_map, List.length_map, List.countP_eq_length_filter]
    rfl
end
end L2
namespace L2
open PySem PySem.Spec PyProof.Rows
section
variable {X : Cx}
theorem ps_setComp {i0 : Nat} {y : Str} {py spos : Pos} {elt iter : Expr} {x : Str} {px : Pos} {ifs : List Expr} {scope : Scope} {pos : Pos} {wi : TI} {tc : TT} {te : TE} {caps : List Nat} {cl : List (Str × Addr)}
    (hN : X.N.Nodup) (hyi : X.N[i0]? = some y) (hyx : Loc X.env.scope y) (hc : X.calm = true) (B0 : X.Ok → Blk X x caps scope cl) (hi : PI X (.Name x px) iter wi)
    (ht : ∀ C fp s H, PTs (X.blk x caps scope cl C fp s H) ifs tc) (he : ∀ C fp s H, PE (X.blk x caps scope cl C fp s H) elt te)
    (hsw : swapsWith (.ListComp elt [⟨.Name x px, iter, ifs, 0⟩] scope pos) (some (.Name y py)) spos.line X.env = pure true := by rfl)
    (hf : X.fn y = true ∨ X.env.scope.names.lookup y = some .local := by first | exact .inl rfl | exact .inr rfl | assumption)
    (hs : ∀ v, foldedSetIterable iter X.env v = pure v := by intro _; rfl) : PS X (.Assign [.Name y py] (.ListComp elt [⟨.Name x px, iter, ifs, 0⟩] scope pos) spos) (tAsg (tComp wi tc te caps) (gName i0)) := by
  intro pins s σ H D0 I h
  have B := B0 I.ok
  rw [exec_Assign_Name_used _ _ _ _ hsw]
  refine wpAny_bind (wpAny_standAt (wpAny_bind ?_))
  show wpAny _ X.A (do let _ ← comprehension (.ListComp elt [⟨.Name x px, iter, ifs, 0⟩] scope pos) scope X.env _ (newList []) false (eval iter X.env) (some (assign (.Name y py) X.env))) _ _ s
  refine wpAny_bind (wpAny_mono (wpAny_comprehension_free (use := some (assign (.Name y py) X.env)) (Q := fun _ s' => SP X pins D0 .next s') rfl hs B.clos B.kind B.names (thn (hi pins s σ H _ I h) fun v s1 h1 => thn h1 fun itv s2 h2 => ?_)) (fun _ s' hq => wpAny_pure (wpAny_pure hq)) fun _ _ e => e)
  obtain ⟨it, fp, tn, J, H2, rfl, I2, T, st2, f2, q2⟩ := h2
  obtain ⟨W, ⟨m0, w0⟩, turn⟩ := q2 s2.heap.objs.size (I2.hok.fresh (Nat.le_refl _))
  have hfl : ∀ b ∈ fp, b < s2.heap.objs.size := fun b hb => by
    obtain ⟨o, e, _⟩ := T.obj _ _ st2 b hb
    exact Heap.lt_size e
  refine wpAny_newObj_type (wpAny_newFunctionEnv B.nocell (by intro y hy; simp at hy) (fun h₁ hns₁ hsb₁ => ?_) B.kind)
  dsimp only at hns₁ hsb₁ ⊢
  generalize hH2 : s2.heap.push { cls := .type "list", dict := none, data := .seq ([] : List Value).toArray } = HP at hns₁ hsb₁ ⊢
  have hC : HP.objs.size = s2.heap.objs.size + 1 := by rw [← hH2, Heap.size_push]
  have hClt : s2.heap.objs.size < HP.objs.size := by rw [hC]; exact Nat.lt_succ_self _
  have old : ∀ b o, s2.heap.get? b = some o → h₁.get? b = some o := fun b o e =>
    hsb₁.extBut b o (Nat.ne_of_lt (Nat.lt_trans (Heap.lt_size e) hClt)) (Heap.get?_push_of_some _ (hH2 ▸ Heap.get?_push_of_some _ e))
  have hacc : h₁.get? s2.heap.objs.size = some { cls := .type "list", data := .seq #[] 0 } :=
    hsb₁.extBut _ _ (Nat.ne_of_lt hClt) (Heap.get?_push_of_some _ (hH2 ▸ Heap.get?_push_size _ rfl))
  have I3 := B.start (t := s2.toks + ([] : List (Str × Value)).length) I2 f2 hfl hClt old hns₁ hacc
  have st3 : tn 0 h₁ := T.keep _ _ _ st2 fun b hb o e => old b o e
  have stat : ∀ {H' : Hp}, (∀ b ∈ fp, H' b = none) → ∀ b ∈ fp, FpOk (X.blk x caps scope cl HP.objs.size fp s2 H2) [] H' b := fun hn b hb =>
    ⟨hn b hb, ((B.ok I2 f2 hfl (Nat.le_of_lt hClt)).exf b hb).1, (B.ok I2 f2 hfl (Nat.le_of_lt hClt)).exfs b hb, .inl hb, ((B.ok I2 f2 hfl (Nat.le_of_lt hClt)).exf b hb).2, fun p hp => absurd (show p ∈ ([] : List (Addr × Obj)) from hp) (by simp)⟩
  have fr3 : ∀ b ∈ fp, upd H2 s2.heap.objs.size (.lst []) b = none := fun b hb => by
    rw [upd_ne (Nat.ne_of_lt (hfl b hb))]
    exact (f2 b hb).1
  have nd : (X.blkN x caps)[0]? = some x := rfl
  have loop : ∀ s3 : Shared, s3 = { s2 with heap := h₁, toks := s2.toks + ([] : List (Str × Value)).length } →
      codeAny (model X.prog X.w) X.A (.compLoop (.ListComp elt [⟨.Name x px, iter, ifs, 0⟩] scope pos) 0 (.ref it) (.ref s2.heap.objs.size) (compEnvC scope cl HP.objs.size X.env))
        (compPost (model X.prog X.w) X.A X.xe (some (assign (.Name y py) X.env)) (fun _ s' => SP X pins D0 .next s') (.ref s2.heap.objs.size) HP.objs.size) s3 := by
    rintro s3 rfl
    refine codeAny_loop rfl (fun n s' => ∃ i σ' H', Inv (X.blk x caps scope cl HP.objs.size fp s2 H2) [] (σ' :: capSt σ caps) H' s' ∧ tn i s'.heap ∧ (∀ b ∈ fp, H' b = none) ∧ W i n H') (fun n s4 hI => ?_) m0 ⟨0, none, _, I3, st3, fr3, w0⟩
    obtain ⟨i, σ4, H4, I4, st4, fr4, w4⟩ := hI
    show wpAny _ X.A ((compTurn (.ListComp elt [⟨.Name x px, iter, ifs, 0⟩] scope pos) 0 (.ref it) (.ref s2.heap.objs.size) (compEnvC scope cl HP.objs.size X.env)).onRaise (fun x => do noteFrame x (compEnvC scope cl HP.objs.size X.env); theTreesLotGoes x)) _ _ s4
    refine wpAny_noted ?_
    rw [compTurn_list]
    refine wpAny_bind (wpAny_standAt (wpAny_bind ?_))
    rcases turn i n H4 w4 with ⟨stop, qn⟩ | ⟨go, N, hN, step⟩
    · refine thn (T.done (X.blk x caps scope cl HP.objs.size fp s2 H2) rfl rfl rfl hc i [] s4 (σ4 :: capSt σ caps) H4 _ I4 (stat fr4) st4 stop) fun r s5 ⟨hr, I5⟩ => ?_
      subst hr
      refine wpAny_pure ?_
      obtain ⟨m, hn, _⟩ := id I5.loc
      have hfr : H4 HP.objs.size = none := I5.free
      have fpC : FpOk X pins H4 HP.objs.size := I2.fpOk (Nat.le_of_lt hClt) hfr
      obtain ⟨g0, g1, _, g3, g4, g5⟩ := fpC
      have IX : Inv X pins σ H4 s5 := I2.call' (ch := fp) (s' := s5) I5.os I5.base I5.hok I5.bare fun b hb => by
        obtain ⟨f0, f1, f2', f3, f4, f5⟩ := f2 b hb
        exact ⟨f3, f1, f4, f5⟩
      refine wpAny_assign_Name (store_ok2 (v := .ref s2.heap.objs.size) IX hN hyi hyx rfl (fun s6 I6 ⟨a, sb6, ha⟩ => ?_) hf)
      have hCa : HP.objs.size ≠ a := by
        rcases ha with rfl | ha
        · exact g1
        · exact fun z => g4 _ _ ha z.symm
      exact ⟨m, hn.sameBut sb6 hCa, fun h' sb => ⟨_, H4, I6.turned (t' := s6.toks) (fun b o hb e => (sb.2 b hb).trans e) g0 g1 g3 g4 g5, qn⟩⟩
    · refine thn (T.item (X.blk x caps scope cl HP.objs.size fp s2 H2) rfl rfl rfl hc i [] s4 (σ4 :: capSt σ caps) H4 _ I4 (stat fr4) st4 go) fun r s5 ⟨u, hr, h5⟩ => ?_
      subst hr
      refine wpAny_bind (thn h5 fun _ s6 ⟨y, H6, I6, r6, y6, st6, fr6⟩ => ?_)
      have I6' := I6.pinned (stat fr6) (T.obj _ _ st6)
      have again : ∀ {σ7 : Option V} {H7 : Hp} {s7 : Shared}, Inv (X.blk x caps scope cl HP.objs.size fp s2 H2) ([] ++ pinsAt fp s6.heap) (σ7 :: capSt σ caps) H7 s7 → N H7 →
          ∃ m, m < n ∧ ∃ i σ' H', Inv (X.blk x caps scope cl HP.objs.size fp s2 H2) [] (σ' :: capSt σ caps) H' s7 ∧ tn i s7.heap ∧ (∀ b ∈ fp, H' b = none) ∧ W i m H' := fun {σ7 H7 s7} I7 n7 => by
        obtain ⟨m', hm, w7⟩ := hN H7 n7
        refine ⟨m', hm, i + 1, σ7, H7, I7.unpinned, T.keep _ _ _ st6 fun b hb o e => (I7.pin (b, o) (List.mem_append_right _ (List.mem_append_right _ (mem_pinsAt hb e)))).1, fun b hb => ?_, w7⟩
        obtain ⟨o, e, d⟩ := T.obj _ _ st6 b hb
        exact (I7.pin (b, o) (List.mem_append_right _ (List.mem_append_right _ (mem_pinsAt hb e)))).2.1
      have no : ∀ {E : Value → Shared → Prop} (e : Value) (s' : Shared), (X.blk x caps scope cl HP.objs.size fp s2 H2).xe e s' → E e s' := fun _ _ z => False.elim z
      refine wpAny_bind (wpAny_assign_Name (store_ok (X := X.blk x caps scope cl HP.objs.size fp s2 H2) (i := 0) I6' B.nd rfl (.inl (lookup_relabel_local B.loc)) r6 (fun s7 I7 => ?_) (.inr (lookup_relabel_local B.loc))))
      refine wpAny_bind (wpAny_mono (ht _ _ _ _ _ s7 (some y :: capSt σ caps) H6 _ I7 (step y H6 y6)) (fun ok s8 ⟨H8, I8, q8⟩ => ?_) no)
      cases ok with
      | false => exact wpAny_pure ⟨rfl, again I8 q8⟩
      | true =>
        refine wpAny_bind (wpAny_bind (wpAny_mono (he _ _ _ _ _ s8 (some y :: capSt σ caps) H8 _ I8 q8) (fun u s9 ⟨z, H9, I9, r9, ys, hD, hz, q9⟩ => ?_) no))
        refine wpAny_bind (wpAny_mono (mt_append (X := X.blk x caps scope cl HP.objs.size fp s2 H2) _ s9 (some y :: capSt σ caps) H9 (.ref s2.heap.objs.size) [z] (.ref s2.heap.objs.size) [u] (fun _ H10 => N H10) I9 rfl (.cons r9 .nil) ⟨_, ys, z, rfl, rfl, hD, hz, q9⟩) (fun _ s10 ⟨_, H10, I10, _, q10⟩ => ?_) no)
        exact wpAny_pure (wpAny_pure ⟨rfl, again I10 q10⟩)
  exact codeAny_compStart_list (loop _ rfl) (T.self _ _ _ _ _ st3 (loop _ rfl))
end
end L2
namespace L2
open PySem PySem.Spec PyProof.Rows
section
variable {X : Cx}
theorem pe_compC {elt iter : Expr} {x : Str} {px : Pos} {ifs : List Expr} {scope : Scope} {pos : Pos} {wi : TI} {tc : TT} {te : TE} {caps : List Nat} {cl : List (Str × Addr)}
    (hc : X.calm = true) (B0 : X.Ok → Blk X x caps scope cl) (hi : PI X (.Name x px) iter wi)
    (ht : ∀ C fp s H, PTs (X.blk x caps scope cl C fp s H) ifs tc) (he : ∀ C fp s H, PE (X.blk x caps scope cl C fp s H) elt te)
    (hs : ∀ v, foldedSetIterable iter X.env v = pure v := by intro _; rfl) : PE X (.ListComp elt [⟨.Name x px, iter, ifs, 0⟩] scope pos) (tComp wi tc te caps) :=
  fun pins s σ H Q I h => pe_comp hc (B0 I.ok) hi ht he hs pins s σ H Q I h
end
end L2
namespace L2
open PySem PySem.Spec PyProof.Rows
section
variable {X : Cx}
def rNotInD (K : PySem.W.Frag) : R2 := fun x y H Q => ∃ d ds, DatV K H x d ∧ DatV K H y (.list ds) ∧ d.canLay0 = true ∧ PyData.canLayAll0 ds = true ∧ d.depth ≤ 60 ∧ Q (.bl (!ds.any fun y => PyData.eqv y d)) H
theorem op_notInD (hu : X.A.units + 64 < cLine) : OpR X (compareOp .NotIn) (rNotInD X.K) := by
  intro pins s σ H x y v u Q I rx ry h
  obtain ⟨d, ds, hx, hy, c1, c2, hd, q⟩ := h
  obtain ⟨as, ra⟩ := hx.reads I rx
  obtain ⟨bs, rb⟩ := hy.reads I ry
  refine SeqAt.notIn_list_reads rb ra c2 c1 ?_ ⟨.bl _, H, I, rfl, q⟩
  have : min (PyData.depthAll ds) d.depth ≤ d.depth := Nat.min_le_right _ _
  omega
end
end L2
namespace L2
open PySem PySem.Spec PyProof.Rows
structure Blk2 (X : Cx) (x y : Str) (caps : List Nat) (scope : Scope) (cl : List (Str × Addr)) : Prop where
  one : Blk X x caps scope cl
  loc : scope.names.lookup y = some .local
  nd : (x :: y :: caps.map fun i => X.N.getD i "").Nodup
def Cx.blk2 (X : Cx) (x y : Str) (caps : List Nat) (scope : Scope) (cl : List (Str × Addr)) (C : Addr) (fp : List Addr) (s : Shared) (H : Hp) : Cx :=
  { X.blk x caps scope cl C fp s H with N := x :: y :: caps.map fun i => X.N.getD i "" }
section
variable {X : Cx} {pins : List (Addr × Obj)} {σ : St} {H : Hp} {s : Shared} {x y : Str} {caps : List Nat} {scope : Scope} {cl : List (Str × Addr)} {fp : List Addr} {C : Addr}
theorem ok2 (o : (X.blk x caps scope cl C fp s H).Ok) : (X.blk2 x y caps scope cl C fp s H).Ok :=
  ⟨o.mod, o.kind, o.glob, o.blt, o.above, o.inj, o.has, o.cab, o.hd, o.frames, o.stk, o.exf, o.bs, o.bsz, o.noex, o.exfs, o.funs, o.frf⟩
theorem start2 {pins' : List (Addr × Obj)} {H' : Hp} {s' : Shared} {c : St} (hl : c.length = caps.length) (I : Inv (X.blk x caps scope cl C fp s H) pins' (none :: c) H' s') : Inv (X.blk2 x y caps scope cl C fp s H) pins' (none :: none :: c) H' s' := by
  obtain ⟨i1, i2, i3, i4, i5, i6, i7, i8, i9, i10, i11⟩ := I
  refine ⟨ok2 i1, i2, i3, i4, ?_, i6, i7, i8, i9, i10, ?_⟩
  · obtain ⟨m, hn, h⟩ := i5
    refine ⟨m, hn, fun j z v e1 e2 e3 => ?_⟩
    cases j with
    | zero => cases e2
    | succ j =>
      cases j with
      | zero => cases e2
      | succ j => exact h (j + 1) z v e1 e2 e3
  · show (none :: none :: c).length = (x :: y :: caps.map fun i => X.N.getD i "").length
    simp [hl]
end
def tComp2 (wi : TI) (g : TG) (tc : TT) (te : TE) (caps : List Nat) : TE := fun σ H Q => wi σ H fun J H1 => ∀ D, H1 D = none → ∃ W : Nat → Nat → Hp → Prop, (∃ m, W 0 m (upd H1 D (.lst []))) ∧ ∀ i m H, W i m H →
  (J.stop i H ∧ Q (.ref D) H) ∨ (J.go i H ∧ ∃ N : Hp → Prop, (∀ H', N H' → ∃ m', m' < m ∧ W (i + 1) m' H') ∧ ∀ x H' v1 v2, J.yld i H x H' →
    g x (v1 :: v2 :: capSt σ caps) H' fun σ2 H2 => (∃ w1 w2, σ2 = w1 :: w2 :: capSt σ caps) ∧ tc σ2 H2 fun b H3 => if b = true then te σ2 H3 fun y H4 => ∃ ys, H4 D = some (.lst ys) ∧ ys.length < sizeLine ∧ N (upd H4 D (.lst (ys ++ [y]))) else N H3)
section
variable {X : Cx}
theorem pe_comp2 {elt iter tg : Expr} {x y : Str} {ifs : List Expr} {scope : Scope} {pos : Pos} {wi : TI} {g : TG} {tc : TT} {te : TE} {caps : List Nat} {cl : List (Str × Addr)}
    (hc : X.calm = true) (B0 : X.Ok → Blk2 X x y caps scope cl) (hi : PI X tg iter wi) (hg : ∀ C fp s H, (x :: y :: caps.map fun i => X.N.getD i "").Nodup → (X.blk2 x y caps scope cl C fp s H).env.scope.names.lookup x = some .local → (X.blk2 x y caps scope cl C fp s H).env.scope.names.lookup y = some .local → PG (X.blk2 x y caps scope cl C fp s H) tg g)
    (ht : ∀ C fp s H, PTs (X.blk2 x y caps scope cl C fp s H) ifs tc) (he : ∀ C fp s H, PE (X.blk2 x y caps scope cl C fp s H) elt te)
    (hs : ∀ v, foldedSetIterable iter X.env v = pure v := by intro _; rfl) : PE X (.ListComp elt [⟨tg, iter, ifs, 0⟩] scope pos) (tComp2 wi g tc te caps) := by
  intro pins s σ H Q I h
  have B2 := B0 I.ok
  have B := B2.one
  rw [eval_ListComp]
  refine wpAny_comprehension_free (use := none) rfl hs B.clos B.kind B.names (thn (hi pins s σ H _ I h) fun v s1 h1 => thn h1 fun itv s2 h2 => ?_)
  obtain ⟨it, fp, tn, J, H2, rfl, I2, T, st2, f2, q2⟩ := h2
  obtain ⟨W, ⟨m0, w0⟩, turn⟩ := q2 s2.heap.objs.size (I2.hok.fresh (Nat.le_refl _))
  have hfl : ∀ b ∈ fp, b < s2.heap.objs.size := fun b hb => by
    obtain ⟨o, e, _⟩ := T.obj _ _ st2 b hb
    exact Heap.lt_size e
  refine wpAny_newObj_type (wpAny_newFunctionEnv B.nocell (by intro y hy; simp at hy) (fun h₁ hns₁ hsb₁ => ?_) B.kind)
  dsimp only at hns₁ hsb₁ ⊢
  generalize hH2 : s2.heap.push { cls := .type "list", dict := none, data := .seq ([] : List Value).toArray } = HP at hns₁ hsb₁ ⊢
  have hC : HP.objs.size = s2.heap.objs.size + 1 := by rw [← hH2, Heap.size_push]
  have hClt : s2.heap.objs.size < HP.objs.size := by rw [hC]; exact Nat.lt_succ_self _
  have old : ∀ b o, s2.heap.get? b = some o → h₁.get? b = some o := fun b o e =>
    hsb₁.extBut b o (Nat.ne_of_lt (Nat.lt_trans (Heap.lt_size e) hClt)) (Heap.get?_push_of_some _ (hH2 ▸ Heap.get?_push_of_some _ e))
  have hacc : h₁.get? s2.heap.objs.size = some { cls := .type "list", data := .seq #[] 0 } :=
    hsb₁.extBut _ _ (Nat.ne_of_lt hClt) (Heap.get?_push_of_some _ (hH2 ▸ Heap.get?_push_size _ rfl))
  have I3 := start2 (y := y) (by unfold capSt; simp) (B.start (t := s2.toks + ([] : List (Str × Value)).length) I2 f2 hfl hClt old hns₁ hacc)
  have st3 : tn 0 h₁ := T.keep _ _ _ st2 fun b hb o e => old b o e
  have stat : ∀ {H' : Hp}, (∀ b ∈ fp, H' b = none) → ∀ b ∈ fp, FpOk (X.blk2 x y caps scope cl HP.objs.size fp s2 H2) [] H' b := fun hn b hb =>
    ⟨hn b hb, ((B.ok I2 f2 hfl (Nat.le_of_lt hClt)).exf b hb).1, (B.ok I2 f2 hfl (Nat.le_of_lt hClt)).exfs b hb, .inl hb, ((B.ok I2 f2 hfl (Nat.le_of_lt hClt)).exf b hb).2, fun p hp => absurd (show p ∈ ([] : List (Addr × Obj)) from hp) (by simp)⟩
  have fr3 : ∀ b ∈ fp, upd H2 s2.heap.objs.size (.lst []) b = none := fun b hb => by
    rw [upd_ne (Nat.ne_of_lt (hfl b hb))]
    exact (f2 b hb).1
  have loop : ∀ s3 : Shared, s3 = { s2 with heap := h₁, toks := s2.toks + ([] : List (Str × Value)).length } →
      codeAny (model X.prog X.w) X.A (.compLoop (.ListComp elt [⟨tg, iter, ifs, 0⟩] scope pos) 0 (.ref it) (.ref s2.heap.objs.size) (compEnvC scope cl HP.objs.size X.env))
        (compPost (model X.prog X.w) X.A X.xe none (EP X pins σ Q) (.ref s2.heap.objs.size) HP.objs.size) s3 := by
    rintro s3 rfl
    refine codeAny_loop rfl (fun n s' => ∃ i v1 v2 H', Inv (X.blk2 x y caps scope cl HP.objs.size fp s2 H2) [] (v1 :: v2 :: capSt σ caps) H' s' ∧ tn i s'.heap ∧ (∀ b ∈ fp, H' b = none) ∧ W i n H') (fun n s4 hI => ?_) m0 ⟨0, none, none, _, I3, st3, fr3, w0⟩
    obtain ⟨i, v1, v2, H4, I4, st4, fr4, w4⟩ := hI
    show wpAny _ X.A ((compTurn (.ListComp elt [⟨tg, iter, ifs, 0⟩] scope pos) 0 (.ref it) (.ref s2.heap.objs.size) (compEnvC scope cl HP.objs.size X.env)).onRaise (fun x => do noteFrame x (compEnvC scope cl HP.objs.size X.env); theTreesLotGoes x)) _ _ s4
    refine wpAny_noted ?_
    rw [compTurn_list]
    refine wpAny_bind (wpAny_standAt (wpAny_bind ?_))
    rcases turn i n H4 w4 with ⟨stop, qn⟩ | ⟨go, N, hN, step⟩
    · refine thn (T.done (X.blk2 x y caps scope cl HP.objs.size fp s2 H2) rfl rfl rfl hc i [] s4 (v1 :: v2 :: capSt σ caps) H4 _ I4 (stat fr4) st4 stop) fun r s5 ⟨hr, I5⟩ => ?_
      subst hr
      refine wpAny_pure ?_
      obtain ⟨m, hn, _⟩ := id I5.loc
      refine ⟨m, hn, fun h' sb => ⟨.ref s2.heap.objs.size, H4, ?_, rfl, qn⟩⟩
      have hnC : s2.heap.get? HP.objs.size = none := Heap.get?_none_of_le (Nat.le_of_lt hClt)
      refine I2.call' (ch := fp) (s' := { s5 with heap := h' }) I5.os (Un.sameBut I5.base sb hnC) (I5.hok.sameBut sb I5.free) I5.bare fun b hb => ?_
      obtain ⟨f0, f1, f2', f3, f4, f5⟩ := f2 b hb
      exact ⟨f3, f1, f4, f5⟩
    · refine thn (T.item (X.blk2 x y caps scope cl HP.objs.size fp s2 H2) rfl rfl rfl hc i [] s4 (v1 :: v2 :: capSt σ caps) H4 _ I4 (stat fr4) st4 go) fun r s5 ⟨u, hr, h5⟩ => ?_
      subst hr
      refine wpAny_bind (thn h5 fun _ s6 ⟨z, H6, I6, r6, y6, st6, fr6⟩ => ?_)
      have I6' := I6.pinned (stat fr6) (T.obj _ _ st6)
      have again : ∀ {v7 w7 : Option V} {H7 : Hp} {s7 : Shared}, Inv (X.blk2 x y caps scope cl HP.objs.size fp s2 H2) ([] ++ pinsAt fp s6.heap) (v7 :: w7 :: capSt σ caps) H7 s7 → N H7 →
          ∃ m, m < n ∧ ∃ i v1 v2 H', Inv (X.blk2 x y caps scope cl HP.objs.size fp s2 H2) [] (v1 :: v2 :: capSt σ caps) H' s7 ∧ tn i s7.heap ∧ (∀ b ∈ fp, H' b = none) ∧ W i m H' := fun {v7 w7 H7 s7} I7 n7 => by
        obtain ⟨m', hm, w7'⟩ := hN H7 n7
        refine ⟨m', hm, i + 1, v7, w7, H7, I7.unpinned, T.keep _ _ _ st6 fun b hb o e => (I7.pin (b, o) (List.mem_append_right _ (List.mem_append_right _ (mem_pinsAt hb e)))).1, fun b hb => ?_, w7'⟩
        obtain ⟨o, e, d⟩ := T.obj _ _ st6 b hb
        exact (I7.pin (b, o) (List.mem_append_right _ (List.mem_append_right _ (mem_pinsAt hb e)))).2.1
      have no : ∀ {E : Value → Shared → Prop} (e : Value) (s' : Shared), (X.blk2 x y caps scope cl HP.objs.size fp s2 H2).xe e s' → E e s' := fun _ _ z => False.elim z
      refine wpAny_bind (wpAny_mono (hg HP.objs.size fp s2 H2 B2.nd (lookup_relabel_local B.loc) (lookup_relabel_local B2.loc) _ s6 (v1 :: v2 :: capSt σ caps) H6 z _ _ I6' r6 (step z H6 v1 v2 y6)) (fun _ s7 ⟨σ7, H7, I7, ⟨w1, w2, e7⟩, q7⟩ => ?_) no)
      subst e7
      refine wpAny_bind (wpAny_mono (ht _ _ _ _ _ s7 (w1 :: w2 :: capSt σ caps) H7 _ I7 q7) (fun ok s8 ⟨H8, I8, q8⟩ => ?_) no)
      cases ok with
      | false => exact wpAny_pure ⟨rfl, again I8 q8⟩
      | true =>
        refine wpAny_bind (wpAny_bind (wpAny_mono (he _ _ _ _ _ s8 (w1 :: w2 :: capSt σ caps) H8 _ I8 q8) (fun u s9 ⟨z, H9, I9, r9, ys, hD, hz, q9⟩ => ?_) no))
        refine wpAny_bind (wpAny_mono (mt_append (X := X.blk2 x y caps scope cl HP.objs.size fp s2 H2) _ s9 (w1 :: w2 :: capSt σ caps) H9 (.ref s2.heap.objs.size) [z] (.ref s2.heap.objs.size) [u] (fun _ H10 => N H10) I9 rfl (.cons r9 .nil) ⟨_, ys, z, rfl, rfl, hD, hz, q9⟩) (fun _ s10 ⟨_, H10, I10, _, q10⟩ => ?_) no)
        exact wpAny_pure (wpAny_pure ⟨rfl, again I10 q10⟩)
  exact codeAny_compStart_list (loop _ rfl) (T.self _ _ _ _ _ st3 (loop _ rfl))
theorem Blk2.captN {X : Cx} {x y : Str} {caps : List Nat} {scope : Scope} (N : List Str) (sn : List (Str × NameKind)) (hN : X.N = N) (hn : X.env.scope.names = sn) (hk : scope.kind = .function)
    (h : (scope.names.all (fun y => y.2 != .cell && (y.2 != .local || scope.names.lookup y.1 == some .local) && (y.2 != .free || (scope.names.lookup y.1 == some .free && (sn.lookup y.1 == some .cell || sn.lookup y.1 == some .free))))
      && caps.all fun i => match N[i]? with
        | some y => scope.names.lookup y == some .free && (sn.lookup y == some .cell || sn.lookup y == some .free)
        | none => false) = true) (hx : scope.names.lookup x = some .local) (hy : scope.names.lookup y = some .local) (nd : (x :: y :: caps.map fun i => N.getD i "").Nodup) (ok : X.Ok) :
    Blk2 X x y caps scope (clOf X.env.cells scope.names []) := by
  have nd1 : (x :: caps.map fun i => N.getD i "").Nodup := by
    obtain ⟨a, b⟩ := List.nodup_cons.mp nd
    exact List.nodup_cons.mpr ⟨fun z => a (List.mem_cons_of_mem _ z), (List.nodup_cons.mp b).2⟩
  refine ⟨Blk.captN N sn hN hn hk h hx nd1 ok, hy, ?_⟩
  rw [hN]
  exact nd
theorem comp_enum {K : PySem.W.Frag} {a : Addr} {xs : List V} {g : TG} {tc : TT} {te : TE} {cσ : St} {H1 : Hp} {Qd : Hp → Prop} {D : Addr} (Pv : Nat → Hp → Prop) (h0 : Pv 0 (upd H1 D (.lst []))) (hl : ∀ i H, i ≤ xs.length → Pv i H → SqL K H a xs)
    (hs : ∀ i x H t v1 v2, xs[i]? = some x → Pv i H → H t = none → g (.ref t) (v1 :: v2 :: cσ) (upd H t (.tup [.int (i : Int), x])) fun σ2 H2 => (∃ w1 w2, σ2 = w1 :: w2 :: cσ) ∧ tc σ2 H2 fun b H3 => if b = true then te σ2 H3 fun y H4 => ∃ ys, H4 D = some (.lst ys) ∧ ys.length < sizeLine ∧ Pv (i + 1) (upd H4 D (.lst (ys ++ [y]))) else Pv (i + 1) H3)
    (hd : ∀ H, Pv xs.length H → Qd H) :
    ∃ W : Nat → Nat → Hp → Prop, (∃ m, W 0 m (upd H1 D (.lst []))) ∧ ∀ i m H, W i m H →
      ((Ite K a).stop i H ∧ Qd H) ∨ ((Ite K a).go i H ∧ ∃ N : Hp → Prop, (∀ H', N H' → ∃ m', m' < m ∧ W (i + 1) m' H') ∧ ∀ x H' v1 v2, (Ite K a).yld i H x H' →
        g x (v1 :: v2 :: cσ) H' fun σ2 H2 => (∃ w1 w2, σ2 = w1 :: w2 :: cσ) ∧ tc σ2 H2 fun b H3 => if b = true then te σ2 H3 fun y H4 => ∃ ys, H4 D = some (.lst ys) ∧ ys.length < sizeLine ∧ N (upd H4 D (.lst (ys ++ [y]))) else N H3) := by
  refine ⟨fun i m H => m = xs.length - i ∧ i ≤ xs.length ∧ Pv i H, ⟨xs.length, by simp, Nat.zero_le _, h0⟩, ?_⟩
  rintro i m H ⟨rfl, hi, p⟩
  have q := hl i H hi p
  by_cases hlt : i < xs.length
  · refine .inr ⟨⟨xs, xs[i], q, by simp [hlt]⟩, Pv (i + 1), fun H' p' => ⟨xs.length - (i + 1), by omega, rfl, hlt, p'⟩, fun x H' v1 v2 y => ?_⟩
    obtain ⟨t, z, rfl, ht, rfl, y⟩ := y
    exact hs i z H t v1 v2 (y xs q) p ht
  · have e : i = xs.length := by omega
    subst e
    exact .inl ⟨⟨xs, q, Nat.le_refl _⟩, hd H p⟩
end
end L2
namespace Ink
theorem Cyc.congr {f g : Int → Int} {r : List Int} (c : Cyc f r) (h : ∀ x ∈ r, f x = g x) : Cyc g r :=
  ⟨c.ne, c.nd, fun i x hx => by rw [← h x (List.mem_of_getElem? hx)]; exact c.go i x hx⟩
theorem flat_noempty : ∀ rs : Rs, (rs.filter fun r => decide (r ≠ [])).flatten = rs.flatten
  | [] => rfl
  | r :: rs => by
    rw [List.filter_cons]
    split
    · rw [List.flatten_cons, List.flatten_cons, flat_noempty rs]
    · rename_i h
      have : r = [] := by
        cases r with
        | nil => rfl
        | cons x t => exact absurd (decide_eq_true (by simp)) h
      subst this
      rw [List.flatten_cons, flat_noempty rs]
      rfl
theorem getElem?_getD {r : List Int} {k : Nat} {d : Int} (h : k < r.length) : r[k]? = some (r.getD k d) := by
  rw [List.getD_eq_getElem?_getD, List.getElem?_eq_getElem h]
  rfl
theorem Dr.cycs {rs : Rs} {n : Nat} (d : Dr rs n) : Cycs (nextIn rs) n (rs.filter fun r => decide (r ≠ [])) := by
  refine ⟨fun r hr => ?_, by rw [flat_noempty]; exact d.nd, fun z => by rw [flat_noempty]; exact d.mem z⟩
  obtain ⟨hm, hne⟩ := List.mem_filter.mp hr
  have hne' := of_decide_eq_true hne
  obtain ⟨k, hk⟩ := List.mem_iff_getElem?.mp hm
  have ndr : r.Nodup := by
    obtain ⟨a, b, e⟩ := List.append_of_mem hm
    have nd := d.nd
    rw [e, List.flatten_append, List.flatten_cons] at nd
    exact (List.nodup_append.mp (List.nodup_append.mp nd).2.1).1
  refine ⟨hne', ndr, fun i x hx => ?_⟩
  have hl : 0 < r.length := List.length_pos_iff.mpr hne'
  rw [nextIn_at d.nd hk hx]
  exact getElem?_getD (Nat.mod_lt _ hl)
theorem sub_len : ∀ {a b : List Int}, a.Nodup → a ⊆ b → a.length ≤ b.length
  | [], _, _, _ => Nat.zero_le _
  | x :: a, b, nd, h => by
    obtain ⟨n1, n2⟩ := List.nodup_cons.mp nd
    have hx : x ∈ b := h List.mem_cons_self
    have := sub_len (a := a) (b := b.erase x) n2 fun z hz => (List.mem_erase_of_ne (by rintro rfl; exact n1 hz)).mpr (h (List.mem_cons_of_mem _ hz))
    rw [List.length_erase_of_mem hx] at this
    have := List.length_pos_of_mem hx
    rw [List.length_cons]
    omega
theorem Cycs.len {f : Int → Int} {n : Nat} {L : Rs} (c : Cycs f n L) : L.flatten.length = n := by
  have h1 := nodup_le n _ c.nd fun z hz => (c.mem z).mp hz
  have h2 : n ≤ L.flatten.length := by
    have nd : ((List.range n).map fun (k : Nat) => (k : Int)).Nodup := by
      rw [List.nodup_iff_pairwise_ne, List.pairwise_map]
      exact List.Pairwise.imp (fun h => by omega) (List.pairwise_lt_range (n := n))
    have hs : ((List.range n).map fun (k : Nat) => (k : Int)) ⊆ L.flatten := fun z hz => by
      obtain ⟨k, hk, rfl⟩ := List.mem_map.mp hz
      have := List.mem_range.mp hk
      exact (c.mem _).mpr ⟨by omega, by omega⟩
    have := sub_len nd hs
    rw [List.length_map, List.length_range] at this
    exact this
  omega
theorem Cycs.next {f : Int → Int} {n : Nat} {L : Rs} (c : Cycs f n L) {e : Int} (he : 0 ≤ e ∧ e < (n : Int)) : nextIn L e = f e := by
  obtain ⟨r, hr, hz⟩ := List.mem_flatten.mp ((c.mem e).mpr he)
  obtain ⟨i, hi⟩ := List.mem_iff_getElem?.mp hr
  obtain ⟨j, hj⟩ := List.mem_iff_getElem?.mp hz
  rw [nextIn_at c.nd hi hj]
  have := (c.cyc r hr).go j e hj
  rw [List.getD_eq_getElem?_getD, this]
  rfl
theorem Cycs.dr {f : Int → Int} {n : Nat} {L : Rs} (c : Cycs f n L) (h : n % 2 = 0) : Dr L n := ⟨c.nd, c.mem, c.len, h⟩
theorem Dr.faces {rs fs : Rs} {n : Nat} (d : Dr rs n) (h : Fcs (stp rs) n fs) : Cycs (stp rs) n fs := h.all (fun x h => d.stp_mem h.1 h.2) (fun x y hx hy h => d.stp_inj hx hy h)
theorem acr_inj (x y : Int) (h : acr x = acr y) : x = y := by rw [← acr_acr x, ← acr_acr y, h]
end Ink
namespace Ink
def Pth (f : Int → Int) : List Int → Int → Prop
  | [], _ => True
  | x :: t, y => f x = t.headD y ∧ Pth f t y
theorem Pth.append {f : Int → Int} {v : List Int} {y : Int} : ∀ {u : List Int}, Pth f (u ++ v) y ↔ Pth f u (v.headD y) ∧ Pth f v y
  | [] => by simp [Pth]
  | [x] => by
    show (f x = v.headD y ∧ Pth f v y) ↔ (f x = v.headD y ∧ True) ∧ Pth f v y
    simp
  | x :: z :: t => by
    have ih := Pth.append (f := f) (v := v) (y := y) (u := z :: t)
    show (f x = z ∧ Pth f (z :: t ++ v) y) ↔ (f x = z ∧ Pth f (z :: t) (v.headD y)) ∧ Pth f v y
    rw [ih, and_assoc]
theorem Pth.congr {f g : Int → Int} : ∀ {r : List Int} {y : Int}, Pth f r y → (∀ x ∈ r, f x = g x) → Pth g r y
  | [], _, _, _ => trivial
  | x :: t, y, h, e => ⟨(e x List.mem_cons_self).symm.trans h.1, Pth.congr h.2 fun z hz => e z (List.mem_cons_of_mem _ hz)⟩
theorem headD_eq : ∀ (t : List Int) (y : Int), t.headD y = (t[0]?).getD y
  | [], _ => rfl
  | _ :: _, _ => rfl
theorem Pth.ix {f : Int → Int} : ∀ {r : List Int} {y : Int}, Pth f r y ↔ ∀ (i : Nat) (x : Int), r[i]? = some x → f x = (r[i + 1]?).getD y
  | [], y => by simp [Pth]
  | a :: t, y => by
    have ih := Pth.ix (f := f) (r := t) (y := y)
    constructor
    · rintro ⟨h1, h2⟩ i x hx
      cases i with
      | zero =>
        have : a = x := by simpa using hx
        subst this
        rw [h1, headD_eq]
        simp
      | succ i => simpa using ih.mp h2 i x (by simpa using hx)
    · intro h
      refine ⟨?_, ih.mpr fun i x hx => by simpa using h (i + 1) x (by simpa using hx)⟩
      have := h 0 a rfl
      rw [this, headD_eq]
      simp
theorem Cyc.pth {f : Int → Int} {r : List Int} (c : Cyc f r) : Pth f r (hd r) := by
  refine Pth.ix.mpr fun i x hx => ?_
  have hi := (List.getElem?_eq_some_iff.mp hx).1
  have hg := c.go i x hx
  by_cases q : i + 1 = r.length
  · rw [q, Nat.mod_self] at hg
    rw [q, List.getElem?_eq_none (Nat.le_refl _)]
    show f x = hd r
    cases r with
    | nil => simp at hi
    | cons a t => exact (Option.some.inj hg).symm
  · rw [Nat.mod_eq_of_lt (by omega)] at hg
    rw [hg]
    rfl
theorem Cyc.of {f : Int → Int} {r : List Int} (hne : r ≠ []) (nd : r.Nodup) (p : Pth f r (hd r)) : Cyc f r := by
  refine ⟨hne, nd, fun i x hx => ?_⟩
  have hi := (List.getElem?_eq_some_iff.mp hx).1
  have hp := Pth.ix.mp p i x hx
  by_cases q : i + 1 = r.length
  · rw [q, Nat.mod_self]
    rw [q, List.getElem?_eq_none (Nat.le_refl _)] at hp
    cases r with
    | nil => simp at hi
    | cons a t => exact congrArg some hp.symm
  · rw [Nat.mod_eq_of_lt (by omega)]
    have hl : i + 1 < r.length := by omega
    rw [List.getElem?_eq_getElem hl] at hp ⊢
    exact congrArg some hp.symm
def swap1 (g : Int → Int) (h e : Int) (x : Int) : Int := if x = h then e else if x = e then g h else g x
theorem swap1_h (g : Int → Int) (h e : Int) : swap1 g h e h = e := if_pos rfl
theorem swap1_e {g : Int → Int} {h e : Int} (hne : e ≠ h) : swap1 g h e e = g h := by unfold swap1; rw [if_neg hne, if_pos rfl]
theorem swap1_no {g : Int → Int} {h e x : Int} (h1 : x ≠ h) (h2 : x ≠ e) : swap1 g h e x = g x := by unfold swap1; rw [if_neg h1, if_neg h2]
theorem swap1_out {g : Int → Int} {h e x : Int} {u : List Int} (h1 : h ∉ u) (h2 : e ∉ u) (hx : x ∈ u) : g x = swap1 g h e x := (swap1_no (g := g) (x := x) (h := h) (e := e) (fun z => h1 (z ▸ hx)) (fun z => h2 (z ▸ hx))).symm
abbrev ne (rs : Rs) : Rs := rs.filter fun r => decide (r ≠ [])
theorem split_at {r : List Int} {h : Int} (hm : h ∈ r) : ∃ u v, r = u ++ h :: v ∧ insAt r h = fun e => u ++ h :: e :: v := by
  have hl : r.idxOf h < r.length := List.idxOf_lt_length_iff.mpr hm
  refine ⟨r.take (r.idxOf h), r.drop (r.idxOf h + 1), ?_, ?_⟩
  · have := List.drop_eq_getElem_cons hl
    rw [List.getElem_idxOf hl] at this
    rw [← this, List.take_append_drop]
  · funext e
    unfold insAt
    have : r.take (r.idxOf h + 1) = r.take (r.idxOf h) ++ [h] := by rw [List.take_add_one, List.getElem?_eq_getElem hl, List.getElem_idxOf hl]; rfl
    rw [this, List.append_assoc]
    rfl
theorem Cyc.ins {g : Int → Int} {r : List Int} {h e : Int} (c : Cyc g r) (hm : h ∈ r) (he : e ∉ r) : Cyc (swap1 g h e) (insAt r h e) := by
  obtain ⟨u, v, er, ei⟩ := split_at hm
  have p := c.pth
  have nd := c.nd
  rw [ei]
  show Cyc _ (u ++ h :: e :: v)
  rw [er] at p nd he
  have hhd : hd (u ++ h :: e :: v) = hd (u ++ h :: v) := by cases u <;> rfl
  obtain ⟨n1, n2, n3⟩ := List.nodup_append.mp nd
  obtain ⟨n4, n5⟩ := List.nodup_cons.mp n2
  have heu : e ∉ u := fun z => he (List.mem_append_left _ z)
  have heh : e ≠ h := fun z => he (z ▸ List.mem_append_right _ List.mem_cons_self)
  have hev : e ∉ v := fun z => he (List.mem_append_right _ (List.mem_cons_of_mem _ z))
  have hhu : h ∉ u := fun z => n3 h z h List.mem_cons_self rfl
  refine Cyc.of (by simp) ?_ ?_
  · refine List.nodup_append.mpr ⟨n1, List.nodup_cons.mpr ⟨?_, List.nodup_cons.mpr ⟨hev, n5⟩⟩, fun a ha b hb z => ?_⟩
    · intro z
      rcases List.mem_cons.mp z with z | z
      · exact heh z.symm
      · exact n4 z
    · subst z
      rcases List.mem_cons.mp hb with z | z
      · exact n3 a ha h List.mem_cons_self z
      · rcases List.mem_cons.mp z with z | z
        · exact heu (z ▸ ha)
        · exact n3 a ha a (List.mem_cons_of_mem _ z) rfl
  · rw [hhd]
    obtain ⟨p1, p2⟩ := Pth.append.mp p
    obtain ⟨p3, p4⟩ := p2
    refine Pth.append.mpr ⟨p1.congr fun x hx => swap1_out hhu heu hx, swap1_h g h e, ?_, p4.congr fun x hx => swap1_out n4 hev hx⟩
    rw [swap1_e heh]
    exact p3
theorem ne_put (rs : Rs) (h e : Int) : ne (putIn rs h e) = (ne rs).map (putRow h e) := by
  unfold putIn ne
  rw [List.filter_map]
  congr 1
  refine List.filter_congr fun r hr => ?_
  cases r with
  | nil => rfl
  | cons x t =>
    have : putRow h e (x :: t) ≠ [] := putRow_ne (by simp)
    simp [this]
theorem Cycs.put {g : Int → Int} {rs : Rs} {n : Nat} {h : Int} (c : Cycs g n (ne rs)) (hh : 0 ≤ h ∧ h < (n : Int)) : Cycs (swap1 g h n) (n + 1) (ne (putIn rs h n)) := by
  have hm : h ∈ rs.flatten := by rw [← flat_noempty]; exact (c.mem h).mpr hh
  have nd : rs.flatten.Nodup := by rw [← flat_noempty]; exact c.nd
  have p := putIn_perm (e := (n : Int)) nd hm
  have mm : ∀ z : Int, z ∈ rs.flatten ↔ 0 ≤ z ∧ z < n := fun z => by rw [← flat_noempty]; exact c.mem z
  have hnn : (n : Int) ∉ rs.flatten := fun z => by have := (mm _).mp z; omega
  refine ⟨fun r hr => ?_, ?_, fun z => ?_⟩
  · rw [ne_put] at hr
    obtain ⟨q, hq, rfl⟩ := List.mem_map.mp hr
    have hqf : ∀ x ∈ q, x ∈ rs.flatten := fun x hx => List.mem_flatten.mpr ⟨q, (List.mem_filter.mp hq).1, hx⟩
    have hq' : (n : Int) ∉ q := fun z => hnn (hqf _ z)
    by_cases hmq : h ∈ q
    · unfold putRow
      rw [if_pos hmq]
      exact (c.cyc q hq).ins hmq hq'
    · rw [putRow_no hmq]
      exact (c.cyc q hq).congr fun x hx => swap1_out hmq hq' hx
  · rw [flat_noempty, p.nodup_iff]
    exact List.nodup_cons.mpr ⟨hnn, nd⟩
  · rw [flat_noempty, p.mem_iff, List.mem_cons, mm]
    omega
theorem nextIn_ne : ∀ (rs : Rs) (e : Int), nextIn (ne rs) e = nextIn rs e
  | [], _ => rfl
  | r :: rs, e => by
    unfold ne
    rw [List.filter_cons]
    have ih := nextIn_ne rs e
    cases r with
    | nil =>
      rw [if_neg (by simp)]
      show nextIn (ne rs) e = if e ∈ [] then behind [] e else nextIn rs e
      rw [if_neg (by simp)]
      exact ih
    | cons x t =>
      rw [if_pos (by simp)]
      show (if e ∈ x :: t then behind (x :: t) e else nextIn (ne rs) e) = if e ∈ x :: t then behind (x :: t) e else nextIn rs e
      rw [ih]
theorem Cycs.nextNe {f : Int → Int} {n : Nat} {rs : Rs} (c : Cycs f n (ne rs)) {e : Int} (he : 0 ≤ e ∧ e < (n : Int)) : nextIn rs e = f e := by rw [← nextIn_ne]; exact c.next he
theorem Dr.tie_next {rs : Rs} {n : Nat} {h t : Int} (d : Dr rs n) (h0 : 0 ≤ h ∧ h < n) (t0 : 0 ≤ t ∧ t < n) {e : Int} (he : 0 ≤ e ∧ e < (n : Int) + 2) :
    nextIn (putIn (putIn rs h n) t ((n : Int) + 1)) e = swap1 (swap1 (nextIn rs) h n) t ((n : Int) + 1) e := by
  have c1 := d.cycs.put h0
  have c2 := c1.put (h := t) (by omega)
  have := c2.nextNe (e := e) (by omega)
  have e1 : ((n + 1 : Nat) : Int) = (n : Int) + 1 := by omega
  rw [e1] at this
  exact this
end Ink
namespace Ink
theorem Cyc.upto {f : Int → Int} {r : List Int} {z : Int} (c : Cyc f r) (hz : z ∈ r) : ∃ u, Cyc f (u ++ [z]) ∧ (u ++ [z]).Perm r := by
  obtain ⟨a, b, rfl⟩ := List.append_of_mem hz
  have e : a ++ z :: b = (a ++ [z]) ++ b := by simp
  rw [e] at c ⊢
  refine ⟨b ++ a, ?_, ?_⟩
  · rw [List.append_assoc]
    exact c.rot
  · rw [List.append_assoc]
    exact List.perm_append_comm
theorem Cycs.front {f : Int → Int} {n : Nat} {L : Rs} {z : Int} (c : Cycs f n L) (hz : 0 ≤ z ∧ z < (n : Int)) : ∃ u rest, Cycs f n ((u ++ [z]) :: rest) ∧ L.length = rest.length + 1 := by
  obtain ⟨r, hr, hzr⟩ := List.mem_flatten.mp ((c.mem z).mpr hz)
  obtain ⟨A, B, rfl⟩ := List.append_of_mem hr
  obtain ⟨u, cu, pu⟩ := (c.cyc r hr).upto hzr
  have p1 : (A ++ r :: B).Perm (r :: (A ++ B)) := List.perm_middle
  have c1 := c.perm p1
  refine ⟨u, A ++ B, ⟨fun q hq => ?_, ?_, fun y => ?_⟩, by simp; omega⟩
  · rcases List.mem_cons.mp hq with e | e
    · rw [e]; exact cu
    · exact c1.cyc q (List.mem_cons_of_mem _ e)
  · have := c1.nd
    rw [List.flatten_cons] at this ⊢
    exact (pu.append_right _).nodup_iff.mpr this
  · rw [← c1.mem y, List.flatten_cons, List.flatten_cons]
    exact (pu.append_right _).mem_iff
theorem Cycs.two {f g : Int → Int} {n : Nat} {L M : Rs} (c : Cycs f n L) (h : ∀ r ∈ M, Cyc g r) (p : M.flatten.Perm ((n : Int) :: ((n : Int) + 1) :: L.flatten)) : Cycs g (n + 2) M := by
  refine ⟨h, p.nodup_iff.mpr (List.nodup_cons.mpr ⟨?_, List.nodup_cons.mpr ⟨?_, c.nd⟩⟩), fun z => ?_⟩
  · intro z
    rcases List.mem_cons.mp z with z | z
    · omega
    · have := (c.mem _).mp z; omega
  · intro z
    have := (c.mem _).mp z; omega
  · rw [p.mem_iff, List.mem_cons, List.mem_cons, c.mem]
    omega
structure Tied (f f' : Int → Int) (n : Nat) (x y : Int) : Prop where
  fx : f' x = n
  fy : f' y = (n : Int) + 1
  fn : f' n = f y
  fm : f' ((n : Int) + 1) = f x
  no : ∀ z : Int, 0 ≤ z ∧ z < n → z ≠ x → z ≠ y → f' z = f z
theorem hd_snoc (u : List Int) (x : Int) (y : Int) : hd (u ++ [x]) = u.headD x := by cases u <;> rfl
theorem headD_snoc (u : List Int) (x y : Int) : (u ++ [x]).headD y = u.headD x := by cases u <;> rfl
theorem Tied.count {f f' : Int → Int} {n : Nat} {x y : Int} {u : List Int} {rest : Rs} (T : Tied f f' n x y) (hxy : x ≠ y) (hx : 0 ≤ x ∧ x < (n : Int)) (hy : 0 ≤ y ∧ y < (n : Int)) (c : Cycs f n ((u ++ [x]) :: rest)) :
    ∃ M, Cycs f' (n + 2) M ∧ ((y ∈ u ∧ M.length = rest.length + 2) ∨ (y ∉ u ∧ M.length = rest.length)) := by
  have nd := c.nd
  rw [List.flatten_cons] at nd
  obtain ⟨nd1, nd2, nd3⟩ := List.nodup_append.mp nd
  obtain ⟨ndu, _, ndx⟩ := List.nodup_append.mp nd1
  have hxu : x ∉ u := fun z => ndx x z x (by simp) rfl
  have hxr : x ∉ rest.flatten := fun z => nd3 x (by simp) x z rfl
  have c0 := c.cyc _ List.mem_cons_self
  have p0 := c0.pth
  rw [hd_snoc u x 0] at p0
  obtain ⟨pu, pf, _⟩ := Pth.append.mp p0
  have pf' : f x = u.headD x := pf
  have pu' : Pth f u x := pu
  have hin : ∀ z ∈ u ++ [x], 0 ≤ z ∧ z < (n : Int) := fun z hz => (c.mem z).mp (by rw [List.flatten_cons]; exact List.mem_append_left _ hz)
  have hinr : ∀ z ∈ rest.flatten, 0 ≤ z ∧ z < (n : Int) := fun z hz => (c.mem z).mp (by rw [List.flatten_cons]; exact List.mem_append_right _ hz)
  have nn : ∀ {z : Int}, 0 ≤ z ∧ z < (n : Int) → z ≠ (n : Int) ∧ z ≠ (n : Int) + 1 := fun h => by omega
  have other : ∀ {r : List Int}, r ∈ rest → y ∉ r → Cyc f' r := fun {r} hr hyr => (c.cyc r (List.mem_cons_of_mem _ hr)).congr fun z hz => by
    have hz' := List.mem_flatten.mpr ⟨r, hr, hz⟩
    exact (T.no z (hinr z hz') (fun e => hxr (e ▸ hz')) (fun e => hyr (e ▸ hz))).symm
  by_cases hyu : y ∈ u
  · obtain ⟨u1, u2, rfl⟩ := List.append_of_mem hyu
    have hyr : y ∉ rest.flatten := fun z => nd3 y (by simp) y z rfl
    obtain ⟨n1, n2, n3⟩ := List.nodup_append.mp ndu
    obtain ⟨n4, n5⟩ := List.nodup_cons.mp n2
    have hy1 : y ∉ u1 := fun z => n3 y z y List.mem_cons_self rfl
    obtain ⟨q1, q2, q3⟩ := Pth.append.mp pu'
    have q1' : Pth f u1 y := q1
    have eq1 : ∀ z ∈ u1, f z = f' z := fun z hz => (T.no z (hin z (by simp [hz])) (fun e => hxu (e ▸ by simp [hz])) (fun e => hy1 (e ▸ hz))).symm
    have eq2 : ∀ z ∈ u2, f z = f' z := fun z hz => (T.no z (hin z (by simp [hz])) (fun e => hxu (e ▸ by simp [hz])) (fun e => n4 (e ▸ hz))).symm
    refine ⟨(((n : Int) + 1) :: (u1 ++ [y])) :: ((n : Int) :: (u2 ++ [x])) :: rest, c.two (fun r hr => ?_) ?_, .inl ⟨hyu, rfl⟩⟩
    · rcases List.mem_cons.mp hr with rfl | hr
      · refine Cyc.of (by simp) (List.nodup_cons.mpr ⟨fun z => ?_, List.nodup_append.mpr ⟨n1, by simp, fun a ha b hb e => ?_⟩⟩) ⟨?_, Pth.append.mpr ⟨q1'.congr eq1, T.fy, trivial⟩⟩
        · have := hin _ (show (n : Int) + 1 ∈ (u1 ++ y :: u2) ++ [x] by
            rcases List.mem_append.mp z with z | z
            · simp [z]
            · have : (n : Int) + 1 = y := by simpa using z
              simp [this])
          omega
        · have : b = y := by simpa using hb
          exact hy1 (by rw [← this, ← e]; exact ha)
        · rw [T.fm, pf', headD_snoc]
          cases u1 <;> rfl
      · rcases List.mem_cons.mp hr with rfl | hr
        · refine Cyc.of (by simp) (List.nodup_cons.mpr ⟨fun z => ?_, List.nodup_append.mpr ⟨n5, by simp, fun a ha b hb e => ?_⟩⟩) ⟨?_, Pth.append.mpr ⟨q3.congr eq2, T.fx, trivial⟩⟩
          · have := hin _ (show (n : Int) ∈ (u1 ++ y :: u2) ++ [x] by
              rcases List.mem_append.mp z with z | z
              · simp [z]
              · have : (n : Int) = x := by simpa using z
                simp [this])
            omega
          · have : b = x := by simpa using hb
            exact hxu (by rw [← this, ← e]; simp [ha])
          · rw [T.fn, q2, headD_snoc]
        · exact other hr fun z => hyr (List.mem_flatten.mpr ⟨r, hr, z⟩)
    · rw [List.flatten_cons, List.flatten_cons, List.flatten_cons]
      refine List.perm_iff_count.mpr fun a => ?_
      simp only [List.count_append, List.count_cons, List.count_nil]
      omega
  · have hyx : y ∉ u ++ [x] := fun z => by
      rcases List.mem_append.mp z with z | z
      · exact hyu z
      · exact hxy (by simpa using z : y = x).symm
    have hyr : y ∈ rest.flatten := by
      have := (c.mem y).mpr hy
      rw [List.flatten_cons] at this
      exact (List.mem_append.mp this).resolve_left hyx
    obtain ⟨r2, hr2, hyr2⟩ := List.mem_flatten.mp hyr
    obtain ⟨A, B, eAB⟩ := List.append_of_mem hr2
    obtain ⟨v, cv, pv⟩ := (c.cyc r2 (List.mem_cons_of_mem _ hr2)).upto hyr2
    have pr : rest.Perm (r2 :: (A ++ B)) := by rw [eAB]; exact List.perm_middle
    have ndr : (r2 :: (A ++ B)).flatten.Nodup := (perm_flatten pr).nodup_iff.mp nd2
    rw [List.flatten_cons] at ndr
    obtain ⟨m1, m2, m3⟩ := List.nodup_append.mp ndr
    have ndv : (v ++ [y]).Nodup := pv.nodup_iff.mpr m1
    obtain ⟨nv1, _, nv3⟩ := List.nodup_append.mp ndv
    have hyv : y ∉ v := fun z => nv3 y z y (by simp) rfl
    have p1 := cv.pth
    rw [hd_snoc v y 0] at p1
    obtain ⟨qv, qf, _⟩ := Pth.append.mp p1
    have qv' : Pth f v y := qv
    have qf' : f y = v.headD y := qf
    have hvin : ∀ z ∈ v ++ [y], z ∈ rest.flatten := fun z hz => List.mem_flatten.mpr ⟨r2, hr2, pv.mem_iff.mp hz⟩
    have eqv : ∀ z ∈ v, f z = f' z := fun z hz => (T.no z (hinr z (hvin z (by simp [hz]))) (fun e => hxr (e ▸ hvin z (by simp [hz]))) (fun e => hyv (e ▸ hz))).symm
    have equ : ∀ z ∈ u, f z = f' z := fun z hz => (T.no z (hin z (by simp [hz])) (fun e => hxu (e ▸ hz)) (fun e => hyu (e ▸ hz))).symm
    have hP : (((n : Int) :: (v ++ [y]) ++ ((n : Int) + 1) :: (u ++ [x])) :: (A ++ B)).flatten.Perm ((n : Int) :: ((n : Int) + 1) :: ((u ++ [x]) :: rest).flatten) := by
      have e1 : rest.flatten.Perm ((v ++ [y]) ++ (A ++ B).flatten) := by
        have := perm_flatten pr
        rw [List.flatten_cons] at this
        exact this.trans (pv.symm.append_right _)
      rw [List.flatten_cons, List.flatten_cons]
      refine List.Perm.trans ?_ ((((e1.append_left (u ++ [x])).cons _).cons _).symm)
      refine List.perm_iff_count.mpr fun a => ?_
      simp only [List.count_append, List.count_cons, List.count_nil]
      omega
    have c2 : ∀ r ∈ (((n : Int) :: (v ++ [y]) ++ ((n : Int) + 1) :: (u ++ [x])) :: (A ++ B)), Cyc f' r := fun r hr => by
      rcases List.mem_cons.mp hr with rfl | hr
      · refine Cyc.of (by simp) ?_ ?_
        · have ndl : ((n : Int) :: ((n : Int) + 1) :: ((u ++ [x]) :: rest).flatten).Nodup := by
            refine List.nodup_cons.mpr ⟨?_, List.nodup_cons.mpr ⟨?_, c.nd⟩⟩
            · intro z
              rcases List.mem_cons.mp z with z | z
              · omega
              · have := (c.mem _).mp z; omega
            · intro z
              have := (c.mem _).mp z; omega
          have := hP.nodup_iff.mpr ndl
          rw [List.flatten_cons] at this
          exact (List.nodup_append.mp this).1
        · show Pth f' (((n : Int) :: (v ++ [y])) ++ (((n : Int) + 1) :: (u ++ [x]))) n
          refine Pth.append.mpr ⟨⟨?_, Pth.append.mpr ⟨qv'.congr eqv, T.fy, trivial⟩⟩, ?_, Pth.append.mpr ⟨pu'.congr equ, T.fx, trivial⟩⟩
          · rw [T.fn, qf', headD_snoc]
          · rw [T.fm, pf', headD_snoc]
      · have hr' : r ∈ rest := pr.mem_iff.mpr (List.mem_cons_of_mem _ hr)
        exact other hr' fun z => m3 y hyr2 y (List.mem_flatten.mpr ⟨r, hr, z⟩) rfl
    refine ⟨_, c.two c2 hP, .inr ⟨hyu, ?_⟩⟩
    rw [eAB]
    simp
    omega
end Ink
namespace Ink
def SameFace (rs : Rs) (h t : Int) : Prop := ∃ row, IsFace (stp rs) (nextIn rs h) row ∧ acr t ∈ row
theorem acr_n {n : Nat} (h : n % 2 = 0) : acr (n : Int) = (n : Int) + 1 ∧ acr ((n : Int) + 1) = n := by unfold acr; omega
theorem acr_ne {x y : Int} (h : x ≠ y) : acr x ≠ acr y := fun e => h (acr_inj _ _ e)
theorem Dr.same_iff {rs : Rs} {n : Nat} {h t : Int} {u : List Int} {rest : Rs} (d : Dr rs n) (h0 : 0 ≤ h ∧ h < n) (c : Cycs (stp rs) n ((u ++ [acr h]) :: rest)) : SameFace rs h t ↔ acr t ∈ u ++ [acr h] := by
  have c0 := c.cyc _ List.mem_cons_self
  have p := Pth.append.mp c0.pth
  have e : stp rs (acr h) = hd (u ++ [acr h]) := p.2.1
  have e2 : stp rs (acr h) = nextIn rs h := by show nextIn rs (acr (acr h)) = _; rw [acr_acr]
  have hf : IsFace (stp rs) (nextIn rs h) (u ++ [acr h]) := by
    rw [← e2, e]
    cases u with
    | nil => exact Cyc.face c0
    | cons a u => exact Cyc.face c0
  constructor
  · rintro ⟨row, h1, h2⟩
    rw [h1.uniq hf] at h2
    exact h2
  · intro h1
    exact ⟨_, hf, h1⟩
theorem Dr.tie_faces {rs L : Rs} {n : Nat} {h t : Int} (d : Dr rs n) (h0 : 0 ≤ h ∧ h < n) (t0 : 0 ≤ t ∧ t < n) (c : Cycs (stp rs) n L) :
    ∃ M, Cycs (stp (putIn (putIn rs h n) t ((n : Int) + 1))) (n + 2) M ∧ ((SameFace rs h t ∧ M.length = L.length + 1) ∨ (¬ SameFace rs h t ∧ M.length + 1 = L.length)) := by
  have ha := acr_lt d.even h0.1 h0.2
  have ta := acr_lt d.even t0.1 t0.2
  obtain ⟨an1, an2⟩ := acr_n d.even
  obtain ⟨u, rest, c1, hl⟩ := c.front ha
  have val : ∀ {z : Int}, 0 ≤ z ∧ z < (n : Int) + 2 → stp (putIn (putIn rs h n) t ((n : Int) + 1)) z = swap1 (swap1 (nextIn rs) h n) t ((n : Int) + 1) (acr z) := fun {z} hz => d.tie_next h0 t0 (by
    have := acr_lt (n := n + 2) (by have := d.even; omega) hz.1 (by omega)
    omega)
  have fx : stp rs (acr h) = nextIn rs h := by show nextIn rs (acr (acr h)) = _; rw [acr_acr]
  have fy : stp rs (acr t) = nextIn rs t := by show nextIn rs (acr (acr t)) = _; rw [acr_acr]
  have hno : ∀ z : Int, 0 ≤ z ∧ z < n → z ≠ acr h → z ≠ acr t → stp (putIn (putIn rs h n) t ((n : Int) + 1)) z = stp rs z := fun z hz h1 h2 => by
    have hb := acr_lt d.even hz.1 hz.2
    rw [val (by omega), swap1_no (fun e => h2 (by rw [← e, acr_acr])) (by omega), swap1_no (fun e => h1 (by rw [← e, acr_acr])) (by omega)]
    rfl
  have hsame := d.same_iff (t := t) h0 c1
  by_cases hth : t = h
  · subst hth
    have nd := c1.nd
    rw [List.flatten_cons] at nd
    obtain ⟨nd1, nd2, nd3⟩ := List.nodup_append.mp nd
    obtain ⟨ndu, _, ndx⟩ := List.nodup_append.mp nd1
    have hxu : acr t ∉ u := fun z => ndx _ z _ (by simp) rfl
    have hxr : acr t ∉ rest.flatten := fun z => nd3 _ (by simp) _ z rfl
    have f1 : stp (putIn (putIn rs t n) t ((n : Int) + 1)) (acr t) = (n : Int) + 1 := by rw [val (by omega), acr_acr, swap1_h]
    have f2 : stp (putIn (putIn rs t n) t ((n : Int) + 1)) n = n := by rw [val (by omega), an1, swap1_e (by omega), swap1_h]
    have f3 : stp (putIn (putIn rs t n) t ((n : Int) + 1)) ((n : Int) + 1) = nextIn rs t := by rw [val (by omega), an2, swap1_no (by omega) (by omega), swap1_e (by omega)]
    have c0 := c1.cyc _ List.mem_cons_self
    obtain ⟨p1, p2, _⟩ := Pth.append.mp c0.pth
    have hin : ∀ z ∈ u ++ [acr t], 0 ≤ z ∧ z < (n : Int) := fun z hz => (c1.mem z).mp (by rw [List.flatten_cons]; exact List.mem_append_left _ hz)
    refine ⟨[(n : Int)] :: (((n : Int) + 1) :: (u ++ [acr t])) :: rest, c1.two (fun r hr => ?_) ?_, .inl ⟨hsame.mpr (by simp), by simp; omega⟩⟩
    · rcases List.mem_cons.mp hr with rfl | hr
      · exact Cyc.of (by simp) (by simp) ⟨f2, trivial⟩
      · rcases List.mem_cons.mp hr with rfl | hr
        · refine Cyc.of (by simp) (List.nodup_cons.mpr ⟨fun z => ?_, nd1⟩) ⟨?_, Pth.append.mpr ⟨?_, f1, trivial⟩⟩
          · have := hin _ z; omega
          · rw [f3, ← fx]
            have : stp rs (acr t) = hd (u ++ [acr t]) := p2
            rw [this, hd_snoc u _ 0, headD_snoc]
          · have p1' : Pth (stp rs) u (acr t) := p1
            exact p1'.congr fun z hz => (hno z (hin z (by simp [hz])) (fun e => hxu (e ▸ hz)) (fun e => hxu (e ▸ hz))).symm
        · refine (c1.cyc r (List.mem_cons_of_mem _ hr)).congr fun z hz => ?_
          have hz' : z ∈ rest.flatten := List.mem_flatten.mpr ⟨r, hr, hz⟩
          exact (hno z ((c1.mem z).mp (by rw [List.flatten_cons]; exact List.mem_append_right _ hz')) (fun e => hxr (e ▸ hz')) (fun e => hxr (e ▸ hz'))).symm
    · rw [List.flatten_cons, List.flatten_cons, List.flatten_cons]
      exact .refl _
  · have T : Tied (stp rs) (stp (putIn (putIn rs h n) t ((n : Int) + 1))) n (acr h) (acr t) := by
      refine ⟨?_, ?_, ?_, ?_, hno⟩
      · rw [val (by omega), acr_acr, swap1_no (Ne.symm hth) (by omega), swap1_h]
      · rw [val (by omega), acr_acr, swap1_h]
      · rw [val (by omega), an1, swap1_e (by omega), swap1_no hth (by omega), fy]
      · rw [val (by omega), an2, swap1_no (by omega) (by omega), swap1_e (by omega), fx]
    obtain ⟨M, cM, hM⟩ := T.count (acr_ne (Ne.symm hth)) ha ta c1
    refine ⟨M, cM, ?_⟩
    rcases hM with ⟨hy, hm⟩ | ⟨hy, hm⟩
    · exact .inl ⟨hsame.mpr (by simp [hy]), by omega⟩
    · refine .inr ⟨fun z => ?_, by omega⟩
      rcases List.mem_append.mp (hsame.mp z) with z | z
      · exact hy z
      · exact hth (acr_inj _ _ (by simpa using z))
end Ink
namespace Ink
def pt (rs : Rs) (e : Int) : Nat := rs.findIdx fun r => decide (e ∈ r)
theorem pt_uniq {rs : Rs} {i : Nat} {r : List Int} {e : Int} (nd : rs.flatten.Nodup) (hi : rs[i]? = some r) (he : e ∈ r) : pt rs e = i := by
  obtain ⟨hl, hr⟩ := List.getElem?_eq_some_iff.mp hi
  unfold pt
  rw [List.findIdx_eq hl]
  refine ⟨by rw [hr]; exact decide_eq_true he, fun j hj => ?_⟩
  refine decide_eq_false fun z => ?_
  obtain ⟨k, hk⟩ := List.mem_iff_getElem?.mp he
  refine later_new nd hi hk (List.mem_flatten.mpr ⟨rs[j], ?_, z⟩)
  exact List.mem_of_getElem? (i := j) (by rw [List.getElem?_take, if_pos hj]; exact List.getElem?_eq_getElem _)
theorem pt_spec {rs : Rs} {e : Int} (he : e ∈ rs.flatten) : ∃ r, rs[pt rs e]? = some r ∧ e ∈ r := by
  obtain ⟨r, hr, hz⟩ := List.mem_flatten.mp he
  have hl : pt rs e < rs.length := List.findIdx_lt_length_of_exists ⟨r, hr, decide_eq_true hz⟩
  refine ⟨rs[pt rs e], List.getElem?_eq_getElem hl, ?_⟩
  have := List.findIdx_getElem (xs := rs) (p := fun r => decide (e ∈ r)) (w := hl)
  exact of_decide_eq_true this
theorem pt_lt {rs : Rs} {e : Int} (he : e ∈ rs.flatten) : pt rs e < rs.length := by
  obtain ⟨r, h, _⟩ := pt_spec he
  exact (List.getElem?_eq_some_iff.mp h).1
theorem pt_next {rs : Rs} {e : Int} (nd : rs.flatten.Nodup) (he : e ∈ rs.flatten) : pt rs (nextIn rs e) = pt rs e := by
  obtain ⟨r, h, hz⟩ := pt_spec he
  refine pt_uniq nd h ?_
  obtain ⟨j, hj⟩ := List.mem_iff_getElem?.mp hz
  rw [nextIn_at nd h hj]
  have hjl := (List.getElem?_eq_some_iff.mp hj).1
  have := getElem?_getD (r := r) (k := (j + 1) % r.length) (d := e) (Nat.mod_lt _ (by omega))
  exact List.mem_of_getElem? this
theorem putRow_mem {b e z : Int} {r : List Int} : z ∈ putRow b e r ↔ z ∈ r ∨ (b ∈ r ∧ z = e) := by
  unfold putRow
  by_cases h : b ∈ r
  · rw [if_pos h, (insAt_perm r b e).mem_iff, List.mem_cons]
    constructor
    · rintro (h1 | h1)
      · exact .inr ⟨h, h1⟩
      · exact .inl h1
    · rintro (h1 | ⟨_, h1⟩)
      · exact .inr h1
      · exact .inl h1
  · rw [if_neg h]
    exact ⟨.inl, fun h1 => h1.elim id fun z => absurd z.1 h⟩
def prs (rs : Rs) (n : Nat) : List (Nat × Nat) := (List.range (n / 2)).map fun (k : Nat) => (pt rs (2 * (k : Int)), pt rs (2 * (k : Int) + 1))
def relab (hs : List Int) (p : Nat × Nat) : List Int := hs.map fun z => if z = hs.getD p.1 0 then hs.getD p.2 0 else z
def nums (m : Nat) : List Int := (List.range m).map fun (k : Nat) => (k : Int)
def heads (m : Nat) (ps : List (Nat × Nat)) : List Int := ps.foldl relab (nums m)
theorem heads_snoc (m : Nat) (ps : List (Nat × Nat)) (p : Nat × Nat) : heads m (ps ++ [p]) = relab (heads m ps) p := by unfold heads; rw [List.foldl_append]; rfl
theorem relab_length (hs : List Int) (p : Nat × Nat) : (relab hs p).length = hs.length := List.length_map _
theorem nums_length (m : Nat) : (nums m).length = m := by unfold nums; rw [List.length_map, List.length_range]
theorem heads_ind {m : Nat} {P : List (Nat × Nat) → List Int → Prop} (ps : List (Nat × Nat)) (h0 : P [] (nums m)) (hs : ∀ qs p, (∃ rest, ps = qs ++ p :: rest) → P qs (heads m qs) → P (qs ++ [p]) (relab (heads m qs) p)) : P ps (heads m ps) := by
  have key : ∀ k, k ≤ ps.length → P (ps.take k) (heads m (ps.take k)) := by
    intro k
    induction k with
    | zero => intro _; exact h0
    | succ k ih =>
      intro hk
      have hk' : k < ps.length := hk
      have e : ps.take (k + 1) = ps.take k ++ [ps[k]] := by rw [List.take_add_one, List.getElem?_eq_getElem hk']; rfl
      rw [e, heads_snoc]
      refine hs _ _ ⟨ps.drop (k + 1), ?_⟩ (ih (by omega))
      rw [← List.drop_eq_getElem_cons hk', List.take_append_drop]
  have := key ps.length (Nat.le_refl _)
  rw [List.take_length] at this
  exact this
theorem heads_length (m : Nat) (ps : List (Nat × Nat)) : (heads m ps).length = m := heads_ind (P := fun _ hs => hs.length = m) ps (nums_length m) fun _ _ _ ih => by rw [relab_length]; exact ih
theorem getD_relab {hs : List Int} {p : Nat × Nat} {i : Nat} (h : i < hs.length) : (relab hs p).getD i 0 = if hs.getD i 0 = hs.getD p.1 0 then hs.getD p.2 0 else hs.getD i 0 := by
  unfold relab
  rw [List.getD_eq_getElem?_getD, List.getElem?_map, List.getElem?_eq_getElem h]
  show (if hs[i] = _ then _ else hs[i]) = _
  have : hs.getD i 0 = hs[i] := by rw [List.getD_eq_getElem?_getD, List.getElem?_eq_getElem h]; rfl
  rw [this]
theorem getD_nums {m i : Nat} (h : i < m) : (nums m).getD i 0 = i := by
  unfold nums
  rw [List.getD_eq_getElem?_getD, List.getElem?_map, List.getElem?_range h]
  rfl
theorem relab_eq {hs : List Int} {p : Nat × Nat} {i j : Nat} (hi : i < hs.length) (hj : j < hs.length) (h : hs.getD i 0 = hs.getD j 0) : (relab hs p).getD i 0 = (relab hs p).getD j 0 := by rw [getD_relab hi, getD_relab hj, h]
def Below (m : Nat) (ps : List (Nat × Nat)) : Prop := ∀ p ∈ ps, p.1 < m ∧ p.2 < m
theorem heads_pair {m : Nat} {ps : List (Nat × Nat)} (hb : Below m ps) : ∀ p ∈ ps, (heads m ps).getD p.1 0 = (heads m ps).getD p.2 0 := by
  refine heads_ind (P := fun qs hs => ∀ p ∈ qs, hs.getD p.1 0 = hs.getD p.2 0) ps (fun p hp => by cases hp) fun qs p ⟨rest, e⟩ ih q hq => ?_
  have hl := heads_length m qs
  have hp : p.1 < m ∧ p.2 < m := hb p (by rw [e]; simp)
  rcases List.mem_append.mp hq with z | z
  · have hq' := hb q (by rw [e]; simp [z])
    exact relab_eq (by omega) (by omega) (ih q z)
  · have : q = p := by simpa using z
    subst this
    rw [getD_relab (by omega), getD_relab (by omega), if_pos rfl]
    split
    · rfl
    · rfl
theorem heads_closed {m : Nat} {ps : List (Nat × Nat)} (hb : Below m ps) (S : Nat → Prop) (hS : ∀ p ∈ ps, S p.1 ↔ S p.2) : ∀ i j, i < m → j < m → (heads m ps).getD i 0 = (heads m ps).getD j 0 → (S i ↔ S j) := by
  refine heads_ind (P := fun qs hs => ∀ i j, i < m → j < m → hs.getD i 0 = hs.getD j 0 → (S i ↔ S j)) ps (fun i j hi hj h => ?_) fun qs p ⟨rest, e⟩ ih i j hi hj h => ?_
  · rw [getD_nums hi, getD_nums hj] at h
    have : i = j := by omega
    rw [this]
  · have hl := heads_length m qs
    have hmem : p ∈ ps := by rw [e]; simp
    have hp : p.1 < m ∧ p.2 < m := hb p hmem
    rw [getD_relab (by omega), getD_relab (by omega)] at h
    by_cases hia : (heads m qs).getD i 0 = (heads m qs).getD p.1 0
    · rw [if_pos hia] at h
      have h1 := ih i p.1 hi hp.1 hia
      by_cases hja : (heads m qs).getD j 0 = (heads m qs).getD p.1 0
      · exact h1.trans (ih j p.1 hj hp.1 hja).symm
      · rw [if_neg hja] at h
        exact h1.trans ((hS p hmem).trans (ih p.2 j hp.2 hj h))
    · rw [if_neg hia] at h
      by_cases hja : (heads m qs).getD j 0 = (heads m qs).getD p.1 0
      · rw [if_pos hja] at h
        exact (ih i p.2 hi hp.2 h).trans ((hS p hmem).symm.trans (ih j p.1 hj hp.1 hja).symm)
      · rw [if_neg hja] at h
        exact ih i j hi hj h
theorem relab_mem {hs : List Int} {p : Nat × Nat} (h2 : p.2 < hs.length) {z : Int} (hz : z ∈ relab hs p) : z ∈ hs := by
  obtain ⟨y, hy, rfl⟩ := List.mem_map.mp hz
  split
  · rw [List.getD_eq_getElem?_getD, List.getElem?_eq_getElem h2]; exact List.getElem_mem h2
  · exact hy
theorem nums_succ (m : Nat) : nums (m + 1) = nums m ++ [(m : Int)] := by unfold nums; rw [List.range_succ, List.map_append]; rfl
structure DC (hs : List Int) (k : Nat) : Prop where
  ex : ∃ D : List Int, D.Nodup ∧ (∀ z, z ∈ D ↔ z ∈ hs) ∧ D.length = k
theorem DC.uniq {hs : List Int} {k k' : Nat} (a : DC hs k) (b : DC hs k') : k = k' := by
  obtain ⟨D, d1, d2, d3⟩ := a.ex
  obtain ⟨E, e1, e2, e3⟩ := b.ex
  have h1 := sub_len d1 (b := E) fun z hz => (e2 z).mpr ((d2 z).mp hz)
  have h2 := sub_len e1 (b := D) fun z hz => (d2 z).mpr ((e2 z).mp hz)
  omega
theorem relab_id {hs : List Int} {p : Nat × Nat} (h : hs.getD p.1 0 = hs.getD p.2 0) : relab hs p = hs := by
  unfold relab
  have : (fun z : Int => if z = hs.getD p.1 0 then hs.getD p.2 0 else z) = id := by
    funext z
    split
    · rename_i e; rw [e, h]; rfl
    · rfl
  rw [this, List.map_id]
theorem getD_mem' {hs : List Int} {i : Nat} (h : i < hs.length) : hs.getD i 0 ∈ hs := by rw [List.getD_eq_getElem?_getD, List.getElem?_eq_getElem h]; exact List.getElem_mem h
theorem DC.relab {hs : List Int} {k : Nat} {p : Nat × Nat} (a : DC hs k) (h1 : p.1 < hs.length) (h2 : p.2 < hs.length) (h : hs.getD p.1 0 ≠ hs.getD p.2 0) : ∃ j, k = j + 1 ∧ DC (relab hs p) j := by
  obtain ⟨D, d1, d2, d3⟩ := a.ex
  have hx : hs.getD p.1 0 ∈ D := (d2 _).mpr (getD_mem' h1)
  have hlen := List.length_erase_of_mem hx
  have hpos := List.length_pos_of_mem hx
  refine ⟨k - 1, by omega, D.erase (hs.getD p.1 0), d1.erase _, fun z => ?_, by omega⟩
  rw [d1.mem_erase_iff, d2]
  constructor
  · rintro ⟨hne, hz⟩
    exact List.mem_map.mpr ⟨z, hz, if_neg hne⟩
  · intro hz
    refine ⟨?_, relab_mem h2 hz⟩
    obtain ⟨y, hy, rfl⟩ := List.mem_map.mp hz
    split
    · exact Ne.symm h
    · assumption
end Ink
namespace Ink
theorem prs_below {rs : Rs} {n : Nat} (d : Dr rs n) : Below rs.length (prs rs n) := fun p hp => by
  obtain ⟨k, hk, rfl⟩ := List.mem_map.mp hp
  have := List.mem_range.mp hk
  exact ⟨pt_lt ((d.mem _).mpr (by omega)), pt_lt ((d.mem _).mpr (by omega))⟩
def lab (rs : Rs) (n : Nat) (i : Nat) : Int := (heads rs.length (prs rs n)).getD i 0
theorem lab_acr {rs : Rs} {n : Nat} (d : Dr rs n) {e : Int} (he : 0 ≤ e ∧ e < (n : Int)) : lab rs n (pt rs (acr e)) = lab rs n (pt rs e) := by
  have hk : (e / 2).toNat < n / 2 := by have := d.even; omega
  have hm : (pt rs (2 * ((e / 2).toNat : Int)), pt rs (2 * ((e / 2).toNat : Int) + 1)) ∈ prs rs n := List.mem_map.mpr ⟨_, List.mem_range.mpr hk, rfl⟩
  have h := heads_pair (prs_below d) _ hm
  have h' : lab rs n (pt rs (2 * ((e / 2).toNat : Int))) = lab rs n (pt rs (2 * ((e / 2).toNat : Int) + 1)) := h
  by_cases h2 : e % 2 = 0
  · have e1 : 2 * ((e / 2).toNat : Int) = e := by omega
    have e2 : acr e = e + 1 := by unfold acr; omega
    rw [e1] at h'
    rw [e2, h']
  · have e1 : 2 * ((e / 2).toNat : Int) + 1 = e := by omega
    have e2 : acr e = 2 * ((e / 2).toNat : Int) := by unfold acr; omega
    rw [e1] at h'
    rw [e2, h']
theorem lab_stp {rs : Rs} {n : Nat} (d : Dr rs n) {e : Int} (he : 0 ≤ e ∧ e < (n : Int)) : lab rs n (pt rs (stp rs e)) = lab rs n (pt rs e) := by
  show lab rs n (pt rs (nextIn rs (acr e))) = _
  rw [pt_next d.nd ((d.mem _).mpr (acr_lt d.even he.1 he.2)), lab_acr d he]
theorem SameFace.lab {rs : Rs} {n : Nat} {h t : Int} (d : Dr rs n) (h0 : 0 ≤ h ∧ h < n) (t0 : 0 ≤ t ∧ t < n) (s : SameFace rs h t) : Ink.lab rs n (pt rs h) = Ink.lab rs n (pt rs t) := by
  obtain ⟨row, hf, hm⟩ := s
  have hb := (d.mem _).mp (nextIn_mem ((d.mem h).mpr h0))
  obtain ⟨j, rfl, _⟩ := hf.ex
  obtain ⟨k, _, hk⟩ := List.mem_map.mp hm
  have key : ∀ k, Ink.lab rs n (pt rs (itr (stp rs) k (nextIn rs h))) = Ink.lab rs n (pt rs h) := by
    intro k
    induction k with
    | zero => show Ink.lab rs n (pt rs (nextIn rs h)) = _; rw [pt_next d.nd ((d.mem h).mpr h0)]
    | succ k ih =>
      show Ink.lab rs n (pt rs (stp rs (itr (stp rs) k (nextIn rs h)))) = _
      rw [lab_stp d (itr_in (fun x h => d.stp_mem h.1 h.2) hb k), ih]
  have := key k
  have hk' : itr (stp rs) k (nextIn rs h) = acr t := hk
  rw [hk', lab_acr d t0] at this
  exact this.symm
theorem row_of {rs : Rs} {n : Nat} (d : Dr rs n) {e : Int} (he : 0 ≤ e ∧ e < (n : Int)) : ∃ r, rs[pt rs e]? = some r ∧ e ∈ r := pt_spec ((d.mem e).mpr he)
theorem prs_same {rs rs' : Rs} {n : Nat} (d : Dr rs n) (nd : rs'.flatten.Nodup) (h : ∀ (i : Nat) (r : List Int), rs[i]? = some r → ∃ r', rs'[i]? = some r' ∧ ∀ z ∈ r, z ∈ r') : ∀ e : Int, 0 ≤ e ∧ e < (n : Int) → pt rs' e = pt rs e := fun e he => by
  obtain ⟨r, hr, hz⟩ := row_of d he
  obtain ⟨r', hr', hs⟩ := h _ r hr
  exact pt_uniq nd hr' (hs e hz)
theorem prs_two {rs rs' : Rs} {n : Nat} (d : Dr rs n) (h : ∀ e : Int, 0 ≤ e ∧ e < (n : Int) → pt rs' e = pt rs e) : prs rs' (n + 2) = prs rs n ++ [(pt rs' n, pt rs' ((n : Int) + 1))] := by
  have hn := d.even
  unfold prs
  rw [show (n + 2) / 2 = n / 2 + 1 by omega, List.range_succ, List.map_append]
  congr 1
  · refine List.map_congr_left fun k hk => ?_
    have := List.mem_range.mp hk
    rw [h _ (by omega), h _ (by omega)]
  · have e : 2 * ((n / 2 : Nat) : Int) = n := by omega
    show [(pt rs' (2 * ((n / 2 : Nat) : Int)), pt rs' (2 * ((n / 2 : Nat) : Int) + 1))] = _
    rw [e]
def aln (rs : Rs) : Nat := (rs.filter fun r => decide (r = [])).length
theorem aln_append (a b : Rs) : aln (a ++ b) = aln a + aln b := by unfold aln; rw [List.filter_append, List.length_append]
theorem aln_put (b e : Int) : ∀ rs : Rs, aln (putIn rs b e) = aln rs
  | [] => rfl
  | r :: rs => by
    have ih := aln_put b e rs
    have e1 : putIn (r :: rs) b e = [putRow b e r] ++ putIn rs b e := rfl
    have e2 : r :: rs = [r] ++ rs := rfl
    rw [e1, e2, aln_append, aln_append, ih]
    congr 1
    cases r with
    | nil => rfl
    | cons x t =>
      have : putRow b e (x :: t) ≠ [] := putRow_ne (by simp)
      simp [aln, this]
structure Cts (rs : Rs) (n F C : Nat) : Prop where
  fcs : ∃ L, Cycs (stp rs) n L ∧ L.length = F
  pcs : DC (heads rs.length (prs rs n)) C
theorem Cts.uniq {rs : Rs} {n F C F' C' : Nat} (a : Cts rs n F C) (b : Cts rs n F' C') : F = F' ∧ C = C' := by
  obtain ⟨L, c, h⟩ := a.fcs
  obtain ⟨M, c', h'⟩ := b.fcs
  exact ⟨by rw [← h, ← h']; exact c.count c', a.pcs.uniq b.pcs⟩
theorem put_row {rs : Rs} {i : Nat} {r : List Int} {b e : Int} (h : rs[i]? = some r) : (putIn rs b e)[i]? = some (putRow b e r) := by unfold putIn; rw [List.getElem?_map, h]; rfl
theorem Dr.tie_pts {rs : Rs} {n : Nat} {h t : Int} (d : Dr rs n) (h0 : 0 ≤ h ∧ h < n) (t0 : 0 ≤ t ∧ t < n) :
    prs (putIn (putIn rs h n) t ((n : Int) + 1)) (n + 2) = prs rs n ++ [(pt rs h, pt rs t)] := by
  have d2 := d.tie h0 t0
  rw [prs_two (rs' := putIn (putIn rs h n) t ((n : Int) + 1)) d (prs_same d d2.nd fun i r hi => ⟨_, put_row (put_row hi), fun z hz => putRow_mem.mpr (.inl (putRow_mem.mpr (.inl hz)))⟩)]
  obtain ⟨r, hr, hz⟩ := row_of d h0
  obtain ⟨q, hq, hy⟩ := row_of d t0
  have e1 : pt (putIn (putIn rs h n) t ((n : Int) + 1)) n = pt rs h := pt_uniq d2.nd (put_row (put_row hr)) (putRow_mem.mpr (.inl (putRow_mem.mpr (.inr ⟨hz, rfl⟩))))
  have e2 : pt (putIn (putIn rs h n) t ((n : Int) + 1)) ((n : Int) + 1) = pt rs t := pt_uniq d2.nd (put_row (put_row hq)) (putRow_mem.mpr (.inr ⟨putRow_mem.mpr (.inl hy), rfl⟩))
  rw [e1, e2]
theorem putIn2_length (rs : Rs) (a b c e : Int) : (putIn (putIn rs a b) c e).length = rs.length := by rw [putIn_length, putIn_length]
theorem Cts.tie {rs : Rs} {n F C : Nat} {h t : Int} (d : Dr rs n) (h0 : 0 ≤ h ∧ h < n) (t0 : 0 ≤ t ∧ t < n) (c : Cts rs n F C) :
    ∃ F' C', Cts (putIn (putIn rs h n) t ((n : Int) + 1)) (n + 2) F' C' ∧
      ((SameFace rs h t ∧ F' = F + 1 ∧ C' = C) ∨ (¬ SameFace rs h t ∧ lab rs n (pt rs h) = lab rs n (pt rs t) ∧ F' + 1 = F ∧ C' = C) ∨ (¬ SameFace rs h t ∧ lab rs n (pt rs h) ≠ lab rs n (pt rs t) ∧ F' + 1 = F ∧ C' + 1 = C)) := by
  obtain ⟨L, cL, hL⟩ := c.fcs
  obtain ⟨M, cM, hM⟩ := d.tie_faces h0 t0 cL
  have hp := d.tie_pts h0 t0
  have hl := putIn2_length rs h n t ((n : Int) + 1)
  have hh := heads_length rs.length (prs rs n)
  have b1 := pt_lt ((d.mem _).mpr h0)
  have b2 := pt_lt ((d.mem _).mpr t0)
  by_cases hs : lab rs n (pt rs h) = lab rs n (pt rs t)
  · have pc : DC (heads (putIn (putIn rs h n) t ((n : Int) + 1)).length (prs (putIn (putIn rs h n) t ((n : Int) + 1)) (n + 2))) C := by
      rw [hp, hl, heads_snoc, relab_id (p := (pt rs h, pt rs t)) (hs := heads rs.length (prs rs n)) hs]
      exact c.pcs
    rcases hM with ⟨s, hm⟩ | ⟨s, hm⟩
    · exact ⟨M.length, C, ⟨⟨M, cM, rfl⟩, pc⟩, .inl ⟨s, by omega, rfl⟩⟩
    · exact ⟨M.length, C, ⟨⟨M, cM, rfl⟩, pc⟩, .inr (.inl ⟨s, hs, by omega, rfl⟩)⟩
  · obtain ⟨j, ej, pj⟩ := c.pcs.relab (p := (pt rs h, pt rs t)) (by omega) (by omega) hs
    have pc : DC (heads (putIn (putIn rs h n) t ((n : Int) + 1)).length (prs (putIn (putIn rs h n) t ((n : Int) + 1)) (n + 2))) j := by
      rw [hp, hl, heads_snoc]
      exact pj
    rcases hM with ⟨s, hm⟩ | ⟨s, hm⟩
    · exact absurd (s.lab d h0 t0) hs
    · exact ⟨M.length, j, ⟨⟨M, cM, rfl⟩, pc⟩, .inr (.inr ⟨s, hs, by omega, by omega⟩)⟩
end Ink
namespace Ink
def cls (lb : Nat → Int) (m : Nat) (i : Nat) : List Int := (nums m).filter fun j => decide (lb j.toNat = lb i)
theorem cls_mem {lb : Nat → Int} {m i : Nat} {z : Int} : z ∈ cls lb m i ↔ (0 ≤ z ∧ z < (m : Int)) ∧ lb z.toNat = lb i := by
  unfold cls nums
  rw [List.mem_filter, List.mem_map, decide_eq_true_eq]
  constructor
  · rintro ⟨⟨k, hk, rfl⟩, h⟩
    have := List.mem_range.mp hk
    exact ⟨by omega, h⟩
  · rintro ⟨h1, h2⟩
    exact ⟨⟨z.toNat, List.mem_range.mpr (by omega), by omega⟩, h2⟩
theorem nums_sorted (m : Nat) : (nums m).Pairwise (· < ·) := by
  unfold nums
  rw [List.pairwise_map]
  exact List.Pairwise.imp (fun h => by omega) (List.pairwise_lt_range (n := m))
theorem cls_sorted (lb : Nat → Int) (m i : Nat) : (cls lb m i).Pairwise (· < ·) := (nums_sorted m).filter _
inductive Grp (lb : Nat → Int) (m : Nat) : Nat → Rs → Prop
  | zero : Grp lb m 0 []
  | skip {i : Nat} {gs : Rs} : Grp lb m i gs → (i : Int) ∈ gs.flatten → Grp lb m (i + 1) gs
  | add {i : Nat} {gs : Rs} : Grp lb m i gs → (i : Int) ∉ gs.flatten → Grp lb m (i + 1) (gs ++ [cls lb m i])
theorem Grp.lower {lb : Nat → Int} {m : Nat} {i : Nat} {gs : Rs} (h : Grp lb m i gs) : ∀ y : Int, y ∈ gs.flatten → ∃ k, k < i ∧ lb k = lb y.toNat := by
  induction h with
  | zero => intro y hy; cases hy
  | skip _ _ ih => intro y hy; obtain ⟨k, h1, h2⟩ := ih y hy; exact ⟨k, by omega, h2⟩
  | add _ _ ih =>
    rename_i i0 gs0 _ _
    intro y hy
    rw [List.flatten_append] at hy
    rcases List.mem_append.mp hy with q | q
    · obtain ⟨k, h1, h2⟩ := ih y q; exact ⟨k, by omega, h2⟩
    · have q' : y ∈ cls lb m i0 := by simpa using q
      exact ⟨i0, by omega, (cls_mem.mp q').2.symm⟩
theorem Grp.mem {lb : Nat → Int} {m i : Nat} {gs : Rs} (h : Grp lb m i gs) (hi : i ≤ m) (z : Int) : z ∈ gs.flatten ↔ (0 ≤ z ∧ z < (m : Int)) ∧ ∃ j, j < i ∧ lb j = lb z.toNat := by
  induction h with
  | zero =>
    constructor
    · intro h; cases h
    · rintro ⟨_, j, hj, _⟩; omega
  | skip hg hm ih =>
    rename_i i gs
    rw [ih (by omega)]
    constructor
    · rintro ⟨h1, j, h2, h3⟩
      exact ⟨h1, j, by omega, h3⟩
    · rintro ⟨h1, j, h2, h3⟩
      refine ⟨h1, ?_⟩
      by_cases hj : j < i
      · exact ⟨j, hj, h3⟩
      · have hji : j = i := by omega
        subst hji
        obtain ⟨k, k1, k2⟩ := hg.lower _ hm
        exact ⟨k, k1, by rw [k2, ← h3]; simp⟩
  | add _ hn ih =>
    rename_i i gs _
    rw [List.flatten_append, List.mem_append, ih (by omega)]
    have e : ([cls lb m i] : Rs).flatten = cls lb m i := by simp
    rw [e, cls_mem]
    constructor
    · rintro (⟨h1, j, h2, h3⟩ | ⟨h1, h2⟩)
      · exact ⟨h1, j, by omega, h3⟩
      · exact ⟨h1, i, by omega, h2.symm⟩
    · rintro ⟨h1, j, h2, h3⟩
      by_cases hj : j < i
      · exact .inl ⟨h1, j, hj, h3⟩
      · have hji : j = i := by omega
        subst hji
        exact .inr ⟨h1, h3.symm⟩
theorem Grp.count {lb : Nat → Int} {m i : Nat} {gs : Rs} (h : Grp lb m i gs) (hi : i ≤ m) : ∃ D : List Int, D.Nodup ∧ (∀ z, z ∈ D ↔ ∃ j, j < i ∧ lb j = z) ∧ D.length = gs.length := by
  induction h with
  | zero => exact ⟨[], List.nodup_nil, fun z => ⟨(fun h => by cases h), fun ⟨j, hj, _⟩ => by omega⟩, rfl⟩
  | skip hg hm ih =>
    rename_i i gs
    obtain ⟨D, d1, d2, d3⟩ := ih (by omega)
    refine ⟨D, d1, fun z => ?_, d3⟩
    rw [d2]
    constructor
    · rintro ⟨j, h1, h2⟩; exact ⟨j, by omega, h2⟩
    · rintro ⟨j, h1, h2⟩
      by_cases hj : j < i
      · exact ⟨j, hj, h2⟩
      · have hji : j = i := by omega
        subst hji
        obtain ⟨_, k, k1, k2⟩ := (hg.mem (by omega) _).mp hm
        exact ⟨k, k1, by rw [k2, ← h2]; simp⟩
  | add hg hn ih =>
    rename_i i gs
    obtain ⟨D, d1, d2, d3⟩ := ih (by omega)
    refine ⟨D ++ [lb i], List.nodup_append.mpr ⟨d1, by simp, fun a ha b hb e => ?_⟩, fun z => ?_, by rw [List.length_append, List.length_append, d3]; rfl⟩
    · have hb' : b = lb i := by simpa using hb
      obtain ⟨j, j1, j2⟩ := (d2 a).mp ha
      exact hn ((hg.mem (by omega) _).mpr ⟨by omega, j, j1, by rw [j2, e, hb']; simp⟩)
    · rw [List.mem_append, d2]
      constructor
      · rintro (⟨j, h1, h2⟩ | h)
        · exact ⟨j, by omega, h2⟩
        · have : z = lb i := by simpa using h
          exact ⟨i, by omega, this.symm⟩
      · rintro ⟨j, h1, h2⟩
        by_cases hj : j < i
        · exact .inl ⟨j, hj, h2⟩
        · have hji : j = i := by omega
          subst hji
          exact .inr (by simp [h2])
theorem Grp.le {lb : Nat → Int} {m i : Nat} {gs : Rs} (h : Grp lb m i gs) : gs.length ≤ i := by
  induction h with
  | zero => exact Nat.le_refl _
  | skip _ _ ih => omega
  | add _ _ ih => rw [List.length_append]; show _ + 1 ≤ _; omega
theorem pairwise_lt_nodup {l : List Int} (h : l.Pairwise (· < ·)) : l.Nodup := List.nodup_iff_pairwise_ne.mpr (h.imp fun q => by omega)
theorem sub_len_le {l : List Int} {m : Nat} (h : l.Pairwise (· < ·)) (hm : ∀ z ∈ l, 0 ≤ z ∧ z < (m : Int)) : l.length ≤ m := nodup_le m l (pairwise_lt_nodup h) hm
theorem Grp.dc {rs : Rs} {n : Nat} {gs : Rs} (d : Dr rs n) (h : Grp (lab rs n) rs.length rs.length gs) : DC (heads rs.length (prs rs n)) gs.length := by
  obtain ⟨D, d1, d2, d3⟩ := h.count (Nat.le_refl _)
  refine ⟨D, d1, fun z => ?_, d3⟩
  rw [d2]
  have hl := heads_length rs.length (prs rs n)
  constructor
  · rintro ⟨j, h1, rfl⟩
    exact getD_mem' (by omega)
  · intro hz
    obtain ⟨j, hj⟩ := List.mem_iff_getElem?.mp hz
    have hjl := (List.getElem?_eq_some_iff.mp hj).1
    refine ⟨j, by omega, ?_⟩
    unfold Ink.lab
    rw [List.getD_eq_getElem?_getD, hj]
    rfl
end Ink
namespace Ink
def skp (e : Int) (g : Int → Int) (x : Int) : Int := if g x = e then g e else g x
theorem Cyc.maps {f : Int → Int} {r : List Int} (c : Cyc f r) {x : Int} (hx : x ∈ r) : f x ∈ r := by
  obtain ⟨i, hi⟩ := List.mem_iff_getElem?.mp hx
  exact List.mem_of_getElem? (c.go i x hi)
theorem Cyc.skp_out {g : Int → Int} {r : List Int} {e : Int} (c : Cyc g r) (he : e ∉ r) : Cyc (skp e g) r :=
  c.congr fun x hx => by unfold skp; rw [if_neg (show ¬ g x = e from fun z => he (z ▸ c.maps hx))]
theorem Cyc.skp_first {g : Int → Int} {w : List Int} {e : Int} (c : Cyc g (e :: w)) (hw : w ≠ []) : Cyc (skp e g) w := by
  obtain ⟨he, nd⟩ := List.nodup_cons.mp c.nd
  have p := c.pth
  obtain ⟨p1, p2⟩ := p
  obtain ⟨w0, l, rfl⟩ : ∃ w0 l, w = w0 ++ [l] := ⟨w.dropLast, w.getLast hw, (List.dropLast_concat_getLast hw).symm⟩
  have p2' : Pth g (w0 ++ [l]) e := p2
  obtain ⟨p3, p4, _⟩ := Pth.append.mp p2'
  have p3' : Pth g w0 l := p3
  have p4' : g l = e := p4
  refine Cyc.of hw nd (Pth.append.mpr ⟨?_, ?_, trivial⟩)
  · show Pth (skp e g) w0 l
    refine p3'.congr fun x hx => ?_
    unfold skp
    rw [if_neg]
    intro z
    have hxm : x ∈ w0 ++ [l] := by simp [hx]
    have hne : x ≠ l := by
      obtain ⟨_, _, n3⟩ := List.nodup_append.mp nd
      exact n3 x hx l (by simp)
    -- the end before e is l alone
    obtain ⟨i, hi⟩ := List.mem_iff_getElem?.mp (show x ∈ e :: (w0 ++ [l]) from List.mem_cons_of_mem _ hxm)
    obtain ⟨j, hj⟩ := List.mem_iff_getElem?.mp (show l ∈ e :: (w0 ++ [l]) from by simp)
    have h1 := c.go i x hi
    have h2 := c.go j l hj
    rw [z] at h1
    rw [p4'] at h2
    have hpos := c.pos
    obtain ⟨l1, e1⟩ := List.getElem?_eq_some_iff.mp h1
    obtain ⟨l2, e2⟩ := List.getElem?_eq_some_iff.mp h2
    have hij := (List.getElem_inj c.nd).mp (e1.trans e2.symm)
    have hil := (List.getElem?_eq_some_iff.mp hi).1
    have hjl := (List.getElem?_eq_some_iff.mp hj).1
    have : i = j := by
      by_cases q1 : i + 1 = (e :: (w0 ++ [l])).length
      · by_cases q2 : j + 1 = (e :: (w0 ++ [l])).length
        · omega
        · rw [q1, Nat.mod_self, Nat.mod_eq_of_lt (by omega)] at hij; omega
      · by_cases q2 : j + 1 = (e :: (w0 ++ [l])).length
        · rw [q2, Nat.mod_self, Nat.mod_eq_of_lt (by omega)] at hij; omega
        · rw [Nat.mod_eq_of_lt (by omega), Nat.mod_eq_of_lt (by omega)] at hij; omega
    subst this
    rw [hi] at hj
    exact hne (Option.some.inj hj)
  · show skp e g l = hd (w0 ++ [l])
    unfold skp
    rw [if_pos p4', p1]
    cases w0 <;> rfl
theorem Cyc.skp {g : Int → Int} {r : List Int} {e : Int} (c : Cyc g r) (he : e ∈ r) (hr : r.erase e ≠ []) : Cyc (skp e g) (r.erase e) := by
  obtain ⟨a, b, rfl⟩ := List.append_of_mem he
  have hea : e ∉ a := fun z => (List.nodup_append.mp c.nd).2.2 e z e List.mem_cons_self rfl
  have e1 : (a ++ e :: b).erase e = a ++ b := by rw [List.erase_append_right _ hea, List.erase_cons_head]
  rw [e1] at hr ⊢
  have c1 : Cyc g (e :: (b ++ a)) := by
    have := c.rot (a := a) (b := e :: b)
    simpa using this
  have := c1.skp_first (w := b ++ a) (fun z => hr (by
    have := List.append_eq_nil_iff.mp z
    rw [this.1, this.2]; rfl))
  exact this.rot (a := b) (b := a)
def delIn (rs : Rs) (e : Int) : Rs := rs.map fun r => r.erase e
theorem del_flat {e : Int} : ∀ rs : Rs, rs.flatten.Nodup → (delIn rs e).flatten = rs.flatten.erase e
  | [], _ => rfl
  | r :: rs, nd => by
    rw [List.flatten_cons] at nd
    obtain ⟨n1, n2, n3⟩ := List.nodup_append.mp nd
    show (r.erase e :: delIn rs e).flatten = (r :: rs).flatten.erase e
    rw [List.flatten_cons, List.flatten_cons, del_flat rs n2]
    by_cases h : e ∈ r
    · have h2 : e ∉ rs.flatten := fun z => n3 e h e z rfl
      rw [List.erase_append_left _ h, List.erase_of_not_mem h2]
    · rw [List.erase_append_right _ h, List.erase_of_not_mem h]
theorem Cycs.del {g : Int → Int} {rs : Rs} {n : Nat} (c : Cycs g (n + 1) (ne rs)) : Cycs (Ink.skp n g) n (ne (delIn rs n)) := by
  have nd : rs.flatten.Nodup := by rw [← flat_noempty]; exact c.nd
  have mm : ∀ z : Int, z ∈ rs.flatten ↔ 0 ≤ z ∧ z < ((n + 1 : Nat) : Int) := fun z => by rw [← flat_noempty]; exact c.mem z
  refine ⟨fun r hr => ?_, ?_, fun z => ?_⟩
  · obtain ⟨h1, h2⟩ := List.mem_filter.mp hr
    obtain ⟨q, hq, rfl⟩ := List.mem_map.mp h1
    have hne := of_decide_eq_true h2
    have hq0 : q ≠ [] := fun z => hne (by rw [z]; rfl)
    have cq := c.cyc q (List.mem_filter.mpr ⟨hq, decide_eq_true hq0⟩)
    by_cases hm : (n : Int) ∈ q
    · exact cq.skp hm hne
    · rw [List.erase_of_not_mem hm]
      exact cq.skp_out hm
  · rw [flat_noempty, del_flat _ nd]
    exact nd.erase _
  · rw [flat_noempty, del_flat _ nd, nd.mem_erase_iff, mm]
    omega
def offLast (rs : Rs) (n : Nat) : Rs := delIn (delIn rs ((n : Int) + 1)) n
theorem Dr.off_cycs {rs : Rs} {n : Nat} (d : Dr rs (n + 2)) : Cycs (skp n (skp ((n : Int) + 1) (nextIn rs))) n (ne (offLast rs n)) := by
  have c1 : Cycs (skp (((n + 1 : Nat)) : Int) (nextIn rs)) (n + 1) (ne (delIn rs ((n + 1 : Nat) : Int))) := Cycs.del (n := n + 1) d.cycs
  have e1 : ((n + 1 : Nat) : Int) = (n : Int) + 1 := by omega
  rw [e1] at c1
  exact c1.del
theorem Dr.off {rs : Rs} {n : Nat} (d : Dr rs (n + 2)) : Dr (offLast rs n) n := by
  have c := d.off_cycs
  have dr := c.dr (by have := d.even; omega)
  exact ⟨by rw [← flat_noempty]; exact dr.nd, fun z => by rw [← flat_noempty]; exact dr.mem z, by rw [← flat_noempty]; exact dr.len, dr.even⟩
theorem Dr.off_next {rs : Rs} {n : Nat} (d : Dr rs (n + 2)) {e : Int} (he : 0 ≤ e ∧ e < (n : Int)) : nextIn (offLast rs n) e = skp n (skp ((n : Int) + 1) (nextIn rs)) e := d.off_cycs.nextNe he
theorem Dr.off_stp {rs : Rs} {n : Nat} (d : Dr rs (n + 2)) {z : Int} (hz : 0 ≤ z ∧ z < (n : Int)) : stp (offLast rs n) z = skp n (skp ((n : Int) + 1) (nextIn rs)) (acr z) :=
  d.off_next (acr_lt (n := n) (by have := d.even; omega) hz.1 hz.2)
end Ink
namespace Ink
theorem Dr.pre_stp {rs : Rs} {n : Nat} (d : Dr rs n) {e : Int} (he : 0 ≤ e ∧ e < (n : Int)) : ∃ x : Int, (0 ≤ x ∧ x < (n : Int)) ∧ stp rs x = e := by
  obtain ⟨k, k0, _, hk⟩ := go_round (f := stp rs) (n := n) (fun x h => d.stp_mem h.1 h.2) (fun x y hx hy h => d.stp_inj hx hy h) he
  obtain ⟨j, rfl⟩ : ∃ j, k = j + 1 := ⟨k - 1, by omega⟩
  exact ⟨itr (stp rs) j e, itr_in (fun x h => d.stp_mem h.1 h.2) he j, hk⟩
theorem Dr.off_walk {rs : Rs} {n : Nat} (d : Dr rs (n + 2)) {z : Int} (hz : 0 ≤ z ∧ z < (n : Int)) :
    (stp rs z ≠ n → stp rs z ≠ (n : Int) + 1 → stp (offLast rs n) z = stp rs z) ∧
    (stp rs z = n → stp (offLast rs n) z = if stp rs ((n : Int) + 1) = (n : Int) + 1 then stp rs n else stp rs ((n : Int) + 1)) ∧
    (stp rs z = (n : Int) + 1 → stp rs n ≠ n → stp (offLast rs n) z = stp rs n) ∧
    (stp rs z = (n : Int) + 1 → stp rs n = n → stp (offLast rs n) z = if stp rs ((n : Int) + 1) = (n : Int) + 1 then stp rs n else stp rs ((n : Int) + 1)) := by
  have hev : n % 2 = 0 := by have := d.even; omega
  obtain ⟨an1, an2⟩ := acr_n hev
  have eA : stp rs n = nextIn rs ((n : Int) + 1) := by show nextIn rs (acr n) = _; rw [an1]
  have eB : stp rs ((n : Int) + 1) = nextIn rs n := by show nextIn rs (acr _) = _; rw [an2]
  have e0 : stp rs z = nextIn rs (acr z) := rfl
  rw [d.off_stp hz, eA, eB, e0]
  unfold skp
  refine ⟨fun h1 h2 => ?_, fun h => ?_, fun h h2 => ?_, fun h h2 => ?_⟩
  · rw [if_neg h2, if_neg h1]
  · have hne : ¬ nextIn rs (acr z) = (n : Int) + 1 := by rw [h]; omega
    rw [if_neg hne, if_pos h]
  · rw [if_pos h, if_neg h2]
  · rw [if_pos h, if_pos h2]
theorem Dr.off_faces {rs L : Rs} {n : Nat} (d : Dr rs (n + 2)) (c : Cycs (stp (offLast rs n)) n L) :
    ∃ M, Cycs (stp rs) (n + 2) M ∧
      ((stp rs n = n ∧ stp rs ((n : Int) + 1) = (n : Int) + 1 ∧ M.length = L.length + 2) ∨
       (stp rs n = (n : Int) + 1 ∧ stp rs ((n : Int) + 1) = n ∧ M.length = L.length + 1) ∨
       ((stp rs n = n ∨ stp rs ((n : Int) + 1) = (n : Int) + 1) ∧ ¬ (stp rs n = n ∧ stp rs ((n : Int) + 1) = (n : Int) + 1) ∧ M.length = L.length + 1) ∨
       ((stp rs n = (n : Int) + 1 ∨ stp rs ((n : Int) + 1) = n) ∧ ¬ (stp rs n = (n : Int) + 1 ∧ stp rs ((n : Int) + 1) = n) ∧ M.length = L.length) ∨
       (stp rs n ≠ n ∧ stp rs n ≠ (n : Int) + 1 ∧ stp rs ((n : Int) + 1) ≠ n ∧ stp rs ((n : Int) + 1) ≠ (n : Int) + 1 ∧
        ∃ x y u rest, (0 ≤ x ∧ x < (n : Int)) ∧ (0 ≤ y ∧ y < (n : Int)) ∧ stp rs x = n ∧ stp rs y = (n : Int) + 1 ∧ Cycs (stp (offLast rs n)) n ((u ++ [x]) :: rest) ∧ L.length = rest.length + 1 ∧
          ((y ∈ u ∧ M.length = L.length + 1) ∨ (y ∉ u ∧ M.length + 1 = L.length)))) := by
  have bn : 0 ≤ (n : Int) ∧ (n : Int) < ((n + 2 : Nat) : Int) := by omega
  have bm : 0 ≤ (n : Int) + 1 ∧ (n : Int) + 1 < ((n + 2 : Nat) : Int) := by omega
  have inj : ∀ {a b : Int}, 0 ≤ a ∧ a < ((n + 2 : Nat) : Int) → 0 ≤ b ∧ b < ((n + 2 : Nat) : Int) → stp rs a = stp rs b → a = b := fun ha hb h => d.stp_inj ha hb h
  have big : ∀ {z : Int}, 0 ≤ z ∧ z < (n : Int) → 0 ≤ z ∧ z < ((n + 2 : Nat) : Int) := fun h => by omega
  have old : ∀ {x : Int}, 0 ≤ x ∧ x < ((n + 2 : Nat) : Int) → x ≠ n → x ≠ (n : Int) + 1 → 0 ≤ x ∧ x < (n : Int) := fun h h1 h2 => by omega
  -- a cycle that ends with z, and ends ahead of it
  have one : ∀ {z : Int} (hz : 0 ≤ z ∧ z < (n : Int)) (w : List Int), w ≠ [] → (∀ y ∈ w, y = n ∨ y = (n : Int) + 1) → w.Nodup → stp rs z = hd w → (∀ y : Int, 0 ≤ y ∧ y < n → y ≠ z → stp (offLast rs n) y = stp rs y) →
      Pth (stp rs) w (stp (offLast rs n) z) → ∃ (M0 : Rs), (∀ r ∈ M0, Cyc (stp rs) r) ∧ M0.flatten.Perm (w ++ L.flatten) ∧ M0.length = L.length := by
    intro z hz w hw hwm hwn hzw hno hp
    obtain ⟨u, rest, c1, hl⟩ := c.front hz
    have nd := c1.nd
    rw [List.flatten_cons] at nd
    obtain ⟨nd1, nd2, nd3⟩ := List.nodup_append.mp nd
    obtain ⟨ndu, _, ndx⟩ := List.nodup_append.mp nd1
    have hxu : z ∉ u := fun q => ndx _ q _ (by simp) rfl
    have hxr : z ∉ rest.flatten := fun q => nd3 _ (by simp) _ q rfl
    have hin : ∀ y ∈ u ++ [z], 0 ≤ y ∧ y < (n : Int) := fun y hy => (c1.mem y).mp (by rw [List.flatten_cons]; exact List.mem_append_left _ hy)
    have c0 := c1.cyc _ List.mem_cons_self
    obtain ⟨p1, p2, _⟩ := Pth.append.mp c0.pth
    have p1' : Pth (stp (offLast rs n)) u z := p1
    have p2' : stp (offLast rs n) z = hd (u ++ [z]) := p2
    have pL : L.flatten.Perm ((u ++ [z]) :: rest).flatten := by
      have h1 : L.flatten.Nodup := c.nd
      have h2 := c1.nd
      refine List.perm_iff_count.mpr fun a => ?_
      rw [h1.count, h2.count]
      have : a ∈ L.flatten ↔ a ∈ ((u ++ [z]) :: rest).flatten := by rw [c.mem, c1.mem]
      simp only [this]
    refine ⟨(w ++ (u ++ [z])) :: rest, fun r hr => ?_, ?_, by simp; omega⟩
    · rcases List.mem_cons.mp hr with rfl | hr
      · refine Cyc.of (by simp) (List.nodup_append.mpr ⟨hwn, nd1, fun a ha b hb q => ?_⟩) ?_
        · have h1 := hwm a ha
          have h2 := hin b hb
          omega
        · have hhd : hd (w ++ (u ++ [z])) = hd w := by cases w with
            | nil => exact absurd rfl hw
            | cons a b => rfl
          rw [hhd]
          refine Pth.append.mpr ⟨?_, Pth.append.mpr ⟨?_, ?_, trivial⟩⟩
          · rw [headD_snoc, ← hd_snoc u z 0, ← p2']
            exact hp
          · show Pth (stp rs) u z
            exact p1'.congr fun y hy => hno y (hin y (by simp [hy])) fun q => hxu (q ▸ hy)
          · exact hzw
      · refine (c1.cyc r (List.mem_cons_of_mem _ hr)).congr fun y hy => ?_
        have hy' : y ∈ rest.flatten := List.mem_flatten.mpr ⟨r, hr, hy⟩
        exact hno y ((c1.mem y).mp (by rw [List.flatten_cons]; exact List.mem_append_right _ hy')) fun q => hxr (q ▸ hy')
    · rw [List.flatten_cons, List.append_assoc, ← List.flatten_cons]
      exact pL.symm.append_left w
  by_cases hA : stp rs n = n
  · by_cases hB : stp rs ((n : Int) + 1) = (n : Int) + 1
    · -- both faces of their own
      refine ⟨[(n : Int)] :: [(n : Int) + 1] :: L, c.two (fun r hr => ?_) (.refl _), .inl ⟨hA, hB, rfl⟩⟩
      rcases List.mem_cons.mp hr with rfl | hr
      · exact Cyc.of (by simp) (by simp) ⟨hA, trivial⟩
      · rcases List.mem_cons.mp hr with rfl | hr
        · exact Cyc.of (by simp) (by simp) ⟨hB, trivial⟩
        · refine (c.cyc r hr).congr fun z hz => ?_
          have hz' := (c.mem z).mp (List.mem_flatten.mpr ⟨r, hr, hz⟩)
          refine (d.off_walk hz').1 (fun q => ?_) (fun q => ?_)
          · have := inj (big hz') bn (q.trans hA.symm); omega
          · have := inj (big hz') bm (q.trans hB.symm); omega
    · -- face [n]; y leads to n + 1
      obtain ⟨y, hy, hyn⟩ := d.pre_stp bm
      have hyo : 0 ≤ y ∧ y < (n : Int) := old hy (fun q => by rw [q, hA] at hyn; omega) (fun q => by rw [q] at hyn; exact hB hyn)
      have hval : stp (offLast rs n) y = stp rs ((n : Int) + 1) := by rw [(d.off_walk hyo).2.2.2 hyn hA, if_neg hB]
      obtain ⟨M0, m1, m2, m3⟩ := one hyo [(n : Int) + 1] (by simp) (fun q hq => .inr (by simpa using hq)) (by simp) hyn (fun z hz hne => (d.off_walk hz).1 (fun q => by have := inj (big hz) bn (q.trans hA.symm); omega) (fun q => hne (inj (big hz) hy (q.trans hyn.symm)))) ⟨hval.symm, trivial⟩
      refine ⟨[(n : Int)] :: M0, c.two (fun r hr => ?_) ?_, .inr (.inr (.inl ⟨.inl hA, fun q => hB q.2, by simp [m3]⟩))⟩
      · rcases List.mem_cons.mp hr with rfl | hr
        · exact Cyc.of (by simp) (by simp) ⟨hA, trivial⟩
        · exact m1 r hr
      · rw [List.flatten_cons]
        exact m2.cons _
  · by_cases hB : stp rs ((n : Int) + 1) = (n : Int) + 1
    · obtain ⟨x, hx, hxn⟩ := d.pre_stp bn
      have hxo : 0 ≤ x ∧ x < (n : Int) := old hx (fun q => by rw [q] at hxn; exact hA hxn) (fun q => by rw [q, hB] at hxn; omega)
      have hval : stp (offLast rs n) x = stp rs n := by rw [(d.off_walk hxo).2.1 hxn, if_pos hB]
      obtain ⟨M0, m1, m2, m3⟩ := one hxo [(n : Int)] (by simp) (fun q hq => .inl (by simpa using hq)) (by simp) hxn (fun z hz hne => (d.off_walk hz).1 (fun q => hne (inj (big hz) hx (q.trans hxn.symm))) (fun q => by have := inj (big hz) bm (q.trans hB.symm); omega)) ⟨hval.symm, trivial⟩
      refine ⟨[(n : Int) + 1] :: M0, c.two (fun r hr => ?_) ?_, .inr (.inr (.inl ⟨.inr hB, fun q => hA q.1, by simp [m3]⟩))⟩
      · rcases List.mem_cons.mp hr with rfl | hr
        · exact Cyc.of (by simp) (by simp) ⟨hB, trivial⟩
        · exact m1 r hr
      · rw [List.flatten_cons]
        refine List.Perm.trans (m2.cons _) ?_
        exact List.Perm.swap _ _ _
    · by_cases hA1 : stp rs n = (n : Int) + 1
      · by_cases hB1 : stp rs ((n : Int) + 1) = n
        · refine ⟨[(n : Int), (n : Int) + 1] :: L, c.two (fun r hr => ?_) (.refl _), .inr (.inl ⟨hA1, hB1, rfl⟩)⟩
          rcases List.mem_cons.mp hr with rfl | hr
          · exact Cyc.of (by simp) (by simp; omega) ⟨hA1, hB1, trivial⟩
          · refine (c.cyc r hr).congr fun z hz => ?_
            have hz' := (c.mem z).mp (List.mem_flatten.mpr ⟨r, hr, hz⟩)
            refine (d.off_walk hz').1 (fun q => ?_) (fun q => ?_)
            · have := inj (big hz') bm (q.trans hB1.symm); omega
            · have := inj (big hz') bn (q.trans hA1.symm); omega
        · obtain ⟨x, hx, hxn⟩ := d.pre_stp bn
          have hxo : 0 ≤ x ∧ x < (n : Int) := old hx (fun q => by rw [q] at hxn; exact hA hxn) (fun q => by rw [q] at hxn; exact hB1 hxn)
          have hval : stp (offLast rs n) x = stp rs ((n : Int) + 1) := by rw [(d.off_walk hxo).2.1 hxn, if_neg hB]
          obtain ⟨M0, m1, m2, m3⟩ := one hxo [(n : Int), (n : Int) + 1] (by simp) (fun q hq => by simpa using hq) (by simp; omega) hxn (fun z hz hne => (d.off_walk hz).1 (fun q => hne (inj (big hz) hx (q.trans hxn.symm))) (fun q => by have := inj (big hz) bn (q.trans hA1.symm); omega)) ⟨hA1, hval.symm, trivial⟩
          exact ⟨M0, c.two m1 m2, .inr (.inr (.inr (.inl ⟨.inl hA1, fun q => hB1 q.2, m3⟩)))⟩
      · by_cases hB1 : stp rs ((n : Int) + 1) = n
        · obtain ⟨y, hy, hyn⟩ := d.pre_stp bm
          have hyo : 0 ≤ y ∧ y < (n : Int) := old hy (fun q => by rw [q] at hyn; exact hA1 hyn) (fun q => by rw [q] at hyn; exact hB hyn)
          have hval : stp (offLast rs n) y = stp rs n := (d.off_walk hyo).2.2.1 hyn hA
          obtain ⟨M0, m1, m2, m3⟩ := one hyo [(n : Int) + 1, (n : Int)] (by simp) (fun q hq => (show q = (n : Int) + 1 ∨ q = n by simpa using hq).symm) (by simp; omega) hyn (fun z hz hne => (d.off_walk hz).1 (fun q => by have := inj (big hz) bm (q.trans hB1.symm); omega) (fun q => hne (inj (big hz) hy (q.trans hyn.symm)))) ⟨hB1, hval.symm, trivial⟩
          refine ⟨M0, c.two m1 (m2.trans (List.Perm.swap _ _ _)), .inr (.inr (.inr (.inl ⟨.inr hB1, fun q => hA1 q.1, m3⟩)))⟩
        · obtain ⟨x, hx, hxn⟩ := d.pre_stp bn
          obtain ⟨y, hy, hyn⟩ := d.pre_stp bm
          have hxo : 0 ≤ x ∧ x < (n : Int) := old hx (fun q => by rw [q] at hxn; exact hA hxn) (fun q => by rw [q] at hxn; exact hB1 hxn)
          have hyo : 0 ≤ y ∧ y < (n : Int) := old hy (fun q => by rw [q] at hyn; exact hA1 hyn) (fun q => by rw [q] at hyn; exact hB hyn)
          have vx : stp (offLast rs n) x = stp rs ((n : Int) + 1) := by rw [(d.off_walk hxo).2.1 hxn, if_neg hB]
          have vy : stp (offLast rs n) y = stp rs n := (d.off_walk hyo).2.2.1 hyn hA
          have T : Tied (stp (offLast rs n)) (stp rs) n x y := ⟨hxn, hyn, vy.symm, vx.symm, fun z hz h1 h2 => ((d.off_walk hz).1 (fun q => h1 (inj (big hz) hx (q.trans hxn.symm))) (fun q => h2 (inj (big hz) hy (q.trans hyn.symm)))).symm⟩
          have hxy : x ≠ y := fun q => by rw [q, hyn] at hxn; omega
          obtain ⟨u, rest, c1, hl⟩ := c.front hxo
          obtain ⟨M, cM, hM⟩ := T.count hxy hxo hyo c1
          refine ⟨M, cM, .inr (.inr (.inr (.inr ⟨hA, hA1, hB1, hB, x, y, u, rest, hxo, hyo, hxn, hyn, c1, hl, ?_⟩)))⟩
          rcases hM with ⟨q1, q2⟩ | ⟨q1, q2⟩
          · exact .inl ⟨q1, by omega⟩
          · exact .inr ⟨q1, by omega⟩
end Ink
namespace Ink
theorem behind_one {r : List Int} {e : Int} (nd : r.Nodup) (he : e ∈ r) : behind r e = e ↔ r.erase e = [] := by
  obtain ⟨a, b, rfl⟩ := List.append_of_mem he
  have hea : e ∉ a := fun z => (List.nodup_append.mp nd).2.2 e z e List.mem_cons_self rfl
  rw [List.erase_append_right _ hea, List.erase_cons_head]
  obtain ⟨j, hj⟩ := List.mem_iff_getElem?.mp he
  have hjl := (List.getElem?_eq_some_iff.mp hj).1
  have hn : nextIn [a ++ e :: b] e = (a ++ e :: b).getD ((j + 1) % (a ++ e :: b).length) e := nextIn_at (rs := [a ++ e :: b]) (i := 0) (by simpa using nd) rfl hj
  have hn' : nextIn [a ++ e :: b] e = behind (a ++ e :: b) e := if_pos he
  rw [← hn', hn]
  have hk : (j + 1) % (a ++ e :: b).length < (a ++ e :: b).length := Nat.mod_lt _ (by omega)
  have hg := getElem?_getD (r := a ++ e :: b) (k := (j + 1) % (a ++ e :: b).length) (d := e) hk
  constructor
  · intro h
    rw [h] at hg
    obtain ⟨l1, e1⟩ := List.getElem?_eq_some_iff.mp hg
    obtain ⟨l2, e2⟩ := List.getElem?_eq_some_iff.mp hj
    have hij := (List.getElem_inj nd).mp (e1.trans e2.symm)
    have hlen : (a ++ e :: b).length = 1 := by
      by_cases q : j + 1 = (a ++ e :: b).length
      · rw [q, Nat.mod_self] at hij; omega
      · rw [Nat.mod_eq_of_lt (by omega)] at hij; omega
    rw [List.length_append, List.length_cons] at hlen
    have h1 : a = [] := List.eq_nil_of_length_eq_zero (by omega)
    have h2 : b = [] := List.eq_nil_of_length_eq_zero (by omega)
    rw [h1, h2]; rfl
  · intro h
    obtain ⟨rfl, rfl⟩ := List.append_eq_nil_iff.mp h
    have : j = 0 := by simp at hjl; exact hjl
    subst this
    simp
theorem aln_cons (r : List Int) (rs : Rs) : aln (r :: rs) = (if r = [] then 1 else 0) + aln rs := by
  unfold aln
  rw [List.filter_cons]
  by_cases h : r = []
  · rw [if_pos h, if_pos (decide_eq_true h), List.length_cons]; omega
  · rw [if_neg h, if_neg fun z => h (of_decide_eq_true z)]; omega
theorem delIn_no {e : Int} : ∀ {rs : Rs}, e ∉ rs.flatten → delIn rs e = rs
  | [], _ => rfl
  | r :: rs, h => by
    rw [List.flatten_cons] at h
    show r.erase e :: delIn rs e = r :: rs
    rw [List.erase_of_not_mem fun q => h (List.mem_append_left _ q), delIn_no fun q => h (List.mem_append_right _ q)]
theorem aln_del {e : Int} : ∀ {rs : Rs}, rs.flatten.Nodup → e ∈ rs.flatten → aln (delIn rs e) = aln rs + if nextIn rs e = e then 1 else 0
  | [], _, h => by cases h
  | r :: rs, nd, h => by
    rw [List.flatten_cons] at nd h
    obtain ⟨n1, n2, n3⟩ := List.nodup_append.mp nd
    show aln (r.erase e :: delIn rs e) = aln (r :: rs) + if (if e ∈ r then behind r e else nextIn rs e) = e then 1 else 0
    rw [aln_cons, aln_cons]
    by_cases hr : e ∈ r
    · have h2 : e ∉ rs.flatten := fun z => n3 e hr e z rfl
      have hne : r ≠ [] := fun z => by rw [z] at hr; cases hr
      rw [delIn_no h2, if_pos hr, if_neg hne]
      by_cases hb : behind r e = e
      · rw [if_pos hb, if_pos ((behind_one n1 hr).mp hb)]; omega
      · rw [if_neg hb, if_neg fun z => hb ((behind_one n1 hr).mpr z)]; omega
    · rw [List.erase_of_not_mem hr, if_neg hr, aln_del n2 ((List.mem_append.mp h).resolve_left hr)]
      omega
theorem Dr.off_aln {rs : Rs} {n : Nat} (d : Dr rs (n + 2)) : aln (offLast rs n) = aln rs + (if stp rs n = (n : Int) + 1 then 1 else 0) + if (if stp rs ((n : Int) + 1) = (n : Int) + 1 then stp rs n else stp rs ((n : Int) + 1)) = n then 1 else 0 := by
  obtain ⟨an1, an2⟩ := acr_n (n := n) (by have := d.even; omega)
  have eA : stp rs n = nextIn rs ((n : Int) + 1) := by show nextIn rs (acr n) = _; rw [an1]
  have eB : stp rs ((n : Int) + 1) = nextIn rs n := by show nextIn rs (acr _) = _; rw [an2]
  have c1 : Cycs (skp (((n + 1 : Nat)) : Int) (nextIn rs)) (n + 1) (ne (delIn rs ((n + 1 : Nat) : Int))) := Cycs.del (n := n + 1) d.cycs
  have e1 : ((n + 1 : Nat) : Int) = (n : Int) + 1 := by omega
  rw [e1] at c1
  have nd1 : (delIn rs ((n : Int) + 1)).flatten.Nodup := by rw [← flat_noempty]; exact c1.nd
  have m1 : (n : Int) ∈ (delIn rs ((n : Int) + 1)).flatten := by rw [← flat_noempty]; exact (c1.mem _).mpr (by omega)
  have v1 : nextIn (delIn rs ((n : Int) + 1)) n = skp ((n : Int) + 1) (nextIn rs) n := c1.nextNe (by omega)
  unfold offLast
  rw [aln_del nd1 m1, v1, aln_del d.nd ((d.mem _).mpr (by omega)), eA, eB]
  rfl
theorem off_row {rs : Rs} {n i : Nat} {r : List Int} (h : rs[i]? = some r) : (offLast rs n)[i]? = some ((r.erase ((n : Int) + 1)).erase n) := by
  unfold offLast delIn
  rw [List.getElem?_map, List.getElem?_map, h]
  rfl
theorem off_length (rs : Rs) (n : Nat) : (offLast rs n).length = rs.length := by unfold offLast delIn; rw [List.length_map, List.length_map]
theorem Dr.off_pt {rs : Rs} {n : Nat} (d : Dr rs (n + 2)) : ∀ e : Int, 0 ≤ e ∧ e < (n : Int) → pt rs e = pt (offLast rs n) e :=
  prs_same d.off d.nd fun i r hi => by
    have hil : i < rs.length := by rw [← off_length rs n]; exact (List.getElem?_eq_some_iff.mp hi).1
    refine ⟨rs[i], List.getElem?_eq_getElem hil, fun z hz => ?_⟩
    have e1 := off_row (n := n) (List.getElem?_eq_getElem hil)
    rw [hi] at e1
    have e2 : r = ((rs[i]).erase ((n : Int) + 1)).erase n := Option.some.inj e1
    rw [e2] at hz
    exact List.mem_of_mem_erase (List.mem_of_mem_erase hz)
theorem Dr.off_prs {rs : Rs} {n : Nat} (d : Dr rs (n + 2)) : prs rs (n + 2) = prs (offLast rs n) n ++ [(pt rs n, pt rs ((n : Int) + 1))] := prs_two d.off d.off_pt
theorem lab_cyc {rs : Rs} {n : Nat} (d : Dr rs n) {r : List Int} (c : Cyc (stp rs) r) (hb : ∀ z ∈ r, 0 ≤ z ∧ z < (n : Int)) {x y : Int} (hx : x ∈ r) (hy : y ∈ r) : lab rs n (pt rs x) = lab rs n (pt rs y) := by
  obtain ⟨i, hi⟩ := List.mem_iff_getElem?.mp hx
  obtain ⟨j, hj⟩ := List.mem_iff_getElem?.mp hy
  have hil := (List.getElem?_eq_some_iff.mp hi).1
  have hjl := (List.getElem?_eq_some_iff.mp hj).1
  have key : ∀ k, lab rs n (pt rs (itr (stp rs) k x)) = lab rs n (pt rs x) := by
    intro k
    induction k with
    | zero => rfl
    | succ k ih =>
      have hm := hb _ (List.mem_of_getElem? (c.itr hi k))
      show lab rs n (pt rs (stp rs (itr (stp rs) k x))) = _
      rw [lab_stp d hm, ih]
  have h1 := c.itr hi (j + r.length - i)
  rw [show i + (j + r.length - i) = j + r.length by omega, Nat.add_mod_right, Nat.mod_eq_of_lt hjl, hj] at h1
  rw [Option.some.inj h1, key]
theorem lab_alone {rs : Rs} {n i j : Nat} (d : Dr rs n) (hi : rs[i]? = some []) (hj : j < rs.length) (h : lab rs n j = lab rs n i) : j = i := by
  have hil := (List.getElem?_eq_some_iff.mp hi).1
  have no : ∀ e : Int, 0 ≤ e ∧ e < (n : Int) → pt rs e ≠ i := fun e he q => by
    obtain ⟨r, hr, hz⟩ := row_of d he
    rw [q, hi] at hr
    cases hr
    cases hz
  have := (heads_closed (prs_below d) (fun k => k = i) (fun p hp => ?_) j i hj hil h).mpr rfl
  · exact this
  · obtain ⟨k, hk, rfl⟩ := List.mem_map.mp hp
    have hk' := List.mem_range.mp hk
    have hev := d.even
    exact ⟨fun q => absurd q (no _ (by omega)), fun q => absurd q (no _ (by omega))⟩
theorem Cts.off {rs : Rs} {n F C : Nat} (d : Dr rs (n + 2)) (c : Cts (offLast rs n) n F C) : ∃ F' C', Cts rs (n + 2) F' C' ∧
    ((C' = C ∧ F' + aln rs = F + aln (offLast rs n) + 1) ∨ (C' = C ∧ F' + aln rs + 1 = F + aln (offLast rs n)) ∨ (C' + 1 = C ∧ F' + aln rs + 1 = F + aln (offLast rs n))) := by
  obtain ⟨L, cL, hL⟩ := c.fcs
  obtain ⟨M, cM, hM⟩ := d.off_faces cL
  have hal := d.off_aln
  have D := d.off
  obtain ⟨an1, an2⟩ := acr_n (n := n) D.even
  have eA : stp rs n = nextIn rs ((n : Int) + 1) := by show nextIn rs (acr n) = _; rw [an1]
  have eB : stp rs ((n : Int) + 1) = nextIn rs n := by show nextIn rs (acr _) = _; rw [an2]
  have mn : (n : Int) ∈ rs.flatten := (d.mem _).mpr (by omega)
  have mm : (n : Int) + 1 ∈ rs.flatten := (d.mem _).mpr (by omega)
  have hp := d.off_prs
  have hl := off_length rs n
  have hh := heads_length (offLast rs n).length (prs (offLast rs n) n)
  have bP : pt rs n < rs.length := pt_lt mn
  have bQ : pt rs ((n : Int) + 1) < rs.length := pt_lt mm
  have same : lab (offLast rs n) n (pt rs n) = lab (offLast rs n) n (pt rs ((n : Int) + 1)) → DC (heads rs.length (prs rs (n + 2))) C := fun h => by
    rw [hp, heads_snoc, ← hl, relab_id (p := (pt rs n, pt rs ((n : Int) + 1))) (hs := heads (offLast rs n).length (prs (offLast rs n) n)) h]
    exact c.pcs
  have diff : lab (offLast rs n) n (pt rs n) ≠ lab (offLast rs n) n (pt rs ((n : Int) + 1)) → ∃ j, C = j + 1 ∧ DC (heads rs.length (prs rs (n + 2))) j := fun h => by
    obtain ⟨j, e, pj⟩ := c.pcs.relab (p := (pt rs n, pt rs ((n : Int) + 1))) (by omega) (by omega) h
    refine ⟨j, e, ?_⟩
    rw [hp, heads_snoc, ← hl]
    exact pj
  have injA : stp rs n ≠ stp rs ((n : Int) + 1) := fun q => by
    have := d.stp_inj (a := n) (b := (n : Int) + 1) (by omega) (by omega) q
    omega
  have onept : stp rs n = n ∨ stp rs ((n : Int) + 1) = (n : Int) + 1 → pt rs n = pt rs ((n : Int) + 1) := fun h => by
    rcases h with h | h
    · rw [eA] at h
      have := pt_next d.nd mm
      rw [h] at this
      exact this
    · rw [eB] at h
      have := pt_next d.nd mn
      rw [h] at this
      exact this.symm
  -- a point that is left alone
  have rowOf : ∀ {e : Int}, e ∈ rs.flatten → nextIn rs e = e → ∃ r, rs[pt rs e]? = some r ∧ e ∈ r ∧ r.erase e = [] := fun {e} he h => by
    obtain ⟨r, hr, hz⟩ := pt_spec he
    have ndr : r.Nodup := by
      obtain ⟨a, b, q⟩ := List.append_of_mem (List.mem_of_getElem? hr)
      have nd := d.nd
      rw [q, List.flatten_append, List.flatten_cons] at nd
      exact (List.nodup_append.mp (List.nodup_append.mp nd).2.1).1
    refine ⟨r, hr, hz, (behind_one ndr hz).mp ?_⟩
    obtain ⟨j, hj⟩ := List.mem_iff_getElem?.mp hz
    have e1 := nextIn_at d.nd hr hj
    have e2 : nextIn [r] e = r.getD ((j + 1) % r.length) e := nextIn_at (rs := [r]) (i := 0) (by simpa using ndr) rfl hj
    have e3 : nextIn [r] e = behind r e := if_pos hz
    rw [← e3, e2, ← e1, h]
  have apart : (stp rs n = (n : Int) + 1 ∨ stp rs ((n : Int) + 1) = n) → lab (offLast rs n) n (pt rs n) ≠ lab (offLast rs n) n (pt rs ((n : Int) + 1)) := fun h q => by
    rcases h with h | h
    · rw [eA] at h
      obtain ⟨r, hr, hz, he⟩ := rowOf mm h
      have hR : (offLast rs n)[pt rs ((n : Int) + 1)]? = some [] := by rw [off_row hr, he]; rfl
      have e := lab_alone D hR (by omega) q
      have hmem : (n : Int) ∈ r := by
        obtain ⟨r', hr', hz'⟩ := pt_spec mn
        rw [e, hr] at hr'
        cases hr'
        exact hz'
      have : (n : Int) ∈ r.erase ((n : Int) + 1) := (List.mem_erase_of_ne (by omega)).mpr hmem
      rw [he] at this
      cases this
    · rw [eB] at h
      obtain ⟨r, hr, hz, he⟩ := rowOf mn h
      have hR : (offLast rs n)[pt rs n]? = some [] := by
        rw [off_row hr]
        have h1 : r = [(n : Int)] := by
          cases r with
          | nil => cases hz
          | cons a b =>
            rcases List.mem_cons.mp hz with q' | q'
            · rw [← q', List.erase_cons_head] at he
              rw [← q', he]
            · by_cases q2 : a = (n : Int)
              · rw [q2, List.erase_cons_head] at he
                rw [he] at q'; cases q'
              · rw [List.erase_cons_tail (by simpa using q2)] at he; cases he
        have h2 : [(n : Int)].erase ((n : Int) + 1) = [(n : Int)] := List.erase_of_not_mem (fun z => by
          have : (n : Int) + 1 = n := by simpa using z
          omega)
        rw [h1, h2, List.erase_cons_head]
      have e := lab_alone D hR (by omega) q.symm
      obtain ⟨r', hr', hz'⟩ := pt_spec mm
      rw [e, hr] at hr'
      cases hr'
      have : (n : Int) + 1 ∈ r.erase n := (List.mem_erase_of_ne (by omega)).mpr hz'
      rw [he] at this
      cases this
  rcases hM with ⟨a1, a2, a3⟩ | ⟨a1, a2, a3⟩ | ⟨a1, a2, a3⟩ | ⟨a1, a2, a3⟩ | ⟨a1, a2, a3, a4, x, y, u, rest, hx, hy, hxn, hyn, c1, hl1, hc⟩
  · refine ⟨M.length, C, ⟨⟨M, cM, rfl⟩, same (by rw [onept (.inl a1)])⟩, .inl ⟨rfl, ?_⟩⟩
    rw [hal, if_pos a2, if_pos a1, if_neg (by omega)]
    omega
  · obtain ⟨j, ej, pj⟩ := diff (apart (.inl a1))
    refine ⟨M.length, j, ⟨⟨M, cM, rfl⟩, pj⟩, .inr (.inr ⟨by omega, ?_⟩)⟩
    rw [hal, if_pos a1, if_neg (by omega : ¬ stp rs ((n : Int) + 1) = (n : Int) + 1), if_pos a2]
    omega
  · refine ⟨M.length, C, ⟨⟨M, cM, rfl⟩, same (by rw [onept a1])⟩, .inl ⟨rfl, ?_⟩⟩
    rcases a1 with a1 | a1
    · have h1 : ¬ stp rs ((n : Int) + 1) = (n : Int) + 1 := fun q => a2 ⟨a1, q⟩
      have h2 : ¬ stp rs ((n : Int) + 1) = n := fun q => injA (a1.trans q.symm)
      rw [hal, if_neg h1, if_neg h2, if_neg (by omega)]
      omega
    · have h1 : ¬ stp rs n = n := fun q => a2 ⟨q, a1⟩
      have h2 : ¬ stp rs n = (n : Int) + 1 := fun q => injA (q.trans a1.symm)
      rw [hal, if_pos a1, if_neg h1, if_neg h2]
      omega
  · obtain ⟨j, ej, pj⟩ := diff (apart a1)
    refine ⟨M.length, j, ⟨⟨M, cM, rfl⟩, pj⟩, .inr (.inr ⟨by omega, ?_⟩)⟩
    rcases a1 with a1 | a1
    · have h1 : ¬ stp rs ((n : Int) + 1) = n := fun q => a2 ⟨a1, q⟩
      have h2 : ¬ stp rs ((n : Int) + 1) = (n : Int) + 1 := fun q => injA (a1.trans q.symm)
      rw [hal, if_pos a1, if_neg h2, if_neg h1]
      omega
    · have h1 : ¬ stp rs n = (n : Int) + 1 := fun q => a2 ⟨q, a1⟩
      have h2 : ¬ stp rs ((n : Int) + 1) = (n : Int) + 1 := by omega
      rw [hal, if_neg h1, if_neg h2, if_pos a1]
      omega
  · have hal' : aln (offLast rs n) = aln rs := by
      rw [hal, if_neg a2, if_neg a4, if_neg a3]
      rfl
    have hxa := acr_lt D.even hx.1 hx.2
    have hya := acr_lt D.even hy.1 hy.2
    have lx : lab (offLast rs n) n (pt (offLast rs n) x) = lab (offLast rs n) n (pt rs n) := by
      have h1 : nextIn rs (acr x) = n := hxn
      have h2 := pt_next d.nd ((d.mem (acr x)).mpr (by omega))
      rw [h1, d.off_pt _ hxa] at h2
      rw [h2, lab_acr D hx]
    have ly : lab (offLast rs n) n (pt (offLast rs n) y) = lab (offLast rs n) n (pt rs ((n : Int) + 1)) := by
      have h1 : nextIn rs (acr y) = (n : Int) + 1 := hyn
      have h2 := pt_next d.nd ((d.mem (acr y)).mpr (by omega))
      rw [h1, d.off_pt _ hya] at h2
      rw [h2, lab_acr D hy]
    rcases hc with ⟨q1, q2⟩ | ⟨q1, q2⟩
    · have hlab : lab (offLast rs n) n (pt rs n) = lab (offLast rs n) n (pt rs ((n : Int) + 1)) := by
        rw [← lx, ← ly]
        exact lab_cyc D (c1.cyc _ List.mem_cons_self) (fun z hz => (c1.mem z).mp (by rw [List.flatten_cons]; exact List.mem_append_left _ hz)) (by simp) (by simp [q1])
      exact ⟨M.length, C, ⟨⟨M, cM, rfl⟩, same hlab⟩, .inl ⟨rfl, by omega⟩⟩
    · by_cases hlab : lab (offLast rs n) n (pt rs n) = lab (offLast rs n) n (pt rs ((n : Int) + 1))
      · exact ⟨M.length, C, ⟨⟨M, cM, rfl⟩, same hlab⟩, .inr (.inl ⟨rfl, by omega⟩)⟩
      · obtain ⟨j, ej, pj⟩ := diff hlab
        exact ⟨M.length, j, ⟨⟨M, cM, rfl⟩, pj⟩, .inr (.inr ⟨by omega, by omega⟩)⟩
end Ink
namespace Ink
structure Ren (s : Int → Int) (n : Nat) : Prop where
  inv : ∀ x, s (s x) = x
  acr : ∀ x, s (Ink.acr x) = Ink.acr (s x)
  mem : ∀ x : Int, 0 ≤ x ∧ x < n → 0 ≤ s x ∧ s x < n
end Ink
namespace Ink
end Ink
namespace Ink
def rp (rs : Rs) (k : Nat) : Nat × Nat := (pt rs (2 * (k : Int)), pt rs (2 * (k : Int) + 1))
def jn (rs : Rs) (A : List Nat) : List Int := heads rs.length (A.map (rp rs))
def jl (rs : Rs) (A : List Nat) (x : Int) : Int := (jn rs A).getD (pt rs x) 0
structure Dual (rs L : Rs) (n : Nat) : Prop where
  d : Dr rs n
  e : Dr L n
  nx : ∀ x : Int, 0 ≤ x ∧ x < n → nextIn L x = nextIn rs (acr x)
def rope (x : Int) : Nat := (x / 2).toNat
inductive Tree (rs : Rs) : List Nat → Prop
  | nil : Tree rs []
  | snoc {A : List Nat} {r : Nat} : Tree rs A → jl rs A (2 * (r : Int)) ≠ jl rs A (2 * (r : Int) + 1) → Tree rs (A ++ [r])
end Ink
namespace Ink
def allR (n : Nat) : List Nat := List.range (n / 2)
end Ink
namespace Ink
def butR (R S : List Nat) : List Nat := R.filter fun k => decide (k ∉ S)
structure Trees (rs L : Rs) (n F C : Nat) (A B E : List Nat) : Prop where
  perm : (A ++ (B ++ E)).Perm (allR n)
  ta : Tree rs A
  tb : Tree L B
  la : A.length + C = rs.length
  lb : B.length + C = L.length + aln rs
  subA : A.Sublist (allR n)
  subB : B.Sublist (butR (allR n) A)
end Ink
namespace Ink
end Ink
namespace Ink
structure Ring (rs : Rs) (n : Nat) (q : List Int) : Prop where
  ne : q ≠ []
  mem : ∀ x ∈ q, 0 ≤ x ∧ x < (n : Int)
  leads : ∀ (i : Nat) (x y : Int), q[i]? = some x → q[(i + 1) % q.length]? = some y → pt rs (acr x) = pt rs y
  pts : (q.map (pt rs)).Nodup
  rps : (q.map rope).Nodup
theorem nodup_ix {α : Type} {l : List α} (nd : l.Nodup) {i j : Nat} {x : α} (hi : l[i]? = some x) (hj : l[j]? = some x) : i = j := by
  have h1 := (List.getElem?_eq_some_iff.mp hi).1
  have h2 := (List.getElem?_eq_some_iff.mp hj).1
  exact (List.getElem?_inj h1 nd).mp (hi.trans hj.symm)
section
variable {rs L : Rs} {n : Nat} {q : List Int}
end
end Ink
namespace Ink
structure Simple (rs : Rs) (n : Nat) (S : List Nat) : Prop where
  inS : ∀ x : Int, 0 ≤ x ∧ x < (n : Int) → pt rs x ∈ S
  noLoop : ∀ x : Int, 0 ≤ x ∧ x < (n : Int) → pt rs x ≠ pt rs (acr x)
  once : ∀ x y : Int, 0 ≤ x ∧ x < (n : Int) → 0 ≤ y ∧ y < (n : Int) → pt rs x = pt rs y → pt rs (acr x) = pt rs (acr y) → x = y
end Ink
namespace Ink
def cntN (N : Rs) (A : List Int) (p : Int) : Nat := ((N.getD p.toNat []).filter fun o => decide (o ∈ A)).length
structure Peel (N : Rs) (m : Nat) (order counts left : List Int) : Prop where
  len : counts.length = order.length
  perm : (order ++ left).Perm (nums m)
  at_ : ∀ (k : Nat) (x c : Int), order[k]? = some x → counts[k]? = some c → c = (cntN N (order.drop k ++ left) x : Nat) ∧ ∀ p ∈ order.drop k ++ left, c ≤ (cntN N (order.drop k ++ left) p : Nat)
structure Col (N : Rs) (g : Int) (D : List Int) (col : Int → Int) : Prop where
  rng : ∀ x ∈ D, 0 ≤ col x ∧ col x ≤ g
  ok : ∀ x ∈ D, ∀ y ∈ D, y ∈ N.getD x.toNat [] → col x ≠ col y
end Ink
namespace Ink
inductive Spot where
  | e (x : Int)
  | p (i : Nat)
def putSp (rs : Rs) (s : Spot) (y : Int) : Rs := match s with
  | .e x => putIn rs x y
  | .p i => rs.set i (rs.getD i [] ++ [y])
def isSp (rs : Rs) (n : Nat) : Spot → Prop
  | .e x => 0 ≤ x ∧ x < (n : Int)
  | .p i => rs[i]? = some []
def tieS (rs : Rs) (n : Nat) (s t : Spot) : Rs := putSp (putSp rs s n) t ((n : Int) + 1)
def canP (rs : Rs) : Spot → Prop
  | .e x => x ∈ rs.flatten
  | .p i => i < rs.length
theorem putSp_length (rs : Rs) (s : Spot) (y : Int) : (putSp rs s y).length = rs.length := by
  cases s with
  | e x => exact putIn_length rs x y
  | p i => exact List.length_set
theorem set_flat {y : Int} : ∀ {rs : Rs} {i : Nat}, i < rs.length → (rs.set i (rs.getD i [] ++ [y])).flatten.Perm (y :: rs.flatten)
  | [], _, h => absurd h (Nat.not_lt_zero _)
  | r :: rs, 0, _ => by
    show ((r ++ [y]) ++ rs.flatten).Perm (y :: (r ++ rs.flatten))
    rw [List.append_assoc]
    exact List.perm_middle
  | r :: rs, i + 1, h => by
    show (r ++ (rs.set i (rs.getD i [] ++ [y])).flatten).Perm (y :: (r ++ rs.flatten))
    exact ((set_flat (y := y) (Nat.lt_of_succ_lt_succ h)).append_left r).trans List.perm_middle
theorem putSp_perm {rs : Rs} {s : Spot} {y : Int} (nd : rs.flatten.Nodup) (h : canP rs s) : (putSp rs s y).flatten.Perm (y :: rs.flatten) := by
  cases s with
  | e x => exact putIn_perm nd h
  | p i => exact set_flat h
theorem isSp.can {rs rs' : Rs} {n : Nat} {s : Spot} (d : Dr rs n) (h : isSp rs n s) (hl : rs'.length = rs.length) (hs : ∀ z ∈ rs.flatten, z ∈ rs'.flatten) : canP rs' s := by
  cases s with
  | e x => exact hs x ((d.mem x).mpr h)
  | p i => show i < rs'.length; rw [hl]; exact (List.getElem?_eq_some_iff.mp h).1
theorem Dr.new {rs : Rs} {n : Nat} (d : Dr rs n) {z : Int} (hz : (n : Int) ≤ z) : z ∉ rs.flatten := fun h => by
  have := ((d.mem z).mp h).2
  omega
theorem put1_perm {rs : Rs} {n : Nat} {s : Spot} (d : Dr rs n) (h : isSp rs n s) : (putSp rs s n).flatten.Perm ((n : Int) :: rs.flatten) := putSp_perm d.nd (h.can d rfl fun _ z => z)
theorem put1_nd {rs : Rs} {n : Nat} {s : Spot} (d : Dr rs n) (h : isSp rs n s) : (putSp rs s n).flatten.Nodup := (put1_perm d h).nodup_iff.mpr (List.nodup_cons.mpr ⟨d.new (Int.le_refl _), d.nd⟩)
theorem tieS_perm {rs : Rs} {n : Nat} {s t : Spot} (d : Dr rs n) (hs : isSp rs n s) (ht : isSp rs n t) : (tieS rs n s t).flatten.Perm ([(n : Int) + 1, (n : Int)] ++ rs.flatten) := by
  have p1 := put1_perm d hs
  have p2 : (putSp (putSp rs s n) t ((n : Int) + 1)).flatten.Perm (((n : Int) + 1) :: (putSp rs s n).flatten) := putSp_perm (put1_nd d hs) (ht.can d (putSp_length _ _ _) fun z hz => p1.mem_iff.mpr (List.mem_cons_of_mem _ hz))
  exact p2.trans (p1.cons _)
theorem Dr.tieS {rs : Rs} {n : Nat} {s t : Spot} (d : Dr rs n) (hs : isSp rs n s) (ht : isSp rs n t) : Dr (tieS rs n s t) (n + 2) := d.of_perm (.inr rfl) (tieS_perm d hs ht)
theorem mem_flat {rs : Rs} {r : List Int} {y : Int} (hr : r ∈ rs) (hy : y ∈ r) : y ∈ rs.flatten := List.mem_flatten.mpr ⟨r, hr, hy⟩
theorem erase_ins {y x : Int} {r : List Int} (h : y ∉ r) : (insAt r x y).erase y = r := by
  unfold insAt
  rw [List.erase_append_right _ (fun z => h (List.mem_of_mem_take z)), List.erase_cons_head, List.take_append_drop]
theorem erase_snoc {y : Int} {r : List Int} (h : y ∉ r) : (r ++ [y]).erase y = r := by
  rw [List.erase_append_right _ h, List.erase_cons_head, List.append_nil]
theorem map_erase {y : Int} {rs : Rs} (h : y ∉ rs.flatten) : (rs.map fun r => r.erase y) = rs := by
  conv => rhs; rw [← List.map_id rs]
  exact List.map_congr_left fun r hr => List.erase_of_not_mem fun z => h (mem_flat hr z)
theorem del_putSp {rs : Rs} {s : Spot} {y : Int} (h : y ∉ rs.flatten) : delIn (putSp rs s y) y = rs := by
  cases s with
  | e x =>
    show ((rs.map (putRow x y)).map fun r => r.erase y) = rs
    rw [List.map_map]
    conv => rhs; rw [← List.map_id rs]
    refine List.map_congr_left fun r hr => ?_
    have hy : y ∉ r := fun z => h (mem_flat hr z)
    show (putRow x y r).erase y = r
    unfold putRow
    split
    · exact erase_ins hy
    · exact List.erase_of_not_mem hy
  | p i =>
    show ((rs.set i (rs.getD i [] ++ [y])).map fun r => r.erase y) = rs
    rw [List.map_set, map_erase h]
    by_cases hi : i < rs.length
    · have e : rs.getD i [] = rs[i] := by rw [List.getD_eq_getElem?_getD, List.getElem?_eq_getElem hi]; rfl
      rw [e, erase_snoc fun z => h (mem_flat (List.getElem_mem hi) z)]
      exact List.set_getElem_self hi
    · exact List.set_eq_of_length_le (by omega)
theorem off_tieS {rs : Rs} {n : Nat} {s t : Spot} (d : Dr rs n) (hs : isSp rs n s) : offLast (tieS rs n s t) n = rs := by
  unfold offLast tieS
  rw [del_putSp, del_putSp (d.new (Int.le_refl _))]
  intro z
  rcases List.mem_cons.mp ((put1_perm d hs).mem_iff.mp z) with q | q
  · omega
  · exact d.new (by omega) q
end Ink
namespace Ink
def ptS (rs : Rs) : Spot → Nat
  | .e x => pt rs x
  | .p i => i
def sameSp (rs : Rs) : Spot → Spot → Prop
  | .e h, .e t => SameFace rs h t
  | .p i, .p j => i = j
  | _, _ => False
theorem putSp_row {rs : Rs} {s : Spot} {y : Int} {k : Nat} {r : List Int} (hr : rs[k]? = some r) : ∃ r', (putSp rs s y)[k]? = some r' ∧ (∀ z ∈ r, z ∈ r') ∧ ((∀ x, s = .e x → x ∈ r) → (∀ i, s = .p i → k = i) → y ∈ r') := by
  cases s with
  | e x =>
    refine ⟨_, put_row hr, fun z hz => putRow_mem.mpr (.inl hz), fun h _ => putRow_mem.mpr (.inr ⟨h x rfl, rfl⟩)⟩
  | p i =>
    have hk := (List.getElem?_eq_some_iff.mp hr).1
    by_cases q : i = k
    · subst q
      refine ⟨r ++ [y], ?_, fun z hz => List.mem_append_left _ hz, fun _ _ => by simp⟩
      show (rs.set i (rs.getD i [] ++ [y]))[i]? = _
      rw [List.getElem?_set_self hk, List.getD_eq_getElem?_getD, hr]
      rfl
    · refine ⟨r, ?_, fun z hz => hz, fun _ h => absurd (h i rfl).symm q⟩
      show (rs.set i (rs.getD i [] ++ [y]))[k]? = _
      rw [List.getElem?_set_ne q, hr]
theorem ptS_row {rs : Rs} {n : Nat} {s : Spot} (d : Dr rs n) (h : isSp rs n s) : ∃ r, rs[ptS rs s]? = some r ∧ (∀ x, s = .e x → x ∈ r) ∧ (∀ i, s = .p i → ptS rs s = i) := by
  cases s with
  | e x =>
    obtain ⟨r, hr, hz⟩ := row_of d h
    exact ⟨r, hr, fun x' q => by cases q; exact hz, fun i q => by cases q⟩
  | p i => exact ⟨[], h, fun x q => by (cases q), fun i' q => by cases q; rfl⟩
theorem tieS_pt {rs : Rs} {n : Nat} {s t : Spot} (d : Dr rs n) (hs : isSp rs n s) (ht : isSp rs n t) : pt (tieS rs n s t) n = ptS rs s ∧ pt (tieS rs n s t) ((n : Int) + 1) = ptS rs t := by
  have d2 := d.tieS hs ht
  obtain ⟨r, hr, h1, h2⟩ := ptS_row d hs
  obtain ⟨q, hq, h3, h4⟩ := ptS_row d ht
  obtain ⟨r1, hr1, _, m1⟩ := putSp_row (s := s) (y := n) hr
  obtain ⟨r2, hr2, m2, _⟩ := putSp_row (s := t) (y := (n : Int) + 1) hr1
  obtain ⟨q1, hq1, k1, _⟩ := putSp_row (s := s) (y := n) hq
  obtain ⟨q2, hq2, _, k2⟩ := putSp_row (s := t) (y := (n : Int) + 1) hq1
  exact ⟨pt_uniq d2.nd hr2 (m2 _ (m1 h1 h2)), pt_uniq d2.nd hq2 (k2 (fun x e => k1 _ (h3 x e)) h4)⟩
theorem off_samePt {rs : Rs} {n F C F' C' : Nat} (d : Dr rs (n + 2)) (c : Cts (offLast rs n) n F C) (c' : Cts rs (n + 2) F' C') (h : pt rs n = pt rs ((n : Int) + 1)) : C' = C := by
  have hp := d.off_prs
  have hl := off_length rs n
  refine c'.pcs.uniq ?_
  rw [hp, heads_snoc, ← hl, relab_id (p := (pt rs n, pt rs ((n : Int) + 1))) (hs := heads (offLast rs n).length (prs (offLast rs n) n)) (by show List.getD _ _ _ = List.getD _ _ _; rw [h])]
  exact c.pcs
theorem off_diffPt {rs : Rs} {n F C F' C' : Nat} (d : Dr rs (n + 2)) (c : Cts (offLast rs n) n F C) (c' : Cts rs (n + 2) F' C') (h : lab (offLast rs n) n (pt rs n) ≠ lab (offLast rs n) n (pt rs ((n : Int) + 1))) : C' + 1 = C := by
  have hp := d.off_prs
  have hl := off_length rs n
  have hh := heads_length (offLast rs n).length (prs (offLast rs n) n)
  have bP : pt rs n < rs.length := pt_lt ((d.mem _).mpr (by omega))
  have bQ : pt rs ((n : Int) + 1) < rs.length := pt_lt ((d.mem _).mpr (by omega))
  obtain ⟨j, e, pj⟩ := c.pcs.relab (p := (pt rs n, pt rs ((n : Int) + 1))) (by omega) (by omega) h
  have : C' = j := c'.pcs.uniq (by rw [hp, heads_snoc, ← hl]; exact pj)
  omega
theorem Cts.tieS {rs : Rs} {n F C : Nat} {s t : Spot} (d : Dr rs n) (hs : isSp rs n s) (ht : isSp rs n t) (c : Cts rs n F C) : ∃ F' C', Cts (Ink.tieS rs n s t) (n + 2) F' C' ∧
    ((sameSp rs s t ∧ C' = C ∧ F' + aln (Ink.tieS rs n s t) = F + aln rs + 1) ∨ (¬ sameSp rs s t ∧ F' + aln (Ink.tieS rs n s t) + 1 = F + aln rs ∧ (C' = C ∨ C' + 1 = C))) := by
  have d2 := d.tieS hs ht
  have eo : offLast (Ink.tieS rs n s t) n = rs := off_tieS d hs
  have c0 : Cts (offLast (Ink.tieS rs n s t) n) n F C := by rw [eo]; exact c
  obtain ⟨p1, p2⟩ := tieS_pt d hs ht
  -- two points, one of them alone
  have two : ¬ sameSp rs s t → (∀ j, j < rs.length → lab rs n (ptS rs s) = lab rs n (ptS rs t) → False) → ∃ F' C', Cts (Ink.tieS rs n s t) (n + 2) F' C' ∧
    ((sameSp rs s t ∧ C' = C ∧ F' + aln (Ink.tieS rs n s t) = F + aln rs + 1) ∨ (¬ sameSp rs s t ∧ F' + aln (Ink.tieS rs n s t) + 1 = F + aln rs ∧ (C' = C ∨ C' + 1 = C))) := fun ns hd => by
    obtain ⟨F', C', c', h⟩ := Cts.off d2 c0
    have lt : ptS rs t < rs.length := by
      obtain ⟨q, hq, _⟩ := ptS_row d ht
      exact (List.getElem?_eq_some_iff.mp hq).1
    have := off_diffPt d2 c0 c' (by rw [p1, p2, eo]; exact fun q => hd _ lt q)
    rw [eo] at h
    exact ⟨F', C', c', .inr ⟨ns, by omega, .inr this⟩⟩
  have alone : ∀ {x : Int} {i : Nat}, (0 ≤ x ∧ x < (n : Int)) → rs[i]? = some [] → pt rs x ≠ i := fun hx hi q => by
    obtain ⟨r, hr, hz⟩ := row_of d hx
    rw [q, hi] at hr
    cases hr
    cases hz
  cases s with
  | e x =>
    cases t with
    | e y =>
      obtain ⟨F', C', c', h⟩ := Cts.tie d hs ht c
      have ha : aln (Ink.tieS rs n (.e x) (.e y)) = aln rs := by
        show aln (putIn (putIn rs x n) y ((n : Int) + 1)) = _
        rw [aln_put, aln_put]
      refine ⟨F', C', c', ?_⟩
      rw [ha]
      rcases h with ⟨h1, h2, h3⟩ | ⟨h1, h2, h3, h4⟩ | ⟨h1, h2, h3, h4⟩
      · exact .inl ⟨h1, h3, by omega⟩
      · exact .inr ⟨h1, by omega, .inl h4⟩
      · exact .inr ⟨h1, by omega, .inr h4⟩
    | p i =>
      exact two (fun q => q) fun j _ q => alone hs ht (lab_alone d ht (pt_lt ((d.mem _).mpr hs)) q)
  | p i =>
    cases t with
    | e y =>
      exact two (fun q => q) fun j _ q => alone ht hs (lab_alone d hs (pt_lt ((d.mem _).mpr ht)) q.symm)
    | p j =>
      by_cases q : i = j
      · subst q
        obtain ⟨L, cL, hL⟩ := c0.fcs
        obtain ⟨M, cM, hM⟩ := d2.off_faces cL
        have hal := d2.off_aln
        obtain ⟨an1, an2⟩ := acr_n (n := n) d.even
        have hi := (List.getElem?_eq_some_iff.mp hs).1
        have er : (Ink.tieS rs n (.p i) (.p i))[i]? = some [(n : Int), (n : Int) + 1] := by
          show ((rs.set i (rs.getD i [] ++ [(n : Int)])).set i ((rs.set i (rs.getD i [] ++ [(n : Int)])).getD i [] ++ [(n : Int) + 1]))[i]? = _
          rw [List.getElem?_set_self (by rw [List.length_set]; exact hi), List.getD_eq_getElem?_getD, List.getElem?_set_self hi, List.getD_eq_getElem?_getD, hs]
          rfl
        have e1 : stp (Ink.tieS rs n (.p i) (.p i)) n = n := by
          show nextIn _ (acr n) = _
          rw [an1, nextIn_at d2.nd er (j := 1) rfl]
          simp
        have e2 : stp (Ink.tieS rs n (.p i) (.p i)) ((n : Int) + 1) = (n : Int) + 1 := by
          show nextIn _ (acr _) = _
          rw [an2, nextIn_at d2.nd er (j := 0) rfl]
          simp
        rw [e1, e2, if_neg (by omega), if_pos rfl, if_pos rfl, eo] at hal
        obtain ⟨F', C', c', h⟩ := Cts.off d2 c0
        have eC := off_samePt d2 c0 c' (by rw [p1, p2])
        obtain ⟨M', cM', hM'⟩ := c'.fcs
        have eM := cM.count cM'
        rw [e1, e2] at hM
        refine ⟨F', C', c', .inl ⟨rfl, eC, ?_⟩⟩
        rcases hM with ⟨_, _, a3⟩ | ⟨a1, _, _⟩ | ⟨_, a2, _⟩ | ⟨a1, _, _⟩ | ⟨a1, _⟩
        · omega
        · omega
        · exact absurd ⟨rfl, rfl⟩ a2
        · omega
        · exact absurd rfl a1
      · exact two (fun z => q z) fun k _ z => q (lab_alone d ht (List.getElem?_eq_some_iff.mp hs).1 z)
theorem Cyc.itr_mem {f : Int → Int} {r : List Int} (c : Cyc f r) {x : Int} (hx : x ∈ r) : ∀ k, Ink.itr f k x ∈ r := fun k => by
  obtain ⟨i, hi⟩ := List.mem_iff_getElem?.mp hx
  exact List.mem_of_getElem? (c.itr hi k)
theorem Cyc.sub {f : Int → Int} {a b : List Int} (ca : Cyc f a) (cb : Cyc f b) {z : Int} (ha : z ∈ a) (hb : z ∈ b) : ∀ w ∈ a, w ∈ b := fun w hw => by
  obtain ⟨i, hi⟩ := List.mem_iff_getElem?.mp ha
  obtain ⟨j, hj⟩ := List.mem_iff_getElem?.mp hw
  have hil := (List.getElem?_eq_some_iff.mp hi).1
  have hjl := (List.getElem?_eq_some_iff.mp hj).1
  have h1 := ca.itr hi (j + a.length - i)
  rw [show i + (j + a.length - i) = j + a.length by omega, Nat.add_mod_right, Nat.mod_eq_of_lt hjl, hj] at h1
  rw [Option.some.inj h1]
  exact cb.itr_mem hb _
theorem Cyc.pre {f : Int → Int} {r : List Int} (c : Cyc f r) {x : Int} (hx : x ∈ r) : ∃ y ∈ r, f y = x := by
  obtain ⟨i, hi⟩ := List.mem_iff_getElem?.mp hx
  have hil := (List.getElem?_eq_some_iff.mp hi).1
  have h1 := c.itr hi r.length
  rw [Nat.add_mod_right, Nat.mod_eq_of_lt hil, hi] at h1
  refine ⟨Ink.itr f (r.length - 1) x, c.itr_mem hx _, ?_⟩
  rw [show r.length = (r.length - 1) + 1 by omega] at h1
  exact (Option.some.inj h1).symm
theorem IsFace.fst {f : Int → Int} {x : Int} {row : List Int} (h : IsFace f x row) : x ∈ row := by
  obtain ⟨j, rfl, _, l⟩ := h.ex
  exact List.mem_of_getElem? (orb_first f x j)
theorem SameFace.least {rs : Rs} {n : Nat} {h t x y : Int} {a b : List Int} (d : Dr rs n) (h0 : 0 ≤ h ∧ h < n) (t0 : 0 ≤ t ∧ t < n) (ha : IsFace (stp rs) (nextIn rs h) a) (hb : IsFace (stp rs) (nextIn rs t) b)
    (hx : x ∈ a) (hx' : ∀ z ∈ a, x ≤ z) (hy : y ∈ b) (hy' : ∀ z ∈ b, y ≤ z) : x = y ↔ SameFace rs h t := by
  have fx : ∀ w, stp rs (acr w) = nextIn rs w := fun w => by show nextIn rs (acr (acr w)) = _; rw [acr_acr]
  have ah := acr_lt d.even h0.1 h0.2
  have at' := acr_lt d.even t0.1 t0.2
  have hm : ∀ z : Int, 0 ≤ z ∧ z < n → 0 ≤ stp rs z ∧ stp rs z < n := fun z hz => d.stp_mem hz.1 hz.2
  have hi : ∀ x y : Int, 0 ≤ x ∧ x < n → 0 ≤ y ∧ y < n → stp rs x = stp rs y → x = y := fun x y hx hy q => d.stp_inj hx hy q
  have bh : 0 ≤ nextIn rs h ∧ nextIn rs h < n := by rw [← fx]; exact hm _ ah
  have bt : 0 ≤ nextIn rs t ∧ nextIn rs t < n := by rw [← fx]; exact hm _ at'
  have ca := ha.cyc hm hi bh
  have cb := hb.cyc hm hi bt
  have ina := ha.mem hm bh
  have inb := hb.mem hm bt
  -- a cycle holds what comes ahead of what it holds
  have back : ∀ {c : List Int} {z : Int}, Cyc (stp rs) c → (∀ w ∈ c, 0 ≤ w ∧ w < (n : Int)) → (0 ≤ z ∧ z < (n : Int)) → stp rs z ∈ c → z ∈ c := fun {c z} cc hc hz hs => by
    obtain ⟨y, hy, e⟩ := cc.pre hs
    rw [← hi y z (hc y hy) hz e]
    exact hy
  have fst : nextIn rs t ∈ b := hb.fst
  constructor
  · intro q
    subst q
    exact ⟨a, ha, back ca ina at' (by rw [fx]; exact cb.sub ca hy hx _ fst)⟩
  · rintro ⟨row, h1, h2⟩
    rw [h1.uniq ha] at h2
    have h3 : nextIn rs t ∈ a := by rw [← fx]; exact ca.maps h2
    have h4 := hx' y (cb.sub ca fst h3 y hy)
    have h5 := hy' x (ca.sub cb h3 fst x hx)
    omega
end Ink
namespace Ink
open PySem L2
def top (i : Nat) : Stmt := PySem.Challenge.pw_inkmap_k10_whole_paper.main.body.getD i (.Pass ⟨0, 0, 0, 0⟩)
abbrev sIsDrawing : Stmt := top 5
abbrev sRefuse : Stmt := top 6
abbrev sAllEnds : Stmt := top 7
abbrev sAcrossP : Stmt := top 8
abbrev sNextEnds : Stmt := top 9
abbrev sFaceFrom : Stmt := top 10
abbrev sFaces : Stmt := top 11
abbrev sPointsOf : Stmt := top 13
abbrev sPieceFrom : Stmt := top 14
abbrev sPieces : Stmt := top 15
abbrev sRopes : Stmt := top 16
abbrev sManyFaces : Stmt := top 17
abbrev sBuilt : Stmt := top 18
abbrev sIsSpot : Stmt := top 20
abbrev sPutBehind : Stmt := top 21
abbrev sPutAt : Stmt := top 22
abbrev sAnswerTo : Stmt := top 24
abbrev sAnswers : Stmt := top 25
abbrev sUpto : Stmt := top 27
abbrev sWhole : Stmt := top 28
abbrev sAcross : Stmt := top 29
abbrev sNextIn : Stmt := top 30
abbrev sFaceOf : Stmt := top 31
abbrev sPut : Stmt := top 32
abbrev sAreRows : Stmt := top 33
abbrev sCopies : Stmt := top 34
abbrev sFacesOf : Stmt := top 35
abbrev sGroups : Stmt := top 36
abbrev sPointL : Stmt := top 37
abbrev sBuiltSo : Stmt := top 38
abbrev sSpotBy : Stmt := top 39
abbrev sDeeds : Stmt := top 40
abbrev sCanBe : Stmt := top 41
abbrev sFaceAt : Stmt := top 42
abbrev sTied : Stmt := top 43
abbrev sToldBy : Stmt := top 44
abbrev sDueOf : Stmt := top 45
abbrev sAlike : Stmt := top 46
abbrev sLike : Stmt := top 47
abbrev sHandIs : Stmt := top 48
abbrev sLaw : Stmt := top 49
end Ink
namespace Ink
open PySem L2
structure Txt (mg : Str → Option Value) : Prop where
  len : mg "len" = none
  range : mg "range" = none
  sum : mg "sum" = none
  list : mg "list" = none
  int : mg "int" = none
  bool : mg "bool" = none
  isi : mg "isinstance" = none
  sorted : mg "sorted" = none
  enum : mg "enumerate" = none
structure Def (P : Program) (w : World) (K : PySem.W.Frag) (mg : Str → Option Value) (base : Heap) (x : Str) (k : Nat) (ps : List Str) (sp : Sp) : Prop where
  ex : ∃ f fd, FnOk P w K mg base CX0 k f fd ps sp ∧ mg x = some (.ref f) ∧ PySem.W.keepIn K (.ref f) = true ∧ Binds K fd ps []
theorem pcall {X : Cx} {x : Str} {k : Nat} {ps : List Str} {sp : Sp} {p pos : Pos} {e : Expr} {es : List Expr} {t : TA} (D : Def X.prog X.w X.K X.mg X.base x k ps sp) (hr : Room k X.A) (ha : PA X (e :: es) t) (hg : Gl X x := by rfl) (hdb : (x == ("__debug__" : Str)) = false := by decide)
    (he : starEach (e :: es) X.env = (false, eval e X.env) :: starEach es X.env := by rfl) (hpl : (backTo pos (starEach es X.env)).any (·.1) = false := by rfl) : PE X (.Call (.Name x p) (e :: es) [] pos) (tCall sp [] E0 t) := by
  obtain ⟨f, fd, F, m, kp, b⟩ := D.ex
  exact pe_call F hr hg m kp b .nil pass0 ha hdb he hpl
def spUpto (K : PySem.W.Frag) : Sp := fun vs H Q _ => ∃ (a : Addr) (ns : List Int) (x y : Int), vs = [.ref a, .int x, .int y] ∧ SqL K H a (ns.map V.int) ∧ ns.length ≤ 63 ∧ Q (.int x) H
def spAcross : Sp := fun vs H Q _ => ∃ (e : Int), vs = [.int e] ∧ Q (.int (acr e)) H
def spNextIn : Sp := fun vs H Q _ => ∃ (p : Addr) (ps : List Addr) (rs : Rs) (e : Int), vs = [.ref p, .int e] ∧ Rows H p ps rs ∧ Q (.int (nextIn rs e)) H
section
variable {P : Program} {w : World} {K : PySem.W.Frag} {mg : Str → Option Value} {base : Heap}
theorem scUpto : FnScope ["_law_script", "_law_small", "_law_great"] ["_law_script", "_law_small", "_law_great"] (defScope sUpto) := ⟨rfl, rfl, rfl, by decide +kernel, rfl, by decide +kernel, by decide +kernel⟩
theorem ok_upto {f : Addr} {fd : FuncData} (F : Fun K "_law_upto" "_law_upto" sUpto f fd) (T : Txt mg) : FnOk P w K mg base CX0 1 f fd ["_law_script", "_law_small", "_law_great"] (spUpto K) := by
  refine F.ok scUpto (fun vs H Q E h => ?_) (fun cdv A outer s H vs Q E hr h => ?_)
  · obtain ⟨a, ns, x, y, rfl, _⟩ := h
    rfl
  · obtain ⟨a, ns, x, y, rfl, hS, hl, k⟩ := h
    refine ⟨_, pss_cons (ps_if (pt_cmpR op_gt (pe_callB call_len_seq (by rfl) T.len PySem.boot_len (pa_cons (pv 0) pa_nil)) pe_int (nomark _)) (pss_one (ps_ret (pv 2))) pss_nil) (pss_one (ps_ret (pv 1))), ?_⟩
    refine ⟨_, rfl, a, _, rfl, .inl hS, _, _, rfl, rfl, _, rfl, ?_⟩
    refine ite2 (fun h => ?_) (fun _ => ?_)
    · exfalso
      have h' := of_decide_eq_true h
      rw [List.length_map] at h'
      omega
    · exact ⟨_, rfl, k⟩
theorem scAcross : FnScope ["_law_end"] ["_law_end"] (defScope sAcross) := ⟨rfl, rfl, rfl, by decide +kernel, rfl, by decide +kernel, by decide +kernel⟩
theorem ok_across {f : Addr} {fd : FuncData} (F : Fun K "_law_across" "_law_across" sAcross f fd) : FnOk P w K mg base CX0 1 f fd ["_law_end"] spAcross := by
  refine F.ok scAcross (fun vs H Q E h => ?_) (fun cdv A outer s H vs Q E hr h => ?_)
  · obtain ⟨e, rfl, _⟩ := h
    rfl
  · obtain ⟨e, rfl, k⟩ := h
    refine ⟨_, pss_one (ps_ret (pe_op op_sub (pe_op op_add (pv 0) pe_int) (pe_op op_mul pe_int (pe_op op_mod (pv 0) pe_int)))), ?_⟩
    refine ⟨_, rfl, _, _, rfl, rfl, _, rfl, _, _, rfl, rfl, (by show (0 : Int) < 2; decide), _, _, rfl, rfl, .inl ⟨by decide, by decide⟩, _, _, rfl, rfl, k⟩
theorem in_ints (e : Int) : ∀ r : List Int, inV (.int e) (r.map V.int) = decide (e ∈ r)
  | [] => rfl
  | x :: r => by
    have ih := in_ints e r
    have e1 : inV (.int e) ((x :: r).map V.int) = ((x == e) || inV (.int e) (r.map V.int)) := rfl
    rw [e1, ih]
    by_cases h : e ∈ r
    · rw [decide_eq_true h, Bool.or_true, decide_eq_true (List.mem_cons_of_mem _ h)]
    · rw [decide_eq_false h, Bool.or_false]
      by_cases hx : x = e
      · subst hx
        rw [decide_eq_true List.mem_cons_self]
        exact beq_self_eq_true x
      · rw [decide_eq_false fun z => (List.mem_cons.mp z).elim (fun q => hx q.symm) h]
        exact beq_eq_false_iff_ne.mpr hx
theorem flat_ints : ∀ r : List Int, (r.map V.int).all flatV = true
  | [] => rfl
  | x :: r => by rw [List.map_cons, List.all_cons, flat_ints r]; rfl
theorem ref_at {ps : List Addr} {i : Nat} {y : V} (h : (ps.map V.ref)[i]? = some y) : ∃ q, ps[i]? = some q ∧ y = .ref q := by
  rw [List.getElem?_map] at h
  cases e : ps[i]? with
  | none => rw [e] at h; cases h
  | some q => rw [e] at h; exact ⟨q, rfl, (Option.some.inj h).symm⟩
theorem drop_at {α : Type} {l : List α} {i : Nat} {r : α} (h : l[i]? = some r) : l.drop i = r :: l.drop (i + 1) := by
  obtain ⟨hi, e⟩ := List.getElem?_eq_some_iff.mp h
  rw [List.drop_eq_getElem_cons hi, e]
theorem take_at {α : Type} {l : List α} {i : Nat} {r : α} (h : l[i]? = some r) : l.take (i + 1) = l.take i ++ [r] := by
  rw [List.take_add_one, h]; rfl
theorem behind_ix {r : List Int} {e : Int} (h : e ∈ r) : atI (r.map V.int) ((((r.idxOf e : Nat) : Int) + 1) % (((r.map V.int).length : Nat) : Int)) = some (V.int (behind r e)) := by
  have hl : 0 < r.length := List.length_pos_of_mem h
  have hk : (r.idxOf e + 1) % r.length < r.length := Nat.mod_lt _ hl
  have e1 : (((r.idxOf e : Nat) : Int) + 1) % (((r.map V.int).length : Nat) : Int) = (((r.idxOf e + 1) % r.length : Nat) : Int) := by
    rw [List.length_map, Int.natCast_emod]; rfl
  rw [e1]
  refine atI_nat ?_
  rw [List.getElem?_map, List.getElem?_eq_getElem hk]
  unfold behind
  rw [List.getD_eq_getElem?_getD, List.getElem?_eq_getElem hk]
  rfl
theorem nextIn_pos {r : List Int} {rs : Rs} {e : Int} (h : e ∈ r) : nextIn (r :: rs) e = behind r e := if_pos h
theorem nextIn_neg {r : List Int} {rs : Rs} {e : Int} (h : ¬ e ∈ r) : nextIn (r :: rs) e = nextIn rs e := if_neg h
theorem scNextIn : FnScope ["_law_rounds", "_law_end", "_law_row"] ["_law_rounds", "_law_end"] (defScope sNextIn) := ⟨rfl, rfl, rfl, by decide +kernel, rfl, by decide +kernel, by decide +kernel⟩
theorem ok_nextIn {f : Addr} {fd : FuncData} (F : Fun K "_law_next_in" "_law_next_in" sNextIn f fd) (T : Txt mg) : FnOk P w K mg base CX0 1 f fd ["_law_rounds", "_law_end"] spNextIn := by
  refine F.ok scNextIn (fun vs H Q E h => ?_) (fun cdv A outer s H vs Q E hr h => ?_)
  · obtain ⟨p, ps, rs, e, rfl, _⟩ := h
    rfl
  · obtain ⟨p, ps, rs, e, rfl, R, k⟩ := h
    refine ⟨_, pss_cons (ps_for PassesOwn.never rfl (pi_list (pv 0)) (pg_name (i := 2) scNextIn.nd rfl (Or.inl rfl))
      (pss_one (ps_if (pt_cmpR op_in_seq (pv 1) (pv 2) rfl) (pss_one (ps_ret (pe_ix ix_list (pv 2) (pe_op op_mod (pe_op op_add (pe_bm PySem.F.plainAttrs_list PySem.F.slot_list_index PySem.F.type_list_index mt_index (pv 2) (pa_cons (pv 1) pa_nil)) pe_int)
        (pe_callB call_len_seq (by rfl) T.len PySem.boot_len (pa_cons (pv 2) pa_nil))) (fun _ _ => rfl)))) pss_nil)))
      (pss_one (ps_ret (pv 1))), ?_⟩
    refine ⟨_, rfl, p, rfl, ⟨_, .of R.out⟩, for_list (K := K) (a := p) (xs := ps.map V.ref) (fun i σ H2 => H2 = H ∧ ∃ v, σ = [some (.ref p), some (.int e), v] ∧ nextIn rs e = nextIn (rs.drop i) e) ⟨rfl, none, rfl, rfl⟩
      (fun i σ H2 _ ⟨e2, _⟩ => by rw [e2]; exact .of R.out) ?_ ?_⟩
    · rintro i y σ H2 hi ⟨rfl, v, rfl, hn⟩
      obtain ⟨q, hq, rfl⟩ := ref_at hi
      obtain ⟨r, hr', hH⟩ := R.at hq
      rw [drop_at hr'] at hn
      refine ⟨_, rfl, _, rfl, q, _, rfl, .inl (.of hH), rfl, flat_ints r, _, rfl, ?_⟩
      rw [in_ints]
      refine ite2 (fun h => ?_) (fun h => ?_)
      · have hm : e ∈ r := of_decide_eq_true h
        have hl : 0 < r.length := List.length_pos_of_mem hm
        rw [nextIn_pos hm] at hn
        rw [hn] at k
        exact ⟨_, rfl, _, rfl, .inl ⟨rfl, _, .of hH⟩, _, rfl, q, r, e, rfl, rfl, .of hH, hm, _, _, rfl, rfl, _, rfl, q, _, rfl, .inl (.of hH), _, _, rfl, rfl, (by rw [List.length_map]; omega), q, _, _, _, rfl, rfl, .of hH, behind_ix hm, k⟩
      · have hm : ¬ e ∈ r := fun z => h (decide_eq_true z)
        rw [nextIn_neg hm] at hn
        exact ⟨rfl, _, rfl, hn⟩
    · rintro σ H2 ⟨rfl, v, rfl, hn⟩
      rw [List.length_map, R.len, List.drop_length] at hn
      refine ⟨_, rfl, ?_⟩
      rw [hn] at k
      exact k
def spFaceOf : Sp := fun vs H Q _ => ∃ (p : Addr) (ps : List Addr) (rs : Rs) (n : Nat) (e : Int), vs = [.ref p, .int e] ∧ Rows H p ps rs ∧ Dr rs n ∧ n ≤ 1000 ∧ 0 ≤ e ∧ e < n ∧
  ∀ (q : Addr) (row : List Int) (H' : Hp), IsFace (stp rs) e row → H q = none → H' q = some (.lst (row.map V.int)) → Same H H' → Q (.ref q) H'
theorem scFaceOf : FnScope ["_law_rounds", "_law_end", "_law_row", "_law_here"] ["_law_rounds", "_law_end"] (defScope sFaceOf) := ⟨rfl, rfl, rfl, by decide +kernel, rfl, by decide +kernel, by decide +kernel⟩
theorem ok_faceOf {f : Addr} {fd : FuncData} (F : Fun K "_law_face_of" "_law_face_of" sFaceOf f fd) (DA : Def P w K mg base "_law_across" 1 ["_law_end"] spAcross) (DN : Def P w K mg base "_law_next_in" 1 ["_law_rounds", "_law_end"] spNextIn) :
    FnOk P w K mg base CX0 2 f fd ["_law_rounds", "_law_end"] spFaceOf := by
  refine F.ok scFaceOf (fun vs H Q E h => ?_) (fun cdv A outer s H vs Q E hr h => ?_)
  · obtain ⟨p, ps, rs, n, e, rfl, _⟩ := h
    rfl
  · obtain ⟨p, ps, rs, n, e, rfl, R, D, hn, e0, e1, k⟩ := h
    have hs : sizeLine = 16777216 := sizeLine_eq
    refine ⟨_, pss_cons (ps_set (i := 2) scFaceOf.nd rfl (Or.inl rfl) (pe_lst (pa_cons (pv 1) pa_nil)))
      (pss_cons (ps_set (i := 3) scFaceOf.nd rfl (Or.inl rfl) (pcall DN hr (pa_cons (pv 0) (pa_cons (pcall DA hr (pa_cons (pv 1) pa_nil)) pa_nil))))
      (pss_cons (ps_while PassesOwn.never (pt_cmpR op_ne (pv 3) (pv 1) (nomark _)) (pss_cons (ps_expr (pe_bm PySem.F.plainAttrs_list PySem.F.slot_list_append PySem.F.type_list_append mt_append (pv 2) (pa_cons (pv 3) pa_nil)))
        (pss_one (ps_set (i := 3) scFaceOf.nd rfl (Or.inl rfl) (pcall DN hr (pa_cons (pv 0) (pa_cons (pcall DA hr (pa_cons (pv 3) pa_nil)) pa_nil)))))))
      (pss_one (ps_ret (pv 2))))), ?_⟩
    refine ⟨_, rfl, (by show 1 ≤ sizeLine; omega), fun l hl => ?_⟩
    have s0 : Same H (L2.upd H l (.lst [.int e])) := (Same.refl H).put hl
    refine ⟨_, rfl, _, rfl, e, rfl, p, ps, rs, acr e, rfl, R.same s0, ?_⟩
    obtain ⟨per, hp0, hp1, hp2⟩ := go_round (f := stp rs) (n := n) (fun x h => D.stp_mem h.1 h.2) (fun x y hx hy h => D.stp_inj hx hy h) ⟨e0, e1⟩
    refine ⟨fun m σ H2 => ∃ j, σ = [some (.ref p), some (.int e), some (.ref l), some (.int (itr (stp rs) (j + 1) e))] ∧ H2 l = some (.lst ((orb (stp rs) e j).map V.int)) ∧ Same H H2 ∧ j + 1 ≤ per ∧ (∀ i, 0 < i → i ≤ j → itr (stp rs) i e ≠ e) ∧ m = per - j,
      ⟨per, 0, rfl, upd_same, s0, hp0, fun i h1 h2 => absurd h1 (by omega), rfl⟩, ?_⟩
    rintro m σ H2 ⟨j, rfl, hL, s2, hj, hno, rfl⟩
    refine ⟨_, rfl, _, rfl, rfl, _, rfl, ?_⟩
    refine ite2 (fun h => ?_) (fun h => ?_)
    · have hne : itr (stp rs) (j + 1) e ≠ e := by
        intro z
        rw [z] at h
        simp at h
      have hlt : j + 1 < per := by
        rcases Nat.lt_or_ge (j + 1) per with z | z
        · exact z
        · have : j + 1 = per := by omega
          rw [this] at hne
          exact absurd hp2 hne
      have s3 : Same H (L2.upd H2 l (.lst ((orb (stp rs) e j).map V.int ++ [.int (itr (stp rs) (j + 1) e)]))) := s2.put hl
      refine ⟨fun σ' H' => σ' = [some (.ref p), some (.int e), some (.ref l), some (.int (itr (stp rs) (j + 2) e))] ∧ H' l = some (.lst ((orb (stp rs) e (j + 1)).map V.int)) ∧ Same H H',
        fun σ' H' ⟨a, b, c⟩ => ⟨per - (j + 1), by omega, j + 1, a, b, c, by omega, fun i h1 h2 => ?_, rfl⟩, ?_⟩
      · rcases Nat.lt_or_ge j i with z | z
        · have : i = j + 1 := by omega
          rw [this]; exact hne
        · exact hno i h1 z
      · refine ⟨_, rfl, .inl ⟨rfl, _, .of hL⟩, _, rfl, l, _, _, rfl, rfl, hL, (by rw [List.length_map, orb_length]; omega), ?_⟩
        refine ⟨_, rfl, _, rfl, _, rfl, p, ps, rs, acr (itr (stp rs) (j + 1) e), rfl, R.same s3, rfl, ?_, s3⟩
        rw [upd_same, orb_succ, List.map_append]
        rfl
    · have heq : itr (stp rs) (j + 1) e = e := by
        by_cases z : itr (stp rs) (j + 1) e = e
        · exact z
        · exact absurd (by simp [z]) h
      exact ⟨_, rfl, k l _ H2 ⟨j, rfl, heq, hno⟩ hl hL s2⟩
def spPut : Sp := fun vs H Q _ => ∃ (p : Addr) (ps : List Addr) (rs : Rs) (b e : Int), vs = [.ref p, .int b, .int e] ∧ Rows H p ps rs ∧ (∀ r ∈ rs, r.length ≤ 1000) ∧
  ∀ (H' : Hp), Rows H' p ps (putIn rs b e) → (∀ c o, H c = some o → c ∉ ps → H' c = some o) → Q .non H'
theorem scPut : FnScope ["_law_rounds", "_law_behind", "_law_end", "_law_row"] ["_law_rounds", "_law_behind", "_law_end"] (defScope sPut) := ⟨rfl, rfl, rfl, by decide +kernel, rfl, by decide +kernel, by decide +kernel⟩
def mix (g : List Int → List Int) (rs : Rs) (i : Nat) : Rs := (rs.take i).map g ++ rs.drop i
theorem mix_at {g : List Int → List Int} {rs : Rs} {i : Nat} {r : List Int} (h : rs[i]? = some r) : (mix g rs i)[i]? = some r := by
  have hi : i < rs.length := (List.getElem?_eq_some_iff.mp h).1
  unfold mix
  rw [List.getElem?_append_right (by rw [List.length_map, List.length_take]; omega), List.length_map, List.length_take, Nat.min_eq_left (by omega), Nat.sub_self, drop_at h]
  rfl
theorem mix_set {g : List Int → List Int} {rs : Rs} {i : Nat} {r : List Int} (h : rs[i]? = some r) : (mix g rs i).set i (g r) = mix g rs (i + 1) := by
  have hi : i < rs.length := (List.getElem?_eq_some_iff.mp h).1
  unfold mix
  have hl : ((rs.take i).map g).length = i := by rw [List.length_map, List.length_take]; omega
  rw [List.set_append_right _ _ (by rw [hl]; exact Nat.le_refl _), hl, Nat.sub_self, drop_at h, take_at h, List.map_append]
  simp
theorem mix_same {g : List Int → List Int} {rs : Rs} {i : Nat} {r : List Int} (h : rs[i]? = some r) (e : g r = r) : mix g rs (i + 1) = mix g rs i := by
  unfold mix
  rw [take_at h, drop_at h, List.map_append]
  simp [e]
theorem mix_all {g : List Int → List Int} {rs : Rs} {n : Nat} (h : rs.length ≤ n) : mix g rs n = rs.map g := by
  unfold mix
  rw [List.take_of_length_le h, List.drop_of_length_le h, List.append_nil]
theorem ok_put {f : Addr} {fd : FuncData} (F : Fun K "_law_put" "_law_put" sPut f fd) : FnOk P w K mg base CX0 1 f fd ["_law_rounds", "_law_behind", "_law_end"] spPut := by
  refine F.ok scPut (fun vs H Q E h => ?_) (fun cdv A outer s H vs Q E hr h => ?_)
  · obtain ⟨p, ps, rs, b, e, rfl, _⟩ := h
    rfl
  · obtain ⟨p, ps, rs, b, e, rfl, R, hsz, k⟩ := h
    have hs : sizeLine = 16777216 := sizeLine_eq
    refine ⟨_, pss_one (ps_for PassesOwn.never rfl (pi_list (pv 0)) (pg_name (i := 3) scPut.nd rfl (Or.inl rfl))
      (pss_one (ps_if (pt_cmpR op_in_seq (pv 1) (pv 3) rfl) (pss_one (ps_expr (pe_bm PySem.F.plainAttrs_list PySem.F.slot_list_insert PySem.F.type_list_insert mt_insert (pv 3)
        (pa_cons (pe_op op_add (pe_bm PySem.F.plainAttrs_list PySem.F.slot_list_index PySem.F.type_list_index mt_index (pv 3) (pa_cons (pv 1) pa_nil)) pe_int) (pa_cons (pv 2) pa_nil))))) pss_nil))), ?_⟩
    refine ⟨_, rfl, p, rfl, ⟨_, .of R.out⟩, for_list (K := K) (a := p) (xs := ps.map V.ref) (fun i σ H2 => ∃ v, σ = [some (.ref p), some (.int b), some (.int e), v] ∧ Rows H2 p ps (mix (putRow b e) rs i) ∧ ∀ c o, H c = some o → c ∉ ps → H2 c = some o) ⟨none, rfl, R, fun _ _ z _ => z⟩
      (fun i σ H2 _ ⟨_, _, R2, _⟩ => .of R2.out) ?_ ?_⟩
    · rintro i y σ H2 hi ⟨v, rfl, R2, kp⟩
      obtain ⟨q, hq, rfl⟩ := ref_at hi
      obtain ⟨r, hr', _⟩ := R.at hq
      have hH := R2.row i q r hq (mix_at hr')
      refine ⟨_, rfl, _, rfl, q, _, rfl, .inl (.of hH), rfl, flat_ints r, _, rfl, ?_⟩
      rw [in_ints]
      refine ite2 (fun h => ?_) (fun h => ?_)
      · have hm : b ∈ r := of_decide_eq_true h
        have hl : r.idxOf b < r.length := List.idxOf_lt_length_iff.mpr hm
        have hz := hsz r (List.mem_of_getElem? hr')
        refine ⟨_, rfl, .inl ⟨rfl, _, .of hH⟩, _, rfl, .inl ⟨rfl, _, .of hH⟩, _, rfl, q, r, b, rfl, rfl, .of hH, hm, _, _, rfl, rfl, _, rfl, q, _, _, _, rfl, rfl, hH, by omega, (by rw [List.length_map]; omega), (by rw [List.length_map]; omega), ?_⟩
        have e1 : (r.map V.int).take (((r.idxOf b : Nat) : Int) + 1).toNat ++ V.int e :: (r.map V.int).drop (((r.idxOf b : Nat) : Int) + 1).toNat = (putRow b e r).map V.int := by
          have e2 : (((r.idxOf b : Nat) : Int) + 1).toNat = r.idxOf b + 1 := by omega
          unfold putRow insAt
          rw [if_pos hm, e2, List.map_append, List.map_cons, List.map_take, List.map_drop]
        rw [e1]
        refine ⟨_, rfl, ?_, fun c o z hc => ?_⟩
        · have := R2.set hq (putRow b e r)
          rw [mix_set hr'] at this
          exact this
        · have ncq : c ≠ q := fun z' => hc (z' ▸ List.mem_of_getElem? hq)
          rw [upd_ne ncq]
          exact kp c o z hc
      · have hm : ¬ b ∈ r := fun z => h (decide_eq_true z)
        refine ⟨_, rfl, ?_, kp⟩
        rw [mix_same hr' (putRow_no hm)]
        exact R2
    · rintro σ H2 ⟨v, rfl, R2, kp⟩
      rw [List.length_map, R.len, mix_all (Nat.le_refl _)] at R2
      exact k H2 R2 kp
end
end Ink
namespace Ink
open PySem L2
structure Dn (any : Prop) (H H2 : Hp) (p : Addr) (ps : List Addr) (rs : Rs) (n : Nat) : Prop where
  made : Made any rs n
  rows : Rows H2 p ps rs
  same : Same H H2
  fp : H p = none
  fr : ∀ q ∈ ps, H q = none
theorem row_le {rs : Rs} {n : Nat} (d : Dr rs n) {r : List Int} (h : r ∈ rs) : r.length ≤ n := by
  have := d.len
  have q : r.length ≤ rs.flatten.length := by
    obtain ⟨a, b, rfl⟩ := List.append_of_mem h
    simp
    omega
  omega
section
variable {P : Program} {w : World} {K : PySem.W.Frag} {mg : Str → Option Value} {base : Heap}
theorem int_at {cs : List Int} {i : Nat} {z : Int} (h : i < cs.length) (e : z = (i : Int)) : atI (cs.map V.int) z = some (V.int (cs.getD i 0)) := by
  subst e
  refine atI_nat ?_
  rw [List.getElem?_map, List.getElem?_eq_getElem h, List.getD_eq_getElem?_getD, List.getElem?_eq_getElem h]
  rfl
abbrev tLen (K : PySem.W.Frag) (i : Nat) : TE := tCB (fun xs H Q => ∃ p ys, xs = [.ref p] ∧ (SqL K H p ys ∨ SqT K H p ys) ∧ Q (.int ys.length) H) (tCons (tVar i) tNil)
theorem yes_go {te : TE} {σ : St} {H : Hp} {k : V → Hp → Prop} {N : Hp → Prop} (h : te σ H k) : tYes σ H fun b H3 => if b = true then te σ H3 k else N H3 := iteT (A := te σ H k) (B := N H) h
theorem lens_comp {K : PySem.W.Frag} {p D : Addr} {ps : List Addr} {rs : Rs} {H : Hp} {Qd : Hp → Prop} {cσ : St} (R : Rows H p ps rs) (hD : H D = none) (hsz : rs.length ≤ 1000)
    (q : ∀ H', Same H H' → H' D = some (.lst (rs.map fun r => V.int (r.length : Int))) → Qd H') :
    ∃ W : Nat → Nat → Hp → Prop, (∃ m, W 0 m (upd H D (.lst []))) ∧ ∀ i m H, W i m H →
      ((Itl K p).stop i H ∧ Qd H) ∨ ((Itl K p).go i H ∧ ∃ N : Hp → Prop, (∀ H', N H' → ∃ m', m' < m ∧ W (i + 1) m' H') ∧ ∀ x H', (Itl K p).yld i H x H' →
        tYes (some x :: cσ) H' fun b H3 => if b = true then tLen K 0 (some x :: cσ) H3 fun y H4 => ∃ ys, H4 D = some (.lst ys) ∧ ys.length < sizeLine ∧ N (upd H4 D (.lst (ys ++ [y]))) else N H3) := by
  have hs : sizeLine = 16777216 := sizeLine_eq
  refine comp_list (xs := ps.map V.ref) (fun i H2 => Same H H2 ∧ H2 D = some (.lst ((rs.take i).map fun r => V.int (r.length : Int)))) ⟨(Same.refl H).put hD, upd_same⟩ (fun i H2 _ ⟨s, _⟩ => .of (s _ _ R.out)) ?_ ?_
  · rintro i y H2 hi ⟨s, hd⟩
    obtain ⟨a, ha, rfl⟩ := ref_at hi
    obtain ⟨r, hr, hH⟩ := R.at ha
    refine yes_go ⟨_, rfl, a, _, rfl, .inl (.of (s _ _ hH)), _, hd, ?_, s.put hD, ?_⟩
    · rw [List.length_map, List.length_take]; omega
    · rw [upd_same, take_at hr, List.map_append, List.length_map]; rfl
  · rintro H2 ⟨s, hd⟩
    rw [List.length_map, R.len, List.take_length] at hd
    exact q H2 s hd
theorem mem_ne {H2 : Hp} {p : Addr} {ps : List Addr} {rs : Rs} {q : Addr} (h : Rows H2 p ps rs) (hq : H2 q = none) : q ∉ ps := fun z => by
  obtain ⟨r, _, e⟩ := h.mem z
  rw [hq] at e
  cases e
theorem seq_via {t U : TS} {D : Ends} {σ : St} {H : Hp} (R : St → Hp → Prop) (hU : ∀ σ H, R σ H → U D σ H) (ht : ∀ Kn : St → Hp → Prop, (∀ σ H, R σ H → Kn σ H) → t { D with nx := Kn } σ H) : tSeq t U D σ H := ht (U D) hU
end
end Ink
namespace Ink
open PySem L2
def spWhole : Sp := fun vs H Q _ => ∃ (i : Int), vs = [.int i] ∧ Q (.bl true) H
def spAreRows : Sp := fun vs H Q _ => ∃ (p : Addr) (ps : List Addr) (rs : Rs), vs = [.ref p] ∧ Rows H p ps rs ∧ Q (.bl true) H
def spCopies : Sp := fun vs H Q _ => ∃ (p : Addr) (ps : List Addr) (rs : Rs), vs = [.ref p] ∧ Rows H p ps rs ∧ rs.length ≤ 1000 ∧
  ∀ (p' : Addr) (ps' : List Addr) (H' : Hp), Rows H' p' ps' rs → Same H H' → H p' = none → (∀ q ∈ ps', H q = none) → Q (.ref p') H'
def spAllEnds : Sp := fun vs H Q _ => ∃ (p : Addr) (ps : List Addr) (rs : Rs), vs = [.ref p] ∧ Rows H p ps rs ∧ rs.flatten.length ≤ 1000 ∧
  ∀ (l : Addr) (H' : Hp), H l = none → H' l = some (.lst (rs.flatten.map V.int)) → Same H H' → Q (.ref l) H'
def upTo (n : Nat) : List Int := (List.range n).map fun (i : Nat) => (i : Int)
def told (l : List Int) : Bool := decide (l.length % 2 = 0 ∧ l.Perm (upTo l.length))
def spIsDrawing : Sp := fun vs H Q _ => ∃ (p : Addr) (ps : List Addr) (rs : Rs), vs = [.ref p] ∧ Rows H p ps rs ∧ rs.flatten.length < 64 ∧ ∀ (H' : Hp), Same H H' → Q (.bl (told rs.flatten)) H'
theorem sorted_same : ∀ {a b : List Int}, a.Perm b → a.Pairwise (· ≤ ·) → b.Pairwise (· ≤ ·) → a = b
  | [], b, h, _, _ => by rw [List.nil_perm.mp h]
  | x :: a, [], h, _, _ => by cases List.perm_nil.mp h
  | x :: a, y :: b, h, ha, hb => by
    obtain ⟨a1, a2⟩ := List.pairwise_cons.mp ha
    obtain ⟨b1, b2⟩ := List.pairwise_cons.mp hb
    have hx : x ∈ y :: b := h.mem_iff.mp List.mem_cons_self
    have hy : y ∈ x :: a := h.mem_iff.mpr List.mem_cons_self
    have e : x = y := by
      rcases List.mem_cons.mp hx with z | z
      · exact z
      · rcases List.mem_cons.mp hy with z' | z'
        · exact z'.symm
        · have := b1 x z
          have := a1 y z'
          omega
    subst e
    rw [sorted_same (List.perm_cons x |>.mp h) a2 b2]
theorem upTo_sorted (n : Nat) : (upTo n).Pairwise (· ≤ ·) := by
  unfold upTo
  rw [List.pairwise_map]
  exact List.Pairwise.imp (fun h => by omega) (List.pairwise_lt_range (n := n))
theorem sorted_told {l l' : List Int} (h : l'.Perm l) (hs : l'.Pairwise (· ≤ ·)) : (l' = upTo l.length) ↔ l.Perm (upTo l.length) :=
  ⟨fun e => e ▸ h.symm, fun e => sorted_same (h.trans e) hs (upTo_sorted _)⟩
section
variable {P : Program} {w : World} {K : PySem.W.Frag} {mg : Str → Option Value} {base : Heap}
theorem scWhole : FnScope ["_law_found"] ["_law_found"] (defScope sWhole) := ⟨rfl, rfl, rfl, by decide +kernel, rfl, by decide +kernel, by decide +kernel⟩
theorem ok_whole {f : Addr} {fd : FuncData} (F : Fun K "_law_whole" "_law_whole" sWhole f fd) (T : Txt mg) : FnOk P w K mg base CX0 1 f fd ["_law_found"] spWhole := by
  refine F.ok scWhole (fun vs H Q E h => ?_) (fun cdv A outer s H vs Q E hr h => ?_)
  · obtain ⟨i, rfl, _⟩ := h
    rfl
  · obtain ⟨i, rfl, k⟩ := h
    refine ⟨_, pss_one (ps_ret (pe_and (pe_callB call_isi (by rfl) T.isi PyProof.Rows.boot_isinstance (pa_cons (pv 0) (pa_cons (pe_bltn (v := .ty "int") (by rfl) T.int PyProof.Rows.boot_int rfl) pa_nil)))
      (pe_one (pe_not (pe_callB call_isi (by rfl) T.isi PyProof.Rows.boot_isinstance (pa_cons (pv 0) (pa_cons (pe_bltn (v := .ty "bool") (by rfl) T.bool PyProof.Rows.boot_bool rfl) pa_nil))))))), ?_⟩
    exact ⟨_, rfl, _, _, _, rfl, .ii i, _, rfl, iteT ⟨_, rfl, _, _, _, rfl, .ib i, _, rfl, k⟩⟩
theorem scAreRows : FnScope ["_law_found", "_law_row", "_law_one"] ["_law_found"] (defScope sAreRows) := ⟨rfl, rfl, rfl, by decide +kernel, rfl, by decide +kernel, by decide +kernel⟩
theorem ok_areRows {f : Addr} {fd : FuncData} (F : Fun K "_law_are_rows" "_law_are_rows" sAreRows f fd) (T : Txt mg) (DW : Def P w K mg base "_law_whole" 1 ["_law_found"] spWhole) : FnOk P w K mg base CX0 2 f fd ["_law_found"] spAreRows := by
  refine F.ok scAreRows (fun vs H Q E h => ?_) (fun cdv A outer s H vs Q E hr h => ?_)
  · obtain ⟨p, ps, rs, rfl, _⟩ := h
    rfl
  · obtain ⟨p, ps, rs, rfl, R, k⟩ := h
    have nd := scAreRows.nd
    refine ⟨_, pss_cons (ps_if (pt_not (pt_val (pe_callB call_isi (by rfl) T.isi PyProof.Rows.boot_isinstance (pa_cons (pv 0) (pa_cons (pe_bltn (v := .ty "list") (by rfl) T.list PyProof.Rows.boot_list rfl) pa_nil))))) (pss_one (ps_ret pe_bl)) pss_nil)
      (pss_cons (ps_for PassesOwn.never rfl (pi_list (pv 0)) (pg_name (i := 1) nd rfl (Or.inl rfl))
        (pss_cons (ps_if (pt_not (pt_val (pe_callB call_isi (by rfl) T.isi PyProof.Rows.boot_isinstance (pa_cons (pv 1) (pa_cons (pe_bltn (v := .ty "list") (by rfl) T.list PyProof.Rows.boot_list rfl) pa_nil))))) (pss_one (ps_ret pe_bl)) pss_nil)
        (pss_one (ps_for PassesOwn.never rfl (pi_list (pv 1)) (pg_name (i := 2) nd rfl (Or.inl rfl))
          (pss_one (ps_if (pt_not (pt_val (pcall DW hr (pa_cons (pv 2) pa_nil)))) (pss_one (ps_ret pe_bl)) pss_nil))))))
      (pss_one (ps_ret pe_bl))), ?_⟩
    refine ⟨_, rfl, _, _, _, rfl, .ll (.of R.out), _, rfl, iteF ?_⟩
    refine ⟨_, rfl, p, rfl, ⟨_, .of R.out⟩, for_list (K := K) (a := p) (xs := ps.map V.ref) (fun i σ H2 => H2 = H ∧ ∃ v u, σ = [some (.ref p), v, u]) ⟨rfl, none, none, rfl⟩ (fun i σ H2 _ ⟨e2, _⟩ => by rw [e2]; exact .of R.out) ?_ ?_⟩
    · rintro i y σ H2 hi ⟨rfl, v, u, rfl⟩
      obtain ⟨q, hq, rfl⟩ := ref_at hi
      obtain ⟨r, hr', hH⟩ := R.at hq
      refine ⟨_, rfl, _, _, _, rfl, .ll (.of hH), _, rfl, iteF ?_⟩
      refine ⟨_, rfl, q, rfl, ⟨_, .of hH⟩, for_list (K := K) (a := q) (xs := r.map V.int) (fun i σ H3 => H3 = H2 ∧ ∃ u, σ = [some (.ref p), some (.ref q), u]) ⟨rfl, u, rfl⟩ (fun i σ H3 _ ⟨e2, _⟩ => by rw [e2]; exact .of hH) ?_ ?_⟩
      · rintro j z σ H3 hj ⟨rfl, u, rfl⟩
        obtain ⟨t, rfl⟩ : ∃ t, z = V.int t := by
          rw [List.getElem?_map] at hj
          cases e : r[j]? with
          | none => rw [e] at hj; cases hj
          | some t => rw [e] at hj; exact ⟨t, (Option.some.inj hj).symm⟩
        exact ⟨_, rfl, t, rfl, _, rfl, iteF ⟨rfl, _, rfl⟩⟩
      · rintro σ H3 ⟨rfl, u, rfl⟩
        exact ⟨rfl, _, _, rfl⟩
    · rintro σ H2 ⟨rfl, v, u, rfl⟩
      exact k
abbrev tListOf (K : PySem.W.Frag) (i : Nat) : TE := tCB (fun xs H Q => ∃ p ys, xs = [.ref p] ∧ (SqL K H p ys ∨ SqT K H p ys) ∧ ∀ l, H l = none → Q (.ref l) (upd H l (.lst ys))) (tCons (tVar i) tNil)
theorem scCopies : FnScope ["_law_rounds"] ["_law_rounds"] (defScope sCopies) := ⟨rfl, rfl, rfl, by decide +kernel, rfl, by decide +kernel, by decide +kernel⟩
theorem ok_copies {f : Addr} {fd : FuncData} (F : Fun K "_law_copies" "_law_copies" sCopies f fd) (T : Txt mg) : FnOk P w K mg base CX0 1 f fd ["_law_rounds"] spCopies := by
  refine F.ok scCopies (fun vs H Q E h => ?_) (fun cdv A outer s H vs Q E hr h => ?_)
  · obtain ⟨p, ps, rs, rfl, _⟩ := h
    rfl
  · obtain ⟨p, ps, rs, rfl, R, hsz, k⟩ := h
    have hs : sizeLine = 16777216 := sizeLine_eq
    refine ⟨_, pss_one (ps_ret (pe_comp (te := tListOf K 0) rfl (Blk.plain rfl (by decide +kernel) (by decide +kernel)) (pi_list (pv 0)) (fun _ _ _ _ => pts_nil) (fun _ _ _ _ => pe_callTy call_list_of (by rfl) T.list PyProof.Rows.boot_list (pa_cons (pv 0) pa_nil)))), ?_⟩
    refine ⟨_, rfl, p, rfl, ⟨_, .of R.out⟩, fun D hD => comp_list (xs := ps.map V.ref) (fun i H2 => ∃ qs : List Addr, Same H H2 ∧ qs.length = i ∧ i ≤ rs.length ∧ H2 D = some (.lst (qs.map V.ref)) ∧ qs.Nodup ∧ (∀ q ∈ qs, H q = none ∧ q ≠ D) ∧ ∀ (j : Nat) (q : Addr) (r : List Int), qs[j]? = some q → rs[j]? = some r → H2 q = some (.lst (r.map V.int)))
      ⟨[], (Same.refl H).put hD, rfl, Nat.zero_le _, upd_same, List.nodup_nil, (fun q hq => by cases hq), (fun j q r e => by simp at e)⟩ (fun i H2 _ ⟨_, s2, _⟩ => .of (s2 _ _ R.out)) ?_ ?_⟩
    · rintro i y H2 hi ⟨qs, s2, hl, hle, hd, nd, hn, hrow⟩
      obtain ⟨q, hq, rfl⟩ := ref_at hi
      obtain ⟨r, hr', hH⟩ := R.at hq
      have hir : i < rs.length := (List.getElem?_eq_some_iff.mp hr').1
      refine yes_go ⟨_, rfl, q, _, rfl, .inl (.of (s2 _ _ hH)), fun l hl' => ⟨qs.map V.ref, ?_, ?_, qs ++ [l], ?_, ?_, ?_, ?_, ?_, ?_, ?_⟩⟩
      · rw [upd_ne (ne_of_none hd hl')]; exact hd
      · rw [List.length_map]; omega
      · exact ((s2.put (s2.free hl')).put hD)
      · rw [List.length_append, hl]; rfl
      · omega
      · rw [upd_same, List.map_append]; rfl
      · refine List.nodup_append.mpr ⟨nd, by simp, fun a ha b hb z => ?_⟩
        have : b = l := by simpa using hb
        subst this; subst z
        obtain ⟨j, hj⟩ := List.mem_iff_getElem?.mp ha
        have hjl : j < qs.length := (List.getElem?_eq_some_iff.mp hj).1
        have hjr : j < rs.length := by omega
        have := hrow j _ _ hj (List.getElem?_eq_getElem hjr)
        rw [hl'] at this
        cases this
      · intro a ha
        rcases List.mem_append.mp ha with z | z
        · exact hn a z
        · have : a = l := by simpa using z
          subst this
          exact ⟨s2.free hl', fun e => by rw [e, hd] at hl'; cases hl'⟩
      · intro j a t e1 e2
        have key : a ≠ D := by
          rcases Nat.lt_or_ge j qs.length with z | z
          · rw [List.getElem?_append_left z] at e1
            exact (hn a (List.mem_of_getElem? e1)).2
          · rw [List.getElem?_append_right z] at e1
            have : a = l := by
              cases q' : j - qs.length with
              | zero => rw [q'] at e1; simpa using e1.symm
              | succ m => rw [q'] at e1; simp at e1
            subst this
            exact fun e => by rw [e, hd] at hl'; cases hl'
        rw [upd_ne key]
        rcases Nat.lt_or_ge j qs.length with z | z
        · rw [List.getElem?_append_left z] at e1
          have h2 := hrow j a t e1 e2
          rw [upd_ne (ne_of_none h2 hl')]
          exact h2
        · rw [List.getElem?_append_right z] at e1
          have hj : j = qs.length := by
            cases q' : j - qs.length with
            | zero => omega
            | succ m => rw [q'] at e1; simp at e1
          subst hj
          have : l = a := by simpa using e1
          subst this
          rw [hl, hr'] at e2
          cases e2
          exact upd_same
    · rintro H2 ⟨qs, s2, hl, hle, hd, nd, hn, hrow⟩
      rw [List.length_map, R.len] at hl
      exact k D qs H2 ⟨hd, nd, hl, hrow⟩ s2 hD fun q hq => (hn q hq).1
theorem scAllEnds : FnScope ["rounds", "ends", "standing"] ["rounds"] (defScope sAllEnds) := ⟨rfl, rfl, rfl, by decide +kernel, rfl, by decide +kernel, by decide +kernel⟩
theorem flat_take {rs : Rs} {i : Nat} {r : List Int} (h : rs[i]? = some r) : (rs.take (i + 1)).flatten = (rs.take i).flatten ++ r := by
  rw [take_at h, List.flatten_append]
  simp
theorem flat_take_le (rs : Rs) (i : Nat) : (rs.take i).flatten.length ≤ rs.flatten.length := by
  have e : rs.flatten = (rs.take i).flatten ++ (rs.drop i).flatten := by rw [← List.flatten_append, List.take_append_drop]
  rw [e, List.length_append]
  omega
theorem ok_allEnds {f : Addr} {fd : FuncData} (F : Fun K "all_ends" "all_ends" sAllEnds f fd) : FnOk P w K mg base CX0 1 f fd ["rounds"] spAllEnds := by
  refine F.ok scAllEnds (fun vs H Q E h => ?_) (fun cdv A outer s H vs Q E hr h => ?_)
  · obtain ⟨p, ps, rs, rfl, _⟩ := h
    rfl
  · obtain ⟨p, ps, rs, rfl, R, hsz, k⟩ := h
    have hs : sizeLine = 16777216 := sizeLine_eq
    have nd := scAllEnds.nd
    refine ⟨_, pss_cons (ps_set (i := 1) nd rfl (Or.inl rfl) (pe_lst pa_nil))
      (pss_cons (ps_for PassesOwn.never rfl (pi_list (pv 0)) (pg_name (i := 2) nd rfl (Or.inl rfl))
        (pss_one (ps_expr (pe_bm PySem.F.plainAttrs_list PySem.F.slot_list_extend PySem.F.type_list_extend mt_extend (pv 1) (pa_cons (pv 2) pa_nil)))))
      (pss_one (ps_ret (pv 1)))), ?_⟩
    refine ⟨(by show 0 ≤ sizeLine; omega), fun l hl => ?_⟩
    refine ⟨_, rfl, p, rfl, ⟨_, .of (((Same.refl H).put hl) _ _ R.out)⟩, for_list (K := K) (a := p) (xs := ps.map V.ref) (fun i σ H2 => ∃ v, σ = [some (.ref p), some (.ref l), v] ∧ Same H H2 ∧ H2 l = some (.lst ((rs.take i).flatten.map V.int))) ⟨none, rfl, (Same.refl H).put hl, upd_same⟩
      (fun i σ H2 _ ⟨_, _, s2, _⟩ => .of (s2 _ _ R.out)) ?_ ?_⟩
    · rintro i y σ H2 hi ⟨v, rfl, s2, hL⟩
      obtain ⟨q, hq, rfl⟩ := ref_at hi
      obtain ⟨r, hr', hH⟩ := R.at hq
      have e1 := flat_take hr'
      have e2 := flat_take_le rs (i + 1)
      rw [e1, List.length_append] at e2
      refine ⟨_, rfl, .inl ⟨rfl, _, .of hL⟩, _, rfl, l, q, _, _, rfl, rfl, hL, s2 _ _ hH, (by rw [List.length_map, List.length_map]; omega), _, rfl, s2.put hl, ?_⟩
      rw [upd_same, e1, List.map_append]
    · rintro σ H2 ⟨v, rfl, s2, hL⟩
      rw [List.length_map, R.len, List.take_length] at hL
      exact ⟨_, rfl, k l H2 hl hL s2⟩
theorem scIsDrawing : FnScope ["rounds", "ends"] ["rounds"] (defScope sIsDrawing) := ⟨rfl, rfl, rfl, by decide +kernel, rfl, by decide +kernel, by decide +kernel⟩
theorem map_upTo (n : Nat) : ((List.range n).map fun (i : Nat) => V.int (i : Int)) = (upTo n).map V.int := by
  unfold upTo
  rw [List.map_map]
  rfl
theorem ok_isDrawing {f : Addr} {fd : FuncData} (F : Fun K "is_drawing" "is_drawing" sIsDrawing f fd) (T : Txt mg) (DE : Def P w K mg base "all_ends" 1 ["rounds"] spAllEnds) : FnOk P w K mg base CX0 2 f fd ["rounds"] spIsDrawing := by
  refine F.ok scIsDrawing (fun vs H Q E h => ?_) (fun cdv A outer s H vs Q E hr h => ?_)
  · obtain ⟨p, ps, rs, rfl, _⟩ := h
    rfl
  · obtain ⟨p, ps, rs, rfl, R, hsz, k⟩ := h
    have hs : sizeLine = 16777216 := sizeLine_eq
    have nd := scIsDrawing.nd
    refine ⟨_, pss_cons (ps_set (i := 1) nd rfl (Or.inl rfl) (pcall DE hr (pa_cons (pv 0) pa_nil)))
      (pss_one (ps_ret (pe_and (pe_cmpR op_eq (pe_op op_mod (pe_callB call_len_seq (by rfl) T.len PySem.boot_len (pa_cons (pv 1) pa_nil)) pe_int) pe_int (nomark _))
        (pe_one (pe_cmpR (op_eqD hr.units) (pe_callB call_sorted (by rfl) T.sorted PyProof.Rows.boot_sorted (pa_cons (pv 1) pa_nil))
          (pe_callTy (call_list_rng rfl) (by rfl) T.list PyProof.Rows.boot_list (pa_cons (pe_callTy call_range1 (by rfl) T.range PyProof.Rows.boot_range (pa_cons (pe_callB call_len_seq (by rfl) T.len PySem.boot_len (pa_cons (pv 1) pa_nil)) pa_nil)) pa_nil)) (nomark _)))))), ?_⟩
    refine ⟨_, rfl, p, ps, rs, rfl, R, by omega, fun l H1 hl hL s1 => ?_⟩
    refine ⟨_, rfl, l, _, rfl, .inl (.of hL), _, _, rfl, rfl, (by show (0 : Int) < 2; decide), rfl, _, rfl, ?_⟩
    refine ite2 (fun h => ?_) (fun h => ?_)
    · have he : rs.flatten.length % 2 = 0 := by
        have h' := of_decide_eq_true h
        injection h' with h'
        rw [List.length_map] at h'
        omega
      refine ⟨_, rfl, l, rs.flatten, rfl, .of hL, hsz, fun l2 ns' h2 hp hw => ?_⟩
      refine ⟨_, rfl, l, _, rfl, .inl (.of (by rw [upd_ne (ne_of_none hL h2)]; exact hL)), _, rfl, fun l3 h3 => ?_⟩
      obtain ⟨n32, h3'⟩ := upd_none h3
      refine ⟨l3, (rs.flatten.map V.int).length, rfl, upd_same, (by rw [List.length_map]; omega), fun l4 h4 => ?_⟩
      obtain ⟨n43, h4'⟩ := upd_none h4
      obtain ⟨n42, h4''⟩ := upd_none h4'
      refine ⟨intsD ns', intsD (upTo (rs.flatten.map V.int).length), .ints (.of ?_), .ints (.of ?_), lay_ints _, lay_ints _, Nat.le_trans (depth_ints _) (by decide), ?_⟩
      · rw [upd_ne (Ne.symm n42), upd_ne (Ne.symm n32), upd_same]
      · rw [upd_same, map_upTo]
      · rw [eqv_ints, List.length_map]
        have e : (decide (ns' = upTo rs.flatten.length)) = told rs.flatten := by
          unfold told
          rw [Bool.eq_iff_iff, decide_eq_true_iff, decide_eq_true_iff, sorted_told hp hw]
          exact ⟨fun z => ⟨he, z⟩, fun z => z.2⟩
        rw [e]
        exact k _ (((s1.put (s1.free h2)).put (s1.free h3')).put (s1.free h4''))
    · have he : ¬ rs.flatten.length % 2 = 0 := fun z => by
        have e0 : (((rs.flatten.map V.int).length : Nat) : Int) % 2 = 0 := by rw [List.length_map]; omega
        exact h (decide_eq_true (congrArg V.int e0))
      have e : told rs.flatten = false := by
        unfold told
        exact decide_eq_false fun z => he z.1
      rw [e] at k
      exact k _ s1
end
end Ink
namespace Ink
open PySem L2
theorem row_nodup {rs : Rs} (nd : rs.flatten.Nodup) {r : List Int} (h : r ∈ rs) : r.Nodup := by
  obtain ⟨a, b, rfl⟩ := List.append_of_mem h
  rw [List.flatten_append, List.flatten_cons] at nd
  exact (List.nodup_append.mp (List.nodup_append.mp nd).2.1).1
theorem perm_of : ∀ {a b : List Int}, a.Nodup → b.Nodup → (∀ z, z ∈ a ↔ z ∈ b) → a.Perm b
  | [], b, _, _, h => by
    cases b with
    | nil => exact .nil
    | cons y b => exact absurd ((h y).mpr List.mem_cons_self) (by simp)
  | x :: a, b, ha, hb, h => by
    obtain ⟨h1, h2⟩ := List.nodup_cons.mp ha
    have hx : x ∈ b := (h x).mp List.mem_cons_self
    refine ((perm_of h2 (hb.erase x) fun z => ?_).cons x).trans (List.perm_cons_erase hx).symm
    rw [hb.mem_erase_iff]
    constructor
    · intro hz
      exact ⟨fun e => h1 (e ▸ hz), (h z).mp (List.mem_cons_of_mem _ hz)⟩
    · rintro ⟨hne, hz⟩
      exact (List.mem_cons.mp ((h z).mpr hz)).resolve_left hne
def tab (f : Int → Int) (l : List Int) : List (Key × V) := l.map fun e => ((Sum.inl e : Key), V.int (f e))
theorem tab_append (f : Int → Int) (l m : List Int) : tab f (l ++ m) = tab f l ++ tab f m := List.map_append
theorem tab_val {f : Int → Int} : ∀ {l : List Int} {e : Int}, e ∈ l → valV (tab f l) (Sum.inl e : Key) = some (V.int (f e))
  | [], _, h => by cases h
  | x :: l, e, h => by
    by_cases hx : x = e
    · subst hx
      exact valV_pos (p := ((Sum.inl x : Key), V.int (f x))) rfl
    · have h' : e ∈ l := (List.mem_cons.mp h).resolve_left fun z => hx z.symm
      refine Eq.trans (valV_neg (p := ((Sum.inl x : Key), V.int (f x))) fun z => hx (Sum.inl.inj z)) (tab_val h')
theorem tab_no {f : Int → Int} : ∀ {l : List Int} {e : Int}, e ∉ l → valV (tab f l) (Sum.inl e : Key) = none
  | [], _, _ => rfl
  | x :: l, e, h => by
    have hx : x ≠ e := fun z => h (z ▸ List.mem_cons_self)
    exact Eq.trans (valV_neg (p := ((Sum.inl x : Key), V.int (f x))) fun z => hx (Sum.inl.inj z)) (tab_no fun z => h (List.mem_cons_of_mem _ z))
theorem tab_put {f : Int → Int} {l : List Int} {e : Int} {v : Int} (h : e ∉ l) (hv : v = f e) : putK (tab f l) (Sum.inl e : Key) (V.int v) = tab f (l ++ [e]) := by
  rw [putK_new _ (tab_no h), tab_append, hv]
  rfl
theorem tab_length (f : Int → Int) (l : List Int) : (tab f l).length = l.length := List.length_map _
structure TabOf (H : Hp) (d : Addr) (g : Int → Int) (n : Nat) : Prop where
  ex : ∃ kvs : List (Key × V), H d = some (.dK kvs) ∧ kvs.length = n ∧ ∀ e : Int, 0 ≤ e ∧ e < n → valV kvs (Sum.inl e : Key) = some (V.int (g e))
theorem TabOf.same {H H' : Hp} {d : Addr} {g : Int → Int} {n : Nat} (t : TabOf H d g n) (s : Same H H') : TabOf H' d g n := let ⟨kvs, a, b, c⟩ := t.ex; ⟨kvs, s _ _ a, b, c⟩
theorem TabOf.get {H : Hp} {d : Addr} {g : Int → Int} {n : Nat} (t : TabOf H d g n) {e : Int} (he : 0 ≤ e ∧ e < (n : Int)) : DGet H d (.int e) (some (V.int (g e))) := by
  obtain ⟨kvs, a, b, c⟩ := t.ex
  have := DGet.k (k := (Sum.inl e : Key)) a
  rw [c e he] at this
  exact this
structure SeenOf (H : Hp) (d : Addr) (l : List Int) (m : Nat) : Prop where
  ex : ∃ kvs : List (Key × V), H d = some (.dK kvs) ∧ kvs.length ≤ m ∧ ∀ e : Int, (valV kvs (Sum.inl e : Key)).isSome = decide (e ∈ l)
theorem SeenOf.new {H : Hp} {d : Addr} (h : H d = some (.dK [])) : SeenOf H d [] 0 := ⟨[], h, Nat.le_refl _, fun e => by simp [valV_nil]⟩
theorem SeenOf.put {H : Hp} {d : Addr} {l : List Int} {m : Nat} (t : SeenOf H d l m) (hm : m < 1000000) (e : Int) (v : V) : ∃ H', DPut H d (.int e) v H' ∧ SeenOf H' d (l ++ [e]) (m + 1) ∧ ∃ o, H' = L2.upd H d o := by
  obtain ⟨kvs, a, b, c⟩ := t.ex
  refine ⟨_, DPut.k (k := (Sum.inl e : Key)) a (by have : sizeLine = 16777216 := sizeLine_eq; omega), ⟨_, upd_same, ?_, fun z => ?_⟩, _, rfl⟩
  · have := length_putK kvs (Sum.inl e : Key) v
    omega
  · rw [valV_put]
    by_cases hz : z = e
    · subst hz
      rw [if_pos rfl]
      simp
    · rw [if_neg fun q => hz (Sum.inl.inj q), c z, Bool.eq_iff_iff]
      simp [hz]
section
variable {P : Program} {w : World} {K : PySem.W.Frag} {mg : Str → Option Value} {base : Heap}
theorem scAcrossP : FnScope ["end"] ["end"] (defScope sAcrossP) := ⟨rfl, rfl, rfl, by decide +kernel, rfl, by decide +kernel, by decide +kernel⟩
theorem ok_acrossP {f : Addr} {fd : FuncData} (F : Fun K "across" "across" sAcrossP f fd) : FnOk P w K mg base CX0 1 f fd ["end"] spAcross := by
  refine F.ok scAcrossP (fun vs H Q E h => ?_) (fun cdv A outer s H vs Q E hr h => ?_)
  · obtain ⟨e, rfl, _⟩ := h
    rfl
  · obtain ⟨e, rfl, k⟩ := h
    refine ⟨_, pss_one (ps_ret (pe_ifExp (pt_cmpR op_eq (pe_op op_mod (pv 0) pe_int) pe_int (nomark _)) (pe_op op_add (pv 0) pe_int) (pe_op op_sub (pv 0) pe_int))), ?_⟩
    refine ⟨_, rfl, _, _, rfl, rfl, (by show (0 : Int) < 2; decide), rfl, _, rfl, ?_⟩
    refine ite2 (fun h => ?_) (fun h => ?_)
    · have h' := of_decide_eq_true h
      injection h' with h'
      refine ⟨_, rfl, _, _, rfl, rfl, ?_⟩
      rw [show acr e = e + 1 by unfold acr; omega] at k
      exact k
    · have h' : ¬ e % 2 = 0 := fun z => h (decide_eq_true (congrArg V.int z))
      refine ⟨_, rfl, _, _, rfl, rfl, ?_⟩
      rw [show acr e = e - 1 by unfold acr; omega] at k
      exact k
def spNextEnds : Sp := fun vs H Q _ => ∃ (p : Addr) (ps : List Addr) (rs : Rs) (n : Nat), vs = [.ref p] ∧ Rows H p ps rs ∧ Dr rs n ∧ n ≤ 1000 ∧
  ∀ (d : Addr) (H' : Hp), H d = none → TabOf H' d (nextIn rs) n → Same H H' → Q (.ref d) H'
theorem scNextEnds : FnScope ["rounds", "behind", "ends", "place", "end"] ["rounds"] (defScope sNextEnds) := ⟨rfl, rfl, rfl, by decide +kernel, rfl, by decide +kernel, by decide +kernel⟩
theorem ok_nextEnds {f : Addr} {fd : FuncData} (F : Fun K "next_ends" "next_ends" sNextEnds f fd) (T : Txt mg) : FnOk P w K mg base CX0 1 f fd ["rounds"] spNextEnds := by
  refine F.ok scNextEnds (fun vs H Q E h => ?_) (fun cdv A outer s H vs Q E hr h => ?_)
  · obtain ⟨p, ps, rs, n, rfl, _⟩ := h
    rfl
  · obtain ⟨p, ps, rs, n, rfl, R, D, hn, k⟩ := h
    have hs : sizeLine = 16777216 := sizeLine_eq
    have nd := scNextEnds.nd
    have hu1 := hu_of hr
    refine ⟨_, pss_cons (ps_set (i := 1) nd rfl (Or.inl rfl) pe_dnewK)
      (pss_cons (ps_for PassesOwn.never rfl (pi_list (pv 0)) (pg_name (i := 2) nd rfl (Or.inl rfl)) (pss_one (ps_for PassesOwn.never rfl (pi_enum (by rfl) T.enum (pa_cons (pv 2) pa_nil)) (pg_tup rfl (pgs_cons (pg_name (i := 3) nd rfl (Or.inl rfl)) (pgs_cons (pg_name (i := 4) nd rfl (Or.inl rfl)) pgs_nil))) (pss_one (ps_dput hu1 (pv 1) (pv 4) (pe_ix ix_list (pv 2) (pe_op op_mod (pe_op op_add (pv 3) pe_int) (pe_callB call_len_seq (by rfl) T.len PySem.boot_len (pa_cons (pv 2) pa_nil))) (fun _ _ => rfl)) rfl)))))
      (pss_one (ps_ret (pv 1)))), ?_⟩
    intro d hd
    have s0 : Same H (L2.upd H d (.dK [])) := (Same.refl H).put hd
    refine ⟨_, rfl, p, rfl, ⟨_, .of (s0 _ _ R.out)⟩, for_list (K := K) (a := p) (xs := ps.map V.ref) (fun i σ H2 => ∃ v2 v3 v4, σ = [some (.ref p), some (.ref d), v2, v3, v4] ∧ Same H H2 ∧ H2 d = some (.dK (tab (nextIn rs) (rs.take i).flatten))) ⟨none, none, none, rfl, s0, upd_same⟩
      (fun i σ H2 _ ⟨_, _, _, _, s2, _⟩ => .of (s2 _ _ R.out)) ?_ ?_⟩
    · rintro i y σ H2 hi ⟨v2, v3, v4, rfl, s2, hL⟩
      obtain ⟨q, hq, rfl⟩ := ref_at hi
      obtain ⟨r, hr', hH⟩ := R.at hq
      have hrow : r.length ≤ n := row_le D (List.mem_of_getElem? hr')
      have hfl := flat_take_le rs i
      rw [D.len] at hfl
      refine ⟨_, rfl, q, rfl, ⟨_, .of (s2 _ _ hH)⟩, for_enum (K := K) (a := q) (xs := r.map V.int) (fun j σ H3 => ∃ v3 v4, σ = [some (.ref p), some (.ref d), some (.ref q), v3, v4] ∧ Same H H3 ∧ H3 d = some (.dK (tab (nextIn rs) ((rs.take i).flatten ++ r.take j)))) ⟨v3, v4, rfl, s2, by rw [List.take_zero, List.append_nil]; exact hL⟩
        (fun j σ H3 _ ⟨_, _, _, s3, _⟩ => .of (s3 _ _ hH)) ?_ ?_⟩
      · rintro j z σ H3 t hj ⟨v3, v4, rfl, s3, hL3⟩ ht
        obtain ⟨e, he, rfl⟩ : ∃ e, r[j]? = some e ∧ z = V.int e := by
          rw [List.getElem?_map] at hj
          cases e : r[j]? with
          | none => rw [e] at hj; cases hj
          | some t => rw [e] at hj; exact ⟨t, rfl, (Option.some.inj hj).symm⟩
        have hjl : j < r.length := (List.getElem?_eq_some_iff.mp he).1
        have f3 := s3.free ht
        have s4 : Same H (L2.upd H3 t (.tup [.int (j : Int), .int e])) := s3.put f3
        have hL4 : (L2.upd H3 t (.tup [.int (j : Int), .int e])) d = some (.dK (tab (nextIn rs) ((rs.take i).flatten ++ r.take j))) := by rw [upd_ne (ne_of_none hL3 ht)]; exact hL3
        have hmod : ((j : Int) + 1) % (((r.map V.int).length : Nat) : Int) = (((j + 1) % r.length : Nat) : Int) := by rw [List.length_map, Int.natCast_emod]; rfl
        have hlt : (j + 1) % r.length < r.length := Nat.mod_lt _ (by omega)
        have hnew : e ∉ (rs.take i).flatten ++ r.take j := fun z => by
          rcases List.mem_append.mp z with z | z
          · exact later_new D.nd hr' he z
          · obtain ⟨j', hj'⟩ := List.mem_iff_getElem?.mp z
            obtain ⟨l1, e1⟩ := List.getElem?_eq_some_iff.mp hj'
            rw [List.length_take] at l1
            rw [List.getElem_take] at e1
            obtain ⟨l2, e2⟩ := List.getElem?_eq_some_iff.mp he
            have ndr : r.Nodup := row_nodup D.nd (List.mem_of_getElem? hr')
            have := (List.getElem_inj ndr).mp (e1.trans e2.symm)
            omega
        have hval : r.getD ((j + 1) % r.length) 0 = nextIn rs e := by
          rw [nextIn_at D.nd hr' he, List.getD_eq_getElem?_getD, List.getD_eq_getElem?_getD, List.getElem?_eq_getElem hlt]
          rfl
        refine ⟨t, _, rfl, .of upd_same, rfl, _, _, rfl, _, _, rfl, rfl, ?_⟩
        refine ⟨_, rfl, _, rfl, _, _, rfl, rfl, _, rfl, q, _, rfl, .inl (.of (s4 _ _ hH)), _, _, rfl, rfl, (by rw [List.length_map]; omega), q, _, _, _, rfl, rfl, .of (s4 _ _ hH), int_at hlt hmod, _, rfl, _, rfl, d, _, rfl, DPut.k (k := (Sum.inl e : Key)) hL4 (by rw [tab_length, List.length_append, List.length_take]; omega), _, _, rfl, s4.put hd, ?_⟩
        rw [upd_same, tab_put hnew hval, List.append_assoc, take_at he]
      · rintro σ H3 ⟨v3, v4, rfl, s3, hL3⟩
        rw [List.length_map, List.take_length] at hL3
        exact ⟨_, _, _, rfl, s3, by rw [flat_take hr']; exact hL3⟩
    · rintro σ H2 ⟨v2, v3, v4, rfl, s2, hL⟩
      rw [List.length_map, R.len, List.take_length] at hL
      exact ⟨_, rfl, k d H2 hd ⟨_, hL, by rw [tab_length, D.len], fun e he => tab_val ((D.mem e).mpr he)⟩ s2⟩
end
end Ink
namespace Ink
open PySem L2
structure Goes (g : Int → Int) (n : Nat) : Prop where
  mem : ∀ x : Int, 0 ≤ x ∧ x < n → 0 ≤ g (acr x) ∧ g (acr x) < n
  inj : ∀ x y : Int, 0 ≤ x ∧ x < n → 0 ≤ y ∧ y < n → g (acr x) = g (acr y) → x = y
  even : n % 2 = 0
theorem Dr.goes {rs : Rs} {n : Nat} (d : Dr rs n) : Goes (nextIn rs) n := ⟨fun x h => d.stp_mem h.1 h.2, fun x y hx hy h => d.stp_inj hx hy h, d.even⟩
abbrev fc (g : Int → Int) (x : Int) : Int := g (acr x)
section
variable {P : Program} {w : World} {K : PySem.W.Frag} {mg : Str → Option Value} {base : Heap}
def spFaceFrom : Sp := fun vs H Q _ => ∃ (d : Addr) (g : Int → Int) (n : Nat) (e : Int), vs = [.ref d, .int e] ∧ TabOf H d g n ∧ Goes g n ∧ n ≤ 1000 ∧ 0 ≤ e ∧ e < n ∧
  ∀ (q : Addr) (row : List Int) (H' : Hp), IsFace (fc g) e row → H q = none → H' q = some (.lst (row.map V.int)) → Same H H' → Q (.ref q) H'
theorem scFaceFrom : FnScope ["behind", "start", "face", "end"] ["behind", "start"] (defScope sFaceFrom) := ⟨rfl, rfl, rfl, by decide +kernel, rfl, by decide +kernel, by decide +kernel⟩
theorem ok_faceFrom {f : Addr} {fd : FuncData} (F : Fun K "face_from" "face_from" sFaceFrom f fd) (DA : Def P w K mg base "across" 1 ["end"] spAcross) : FnOk P w K mg base CX0 2 f fd ["behind", "start"] spFaceFrom := by
  refine F.ok scFaceFrom (fun vs H Q E h => ?_) (fun cdv A outer s H vs Q E hr h => ?_)
  · obtain ⟨d, g, n, e, rfl, _⟩ := h
    rfl
  · obtain ⟨d, g, n, e, rfl, TB, G, hn, e0, e1, k⟩ := h
    have hs : sizeLine = 16777216 := sizeLine_eq
    have nd := scFaceFrom.nd
    have hu1 := hu_of hr
    refine ⟨_, pss_cons (ps_set (i := 2) nd rfl (Or.inl rfl) (pe_lst (pa_cons (pv 1) pa_nil)))
      (pss_cons (ps_set (i := 3) nd rfl (Or.inl rfl) (pe_dget hu1 (pv 0) (pcall DA hr (pa_cons (pv 1) pa_nil)) (fun _ _ => rfl)))
      (pss_cons (ps_while PassesOwn.never (pt_cmpR op_ne (pv 3) (pv 1) (nomark _)) (pss_cons (ps_expr (pe_bm PySem.F.plainAttrs_list PySem.F.slot_list_append PySem.F.type_list_append mt_append (pv 2) (pa_cons (pv 3) pa_nil)))
      (pss_one (ps_set (i := 3) nd rfl (Or.inl rfl) (pe_dget hu1 (pv 0) (pcall DA hr (pa_cons (pv 3) pa_nil)) (fun _ _ => rfl))))))
      (pss_one (ps_ret (pv 2))))), ?_⟩
    refine ⟨_, rfl, (by show 1 ≤ sizeLine; omega), fun l hl => ?_⟩
    have s0 : Same H (L2.upd H l (.lst [.int e])) := (Same.refl H).put hl
    have a0 := acr_lt G.even e0 e1
    refine ⟨_, rfl, _, rfl, e, rfl, d, _, rfl, (TB.same s0).get a0, ?_⟩
    obtain ⟨per, hp0, hp1, hp2⟩ := go_round (f := fc g) (n := n) G.mem G.inj ⟨e0, e1⟩
    refine ⟨fun m σ H2 => ∃ j, σ = [some (.ref d), some (.int e), some (.ref l), some (.int (itr (fc g) (j + 1) e))] ∧ H2 l = some (.lst ((orb (fc g) e j).map V.int)) ∧ Same H H2 ∧ j + 1 ≤ per ∧ (∀ i, 0 < i → i ≤ j → itr (fc g) i e ≠ e) ∧ m = per - j,
      ⟨per, 0, rfl, upd_same, s0, hp0, fun i h1 h2 => absurd h1 (by omega), rfl⟩, ?_⟩
    rintro m σ H2 ⟨j, rfl, hL, s2, hj, hno, rfl⟩
    refine ⟨_, rfl, _, rfl, rfl, _, rfl, ?_⟩
    refine ite2 (fun h => ?_) (fun h => ?_)
    · have hne : itr (fc g) (j + 1) e ≠ e := by
        intro z
        rw [z] at h
        simp at h
      have hlt : j + 1 < per := by
        rcases Nat.lt_or_ge (j + 1) per with z | z
        · exact z
        · have : j + 1 = per := by omega
          rw [this] at hne
          exact absurd hp2 hne
      have s3 : Same H (L2.upd H2 l (.lst ((orb (fc g) e j).map V.int ++ [.int (itr (fc g) (j + 1) e)]))) := s2.put hl
      have hin := itr_in (f := fc g) (n := n) G.mem ⟨e0, e1⟩ (j + 1)
      refine ⟨fun σ' H' => σ' = [some (.ref d), some (.int e), some (.ref l), some (.int (itr (fc g) (j + 2) e))] ∧ H' l = some (.lst ((orb (fc g) e (j + 1)).map V.int)) ∧ Same H H',
        fun σ' H' ⟨a, b, c⟩ => ⟨per - (j + 1), by omega, j + 1, a, b, c, by omega, fun i h1 h2 => ?_, rfl⟩, ?_⟩
      · rcases Nat.lt_or_ge j i with z | z
        · have : i = j + 1 := by omega
          rw [this]; exact hne
        · exact hno i h1 z
      · refine ⟨_, rfl, .inl ⟨rfl, _, .of hL⟩, _, rfl, l, _, _, rfl, rfl, hL, (by rw [List.length_map, orb_length]; omega), ?_⟩
        refine ⟨_, rfl, _, rfl, _, rfl, d, _, rfl, (TB.same s3).get (acr_lt G.even hin.1 hin.2), rfl, ?_, s3⟩
        rw [upd_same, orb_succ, List.map_append]
        rfl
    · have heq : itr (fc g) (j + 1) e = e := by
        by_cases z : itr (fc g) (j + 1) e = e
        · exact z
        · exact absurd (by simp [z]) h
      exact ⟨_, rfl, k l _ H2 ⟨j, rfl, heq, hno⟩ hl hL s2⟩
def spRefuse : Sp := fun vs H Q _ => ∃ (p : Addr) (ps : List Addr) (rs : Rs) (n : Nat), vs = [.ref p] ∧ Rows H p ps rs ∧ Dr rs n ∧ n < 64 ∧ ∀ (H' : Hp), Same H H' → Q .non H'
theorem Dr.told {rs : Rs} {n : Nat} (d : Dr rs n) : told rs.flatten = true := by
  unfold Ink.told
  rw [d.len]
  refine decide_eq_true ⟨d.even, ?_⟩
  have hn : (upTo n).Nodup := by
    unfold upTo
    rw [List.nodup_iff_pairwise_ne, List.pairwise_map]
    exact List.Pairwise.imp (fun h => by omega) (List.pairwise_lt_range (n := n))
  refine perm_of d.nd hn (fun z => ?_)
  rw [d.mem]
  unfold upTo
  rw [List.mem_map]
  constructor
  · intro h
    exact ⟨z.toNat, List.mem_range.mpr (by omega), by omega⟩
  · rintro ⟨i, hi, rfl⟩
    have := List.mem_range.mp hi
    omega
theorem scRefuse : FnScope ["rounds"] ["rounds"] (defScope sRefuse) := ⟨rfl, rfl, rfl, by decide +kernel, rfl, by decide +kernel, by decide +kernel⟩
theorem ok_refuse {f : Addr} {fd : FuncData} (F : Fun K "refuse_no_drawing" "refuse_no_drawing" sRefuse f fd) (DI : Def P w K mg base "is_drawing" 2 ["rounds"] spIsDrawing) : FnOk P w K mg base CX0 3 f fd ["rounds"] spRefuse := by
  refine F.ok scRefuse (fun vs H Q E h => ?_) (fun cdv A outer s H vs Q E hr h => ?_)
  · obtain ⟨p, ps, rs, n, rfl, _⟩ := h
    rfl
  · obtain ⟨p, ps, rs, n, rfl, R, D, hn, k⟩ := h
    refine ⟨_, pss_one (ps_if (pt_not (pt_val (pcall DI hr (pa_cons (pv 0) pa_nil)))) (pss_never) (pss_nil)), ?_⟩
    refine ⟨_, rfl, p, ps, rs, rfl, R, by rw [D.len]; exact hn, fun H' s' => ⟨_, rfl, ?_⟩⟩
    rw [D.told]
    exact iteF (k H' s')
def spFaces : Sp := fun vs H Q _ => ∃ (p : Addr) (ps : List Addr) (rs : Rs) (n : Nat), vs = [.ref p] ∧ Rows H p ps rs ∧ Dr rs n ∧ n < 64 ∧
  ∀ (p' : Addr) (ps' : List Addr) (fs : Rs) (H' : Hp), Fcs (stp rs) n fs → Rows H' p' ps' fs → Same H H' → H p' = none → (∀ q ∈ ps', H q = none) → Q (.ref p') H'
theorem scFaces : FnScope ["rounds", "behind", "found", "seen", "start", "face", "end"] ["rounds"] (defScope sFaces) := ⟨rfl, rfl, rfl, by decide +kernel, rfl, by decide +kernel, by decide +kernel⟩
theorem ok_faces {f : Addr} {fd : FuncData} (F : Fun K "faces" "faces" sFaces f fd) (T : Txt mg) (DR : Def P w K mg base "refuse_no_drawing" 3 ["rounds"] spRefuse) (DN : Def P w K mg base "next_ends" 1 ["rounds"] spNextEnds)
    (DF : Def P w K mg base "face_from" 2 ["behind", "start"] spFaceFrom) : FnOk P w K mg base CX0 4 f fd ["rounds"] spFaces := by
  refine F.ok scFaces (fun vs H Q E h => ?_) (fun cdv A outer s H vs Q E hr h => ?_)
  · obtain ⟨p, ps, rs, n, rfl, _⟩ := h
    rfl
  · obtain ⟨p, ps, rs, n, rfl, R, D, hn, k⟩ := h
    have hs : sizeLine = 16777216 := sizeLine_eq
    have nd := scFaces.nd
    have hu1 := hu_of hr
    have hr1 : Room 1 _ := hr.mono (by decide)
    have hr2 : Room 2 _ := hr.mono (by decide)
    refine ⟨_, pss_cons (ps_expr (pcall DR hr (pa_cons (pv 0) pa_nil)))
      (pss_cons (ps_set (i := 1) nd rfl (Or.inl rfl) (pcall DN hr1 (pa_cons (pv 0) pa_nil)))
      (pss_cons (ps_set (i := 2) nd rfl (Or.inl rfl) (pe_lst pa_nil))
      (pss_cons (ps_set (i := 3) nd rfl (Or.inl rfl) pe_dnewK)
      (pss_cons (ps_for PassesOwn.never rfl (pi_range1 (by rfl) T.range (pa_cons (pe_callB call_lenD (by rfl) T.len PySem.boot_len (pa_cons (pv 1) pa_nil)) pa_nil)) (pg_name (i := 4) nd rfl (Or.inl rfl)) (pss_one (ps_if (pt_cmp (pc_dnotin hu1 (pv 4) (pv 3))) (pss_cons (ps_set (i := 5) nd rfl (Or.inl rfl) (pcall DF hr2 (pa_cons (pv 1) (pa_cons (pv 4) pa_nil))))
      (pss_cons (ps_expr (pe_bm PySem.F.plainAttrs_list PySem.F.slot_list_append PySem.F.type_list_append mt_append (pv 2) (pa_cons (pv 5) pa_nil)))
      (pss_one (ps_for PassesOwn.never rfl (pi_list (pv 5)) (pg_name (i := 6) nd rfl (Or.inl rfl)) (pss_one (ps_dput hu1 (pv 3) (pv 6) pe_bl rfl)))))) (pss_nil))))
      (pss_one (ps_ret (pv 2))))))), ?_⟩
    refine ⟨_, rfl, p, ps, rs, n, rfl, R, D, hn, fun H1 s1 => ?_⟩
    refine ⟨_, rfl, p, ps, rs, n, rfl, R.same s1, D, by omega, fun d H2 hd TB s2 => ?_⟩
    refine ⟨(by show 0 ≤ sizeLine; omega), fun l hl => ?_⟩
    intro sd hsd
    obtain ⟨nsl, hsd'⟩ := upd_none hsd
    have s12 := s1.trans s2
    have s3 : Same H2 (L2.upd (L2.upd H2 l (.lst [])) sd (.dK [])) := ((Same.refl H2).put hl).put hsd'
    have fl : H l = none := s12.free hl
    have fsd : H sd = none := s12.free hsd'
    obtain ⟨kvs, tb1, tb2, tb3⟩ := (TB.same s3).ex
    have DG := D.goes
    refine ⟨_, rfl, d, kvs, rfl, tb1, _, rfl, by omega, by omega, ?_⟩
    rw [tb2, Int.toNat_natCast]
    refine for_range (fun i σ H3 => ∃ ps' fs v4 v5 v6, σ = [some (.ref p), some (.ref d), some (.ref l), some (.ref sd), v4, v5, v6] ∧ Same H2 H3 ∧ Fcs (stp rs) i fs ∧ Rows H3 l ps' fs ∧ SeenOf H3 sd fs.flatten (i * n) ∧ ∀ q ∈ ps', H q = none ∧ H2 q = none)
      ⟨[], [], _, _, _, rfl, s3, .zero, ⟨by rw [upd_ne (Ne.symm nsl), upd_same]; rfl, List.nodup_nil, rfl, fun i q r e => by simp at e⟩, by rw [Nat.zero_mul]; exact SeenOf.new upd_same, fun q hq => by cases hq⟩ ?_ ?_
    · rintro i σ H3 hi ⟨ps', fs, v4, v5, v6, rfl, s4, hF, R3, S3, hfr⟩
      have hb := hF.bound (n := n) (fun x h => D.stp_mem h.1 h.2) (fun x y hx hy h => D.stp_inj hx hy h) (by omega)
      obtain ⟨skv, sk1, sk2, sk3⟩ := id S3.ex
      refine ⟨_, rfl, _, rfl, sd, _, rfl, DGet.k (k := (Sum.inl ((0 : Int) + (i : Int)) : Key)) sk1, _, rfl, ?_⟩
      rw [sk3, show (0 : Int) + (i : Int) = (i : Int) by omega]
      by_cases hm : (i : Int) ∈ fs.flatten
      · rw [decide_eq_true hm]
        refine iteF ⟨ps', fs, _, _, _, rfl, s4, .skip hF hm, R3, ?_, hfr⟩
        obtain ⟨a, b, c, e⟩ := S3.ex
        exact ⟨a, b, by rw [Nat.succ_mul]; omega, e⟩
      · rw [decide_eq_false hm]
        refine iteT ?_
        refine ⟨_, rfl, _, rfl, d, nextIn rs, n, (i : Int), rfl, TB.same s4, DG, by omega, by omega, by omega, fun q row H4 hface hq hL s5 => ?_⟩
        have hrl := hface.len (n := n) DG.mem DG.inj ⟨by omega, by omega⟩
        have hq2 : H2 q = none := s4.free hq
        have hqn : q ∉ ps' := mem_ne R3 hq
        have hql : q ≠ l := fun z => by rw [z, R3.out] at hq; cases hq
        have hqsd : q ≠ sd := fun z => by rw [z, sk1] at hq; cases hq
        have R4 := R3.same s5
        refine ⟨_, rfl, .inl ⟨rfl, _, .of R4.out⟩, _, rfl, l, _, _, rfl, rfl, R4.out, (by rw [List.length_map, R4.len]; omega), ?_⟩
        have R5 := R4.snoc (r := row) hL hqn hql
        have s6 : Same H2 (L2.upd H4 l (.lst (ps'.map V.ref ++ [.ref q]))) := (s4.trans s5).put hl
        have hL6 : (L2.upd H4 l (.lst (ps'.map V.ref ++ [.ref q]))) q = some (.lst (row.map V.int)) := by rw [upd_ne hql]; exact hL
        have S6 : SeenOf (L2.upd H4 l (.lst (ps'.map V.ref ++ [.ref q]))) sd fs.flatten (i * n) := by
          refine ⟨skv, ?_, sk2, sk3⟩
          rw [upd_ne nsl]
          exact s5 _ _ sk1
        refine ⟨_, rfl, q, rfl, ⟨_, .of hL6⟩, for_list (K := K) (a := q) (xs := row.map V.int) (fun j σ H7 => ∃ v6, σ = [some (.ref p), some (.ref d), some (.ref l), some (.ref sd), some (.int (i : Int)), some (.ref q), v6] ∧ (∀ c, c ≠ sd → H7 c = (L2.upd H4 l (.lst (ps'.map V.ref ++ [.ref q]))) c) ∧ SeenOf H7 sd (fs.flatten ++ row.take j) (i * n + j))
          ⟨v6, rfl, fun _ _ => rfl, by rw [List.take_zero, List.append_nil]; exact S6⟩ (fun j σ H7 _ ⟨_, _, eq, _⟩ => .of (by rw [eq q hqsd]; exact hL6)) ?_ ?_⟩
        · rintro j z σ H7 hj ⟨v6, rfl, eq, S7⟩
          obtain ⟨e, he, rfl⟩ : ∃ e, row[j]? = some e ∧ z = V.int e := by
            rw [List.getElem?_map] at hj
            cases e : row[j]? with
            | none => rw [e] at hj; cases hj
            | some t => rw [e] at hj; exact ⟨t, rfl, (Option.some.inj hj).symm⟩
          have hjl : j < row.length := (List.getElem?_eq_some_iff.mp he).1
          have hbn : i * n ≤ 64 * 64 := Nat.mul_le_mul (by omega) (by omega)
          obtain ⟨H8, dp, S8, o, rfl⟩ := S7.put (by omega) e (.bl true)
          refine ⟨_, rfl, _, rfl, sd, _, rfl, dp, _, rfl, fun c hc => by rw [upd_ne hc]; exact eq c hc, ?_⟩
          rw [List.append_assoc, ← take_at he] at S8
          exact S8
        · rintro σ H7 ⟨v6, rfl, eq, S7⟩
          rw [List.length_map, List.take_length] at S7
          have s7 : Same H2 H7 := fun c o e => by
            have hc : c ≠ sd := fun z => by rw [z, hsd'] at e; cases e
            rw [eq c hc]
            exact s6 c o e
          have eqR : ∀ c ∈ ps' ++ [q], c ≠ sd := fun c hc z => by
            rcases List.mem_append.mp hc with z' | z'
            · obtain ⟨r, _, e⟩ := R3.mem z'
              rw [z, sk1] at e
              cases e
            · have : c = q := by simpa using z'
              exact hqsd (this ▸ z)
          refine ⟨ps' ++ [q], fs ++ [row], _, _, _, rfl, s7, .add hF hm hface, ⟨by rw [eq l (Ne.symm nsl)]; exact R5.out, R5.nd, R5.len, fun a c r e1 e2 => by rw [eq c (eqR c (List.mem_of_getElem? e1))]; exact R5.row a c r e1 e2⟩, ?_, fun c hc => ?_⟩
          · obtain ⟨a, b, c, e⟩ := S7.ex
            refine ⟨a, b, by rw [Nat.succ_mul]; omega, fun z => ?_⟩
            rw [e z, List.flatten_append]
            simp
          · rcases List.mem_append.mp hc with z | z
            · exact hfr c z
            · have : c = q := by simpa using z
              subst this
              exact ⟨s12.free hq2, hq2⟩
    · rintro σ H3 ⟨ps', fs, v4, v5, v6, rfl, s4, hF, R3, S3, hfr⟩
      exact ⟨_, rfl, k l ps' fs H3 hF R3 (s12.trans s4) fl fun q hq => (hfr q hq).1⟩
end
end Ink
namespace Ink
open PySem L2
theorem pre_at {r : List Int} {k : Nat} (h : k < r.length) : atI (r.map V.int) ((k : Int) - 1) = some (V.int (r.getD (pre r.length k) 0)) := by
  have hp := pre_lt (n := r.length) (k := k) (by omega)
  have hg : (r.map V.int)[pre r.length k]? = some (V.int (r.getD (pre r.length k) 0)) := by rw [List.getElem?_map, getD_pre h]; rfl
  cases k with
  | zero =>
    rw [pre_zero h] at hg ⊢
    unfold atI ixN
    rw [if_neg (by decide), List.length_map, if_pos (by omega)]
    show (r.map V.int)[(((0 : Nat) : Int) - 1 + (r.length : Nat)).toNat]? = _
    rw [show (((0 : Nat) : Int) - 1 + (r.length : Nat)).toNat = r.length - 1 by omega]
    exact hg
  | succ k =>
    rw [pre_succ h] at hg ⊢
    rw [show (((k + 1 : Nat) : Nat) : Int) - 1 = ((k : Nat) : Int) by omega]
    exact atI_nat hg
section
variable {P : Program} {w : World} {K : PySem.W.Frag} {mg : Str → Option Value} {base : Heap}
theorem scFacesOf : FnScope ["_law_rounds", "_law_after", "_law_row", "_law_k", "_law_found", "_law_gone", "_law_end", "_law_here", "_law_one"] ["_law_rounds"] (defScope sFacesOf) := ⟨rfl, rfl, rfl, by decide +kernel, rfl, by decide +kernel, by decide +kernel⟩
theorem ok_facesOf {f : Addr} {fd : FuncData} (F : Fun K "_law_faces_of" "_law_faces_of" sFacesOf f fd) (T : Txt mg) (DA : Def P w K mg base "_law_across" 1 ["_law_end"] spAcross) : FnOk P w K mg base CX0 2 f fd ["_law_rounds"] spFaces := by
  refine F.ok scFacesOf (fun vs H Q E h => ?_) (fun cdv A outer s H vs Q E hr h => ?_)
  · obtain ⟨p, ps, rs, n, rfl, _⟩ := h
    rfl
  · obtain ⟨p, ps, rs, n, rfl, R, D, hn, k⟩ := h
    have hs : sizeLine = 16777216 := sizeLine_eq
    have nd := scFacesOf.nd
    have hu1 := hu_of hr
    have DG := D.goes
    refine ⟨_, pss_cons (ps_set (i := 1) nd rfl (Or.inl rfl) pe_dnewK)
      (pss_cons (ps_for PassesOwn.never rfl (pi_list (pv 0)) (pg_name (i := 2) nd rfl (Or.inl rfl)) (pss_one (ps_for PassesOwn.never rfl (pi_range1 (by rfl) T.range (pa_cons (pe_callB call_len_seq (by rfl) T.len PySem.boot_len (pa_cons (pv 2) pa_nil)) pa_nil)) (pg_name (i := 3) nd rfl (Or.inl rfl)) (pss_one (ps_dput hu1 (pv 1) (pe_ix ix_list (pv 2) (pe_op op_sub (pv 3) pe_int) (fun _ _ => rfl)) (pe_ix ix_list (pv 2) (pv 3) (fun _ _ => rfl)) rfl)))))
      (pss_cons (ps_set (i := 4) nd rfl (Or.inl rfl) (pe_lst pa_nil))
      (pss_cons (ps_set (i := 5) nd rfl (Or.inl rfl) pe_dnewK)
      (pss_cons (ps_for PassesOwn.never rfl (pi_range1 (by rfl) T.range (pa_cons (pe_callB call_lenD (by rfl) T.len PySem.boot_len (pa_cons (pv 1) pa_nil)) pa_nil)) (pg_name (i := 6) nd rfl (Or.inl rfl)) (pss_one (ps_if (pt_cmp (pc_dnotin hu1 (pv 6) (pv 5))) (pss_cons (ps_set (i := 2) nd rfl (Or.inl rfl) (pe_lst (pa_cons (pv 6) pa_nil)))
      (pss_cons (ps_set (i := 7) nd rfl (Or.inl rfl) (pe_dget hu1 (pv 1) (pcall DA hr (pa_cons (pv 6) pa_nil)) (fun _ _ => rfl)))
      (pss_cons (ps_while PassesOwn.never (pt_cmpR op_ne (pv 7) (pv 6) (nomark _)) (pss_cons (ps_expr (pe_bm PySem.F.plainAttrs_list PySem.F.slot_list_append PySem.F.type_list_append mt_append (pv 2) (pa_cons (pv 7) pa_nil)))
      (pss_one (ps_set (i := 7) nd rfl (Or.inl rfl) (pe_dget hu1 (pv 1) (pcall DA hr (pa_cons (pv 7) pa_nil)) (fun _ _ => rfl))))))
      (pss_cons (ps_for PassesOwn.never rfl (pi_list (pv 2)) (pg_name (i := 8) nd rfl (Or.inl rfl)) (pss_one (ps_dput hu1 (pv 5) (pv 8) pe_bl rfl)))
      (pss_one (ps_expr (pe_bm PySem.F.plainAttrs_list PySem.F.slot_list_append PySem.F.type_list_append mt_append (pv 4) (pa_cons (pv 2) pa_nil)))))))) (pss_nil))))
      (pss_one (ps_ret (pv 4))))))), ?_⟩
    intro d hd
    have s0 : Same H (L2.upd H d (.dK [])) := (Same.refl H).put hd
    dsimp only [gName]
    with_reducible refine seq_via (fun σ' H' => ∃ v2 v3, σ' = [some (.ref p), some (.ref d), v2, v3, none, none, none, none, none] ∧ Same H H' ∧ TabOf H' d (nextIn rs) n) ?_ (fun Kn hK => ?_)
    rotate_left
    · refine ⟨_, rfl, p, rfl, ⟨_, .of (s0 _ _ R.out)⟩, for_list (K := K) (a := p) (xs := ps.map V.ref) (fun i σ H2 => ∃ v2 v3, σ = [some (.ref p), some (.ref d), v2, v3, none, none, none, none, none] ∧ Same H H2 ∧ H2 d = some (.dK (tab (nextIn rs) (rots rs i)))) ⟨none, none, rfl, s0, upd_same⟩
        (fun i σ H2 _ ⟨_, _, _, s2, _⟩ => .of (s2 _ _ R.out)) ?_ ?_⟩
      · rintro i y σ H2 hi ⟨v2, v3, rfl, s2, hL⟩
        obtain ⟨q, hq, rfl⟩ := ref_at hi
        obtain ⟨r, hr', hH⟩ := R.at hq
        have hrow : r.length ≤ n := row_le D (List.mem_of_getElem? hr')
        have ndr : r.Nodup := row_nodup D.nd (List.mem_of_getElem? hr')
        refine ⟨_, rfl, q, _, rfl, .inl (.of (s2 _ _ hH)), _, rfl, by rw [List.length_map]; omega, by rw [List.length_map]; omega, ?_⟩
        rw [List.length_map, Int.toNat_natCast]
        refine for_range (fun j σ H3 => ∃ v3, σ = [some (.ref p), some (.ref d), some (.ref q), v3, none, none, none, none, none] ∧ Same H H3 ∧ H3 d = some (.dK (tab (nextIn rs) (rots rs i ++ rot r j)))) ⟨v3, rfl, s2, by rw [show rot r 0 = [] from rfl, List.append_nil]; exact hL⟩ ?_ ?_
        · rintro j σ H3 hj ⟨v3, rfl, s3, hL3⟩
          have hH3 := s3 _ _ hH
          have hg := getD_pre hj
          have hnew : r.getD (pre r.length j) 0 ∉ rots rs i ++ rot r j := fun z => by
            rcases List.mem_append.mp z with z | z
            · exact later_new D.nd hr' hg (rots_mem _ z)
            · exact rot_new ndr hj z
          have hval : r.getD j 0 = nextIn rs (r.getD (pre r.length j) 0) := by
            rw [nextIn_at D.nd hr' hg, pre_next hj, List.getD_eq_getElem?_getD, List.getD_eq_getElem?_getD, List.getElem?_eq_getElem hj]
            rfl
          have hpa := pre_at hj
          rw [show ((j : Int) - 1) = 0 + (j : Int) - 1 by omega] at hpa
          refine ⟨_, rfl, _, rfl, q, _, _, _, rfl, rfl, .of hH3, int_at (i := j) hj (by omega), _, rfl, _, rfl, _, rfl, _, _, rfl, rfl, q, _, _, _, rfl, rfl, .of hH3, hpa, d, _, rfl, DPut.k (k := (Sum.inl (r.getD (pre r.length j) 0) : Key)) hL3 ?_, _, rfl, s3.put hd, ?_⟩
          · have h1 : (rots rs i).length ≤ n := by
              have h2 := rots_length (rs.take i)
              have h3 : rots (rs.take i) (rs.take i).length = rots rs i := by
                unfold rots
                rw [List.take_length]
              rw [h3] at h2
              have h4 := flat_take_le rs i
              rw [D.len] at h4
              omega
            rw [tab_length, List.length_append, rot_length]
            omega
          · rw [upd_same, tab_put hnew hval, List.append_assoc, ← rot_succ]
        · rintro σ H3 ⟨v3, rfl, s3, hL3⟩
          exact ⟨_, _, rfl, s3, by rw [rots_succ hr']; exact hL3⟩
      · rintro σ H2 ⟨v2, v3, rfl, s2, hL⟩
        rw [List.length_map, R.len] at hL
        exact hK _ _ ⟨_, _, rfl, s2, ⟨_, hL, by rw [tab_length, rots_length, D.len], fun e he => tab_val (rots_all e ((D.mem e).mpr he))⟩⟩
    · rintro σ H2 ⟨v2, v3, rfl, s2, TB⟩
      refine ⟨(by show 0 ≤ sizeLine; omega), fun l hl => ?_⟩
      intro sd hsd
      obtain ⟨nsl, hsd'⟩ := upd_none hsd
      have s3 : Same H2 (L2.upd (L2.upd H2 l (.lst [])) sd (.dK [])) := ((Same.refl H2).put hl).put hsd'
      have fl : H l = none := s2.free hl
      have fsd : H sd = none := s2.free hsd'
      obtain ⟨kvs, tb1, tb2, tb3⟩ := (TB.same s3).ex
      refine ⟨_, rfl, d, kvs, rfl, tb1, _, rfl, by omega, by omega, ?_⟩
      rw [tb2, Int.toNat_natCast]
      refine for_range (fun i σ H3 => ∃ ps' fs w2 w3 v6 v7 v8, σ = [some (.ref p), some (.ref d), w2, w3, some (.ref l), some (.ref sd), v6, v7, v8] ∧ Same H2 H3 ∧ Fcs (stp rs) i fs ∧ Rows H3 l ps' fs ∧ SeenOf H3 sd fs.flatten (i * n) ∧ ∀ q ∈ ps', H2 q = none)
        ⟨[], [], _, _, _, _, _, rfl, s3, .zero, ⟨by rw [upd_ne (Ne.symm nsl), upd_same]; rfl, List.nodup_nil, rfl, fun i q r e => by simp at e⟩, by rw [Nat.zero_mul]; exact SeenOf.new upd_same, fun q hq => by cases hq⟩ ?_ ?_
      · rintro i σ H3 hi ⟨ps', fs, w2, w3, v6, v7, v8, rfl, s4, hF, R3, S3, hfr⟩
        have hb := hF.bound (n := n) (fun x h => D.stp_mem h.1 h.2) (fun x y hx hy h => D.stp_inj hx hy h) (by omega)
        obtain ⟨skv, sk1, sk2, sk3⟩ := id S3.ex
        refine ⟨_, rfl, _, rfl, sd, _, rfl, DGet.k (k := (Sum.inl ((0 : Int) + (i : Int)) : Key)) sk1, _, rfl, ?_⟩
        rw [sk3, show (0 : Int) + (i : Int) = (i : Int) by omega]
        by_cases hm : (i : Int) ∈ fs.flatten
        · rw [decide_eq_true hm]
          refine iteF ⟨ps', fs, _, _, _, _, _, rfl, s4, .skip hF hm, R3, ?_, hfr⟩
          obtain ⟨a, b, c, e⟩ := S3.ex
          exact ⟨a, b, by rw [Nat.succ_mul]; omega, e⟩
        · rw [decide_eq_false hm]
          refine iteT ?_
          -- row = [end]; here = after[across(end)]
          have e0 : (0 : Int) ≤ (i : Int) := by omega
          have e1 : (i : Int) < (n : Int) := by omega
          refine ⟨_, rfl, (by show 1 ≤ sizeLine; omega), fun q hq => ?_⟩
          have t0 : Same H3 (L2.upd H3 q (.lst [.int (i : Int)])) := (Same.refl H3).put hq
          refine ⟨_, rfl, _, rfl, (i : Int), rfl, d, _, rfl, (TB.same (s4.trans t0)).get (acr_lt D.even e0 e1), ?_⟩
          dsimp only [gName]
          with_reducible refine seq_via (fun σ' H' => ∃ row v7, σ' = [some (.ref p), some (.ref d), some (.ref q), w3, some (.ref l), some (.ref sd), some (.int (i : Int)), v7, v8] ∧ IsFace (fc (nextIn rs)) (i : Int) row ∧ H' q = some (.lst (row.map V.int)) ∧ Same H3 H') ?_ (fun Kn hK => ?_)
          rotate_left
          · obtain ⟨per, hp0, hp1, hp2⟩ := go_round (f := fc (nextIn rs)) (n := n) DG.mem DG.inj ⟨e0, e1⟩
            refine ⟨fun m σ H5 => ∃ j, σ = [some (.ref p), some (.ref d), some (.ref q), w3, some (.ref l), some (.ref sd), some (.int (i : Int)), some (.int (itr (fc (nextIn rs)) (j + 1) (i : Int))), v8] ∧ H5 q = some (.lst ((orb (fc (nextIn rs)) (i : Int) j).map V.int)) ∧ Same H3 H5 ∧ j + 1 ≤ per ∧ (∀ a, 0 < a → a ≤ j → itr (fc (nextIn rs)) a (i : Int) ≠ (i : Int)) ∧ m = per - j,
              ⟨per, 0, rfl, upd_same, t0, hp0, fun i h1 h2 => absurd h1 (by omega), rfl⟩, ?_⟩
            rintro m σ H5 ⟨j, rfl, hL, t5, hj, hno, rfl⟩
            refine ⟨_, rfl, _, rfl, rfl, _, rfl, ?_⟩
            refine ite2 (fun h => ?_) (fun h => ?_)
            · have hne : itr (fc (nextIn rs)) (j + 1) (i : Int) ≠ (i : Int) := by
                intro z
                rw [z] at h
                simp at h
              have hlt : j + 1 < per := by
                rcases Nat.lt_or_ge (j + 1) per with z | z
                · exact z
                · have : j + 1 = per := by omega
                  rw [this] at hne
                  exact absurd hp2 hne
              have t6 : Same H3 (L2.upd H5 q (.lst ((orb (fc (nextIn rs)) (i : Int) j).map V.int ++ [.int (itr (fc (nextIn rs)) (j + 1) (i : Int))]))) := t5.put hq
              have hin := itr_in (f := fc (nextIn rs)) (n := n) DG.mem ⟨e0, e1⟩ (j + 1)
              refine ⟨fun σ' H' => σ' = [some (.ref p), some (.ref d), some (.ref q), w3, some (.ref l), some (.ref sd), some (.int (i : Int)), some (.int (itr (fc (nextIn rs)) (j + 2) (i : Int))), v8] ∧ H' q = some (.lst ((orb (fc (nextIn rs)) (i : Int) (j + 1)).map V.int)) ∧ Same H3 H',
                fun σ' H' ⟨a, b, c⟩ => ⟨per - (j + 1), by omega, j + 1, a, b, c, by omega, fun a h1 h2 => ?_, rfl⟩, ?_⟩
              · rcases Nat.lt_or_ge j a with z | z
                · have : a = j + 1 := by omega
                  rw [this]; exact hne
                · exact hno a h1 z
              · refine ⟨_, rfl, .inl ⟨rfl, _, .of hL⟩, _, rfl, q, _, _, rfl, rfl, hL, (by rw [List.length_map, orb_length]; omega), ?_⟩
                refine ⟨_, rfl, _, rfl, _, rfl, d, _, rfl, (TB.same (s4.trans t6)).get (acr_lt D.even hin.1 hin.2), rfl, ?_, t6⟩
                rw [upd_same, orb_succ, List.map_append]
                rfl
            · have heq : itr (fc (nextIn rs)) (j + 1) (i : Int) = (i : Int) := by
                by_cases z : itr (fc (nextIn rs)) (j + 1) (i : Int) = (i : Int)
                · exact z
                · exact absurd (by simp [z]) h
              exact hK _ _ ⟨_, _, rfl, ⟨j, rfl, heq, hno⟩, hL, t5⟩
          · rintro σ' H4 ⟨row, w7, rfl, hface, hL, s5⟩
            have hrl := hface.len (n := n) DG.mem DG.inj ⟨e0, e1⟩
            have hq2 : H2 q = none := s4.free hq
            have hqn : q ∉ ps' := mem_ne R3 hq
            have hql : q ≠ l := fun z => by rw [z, R3.out] at hq; cases hq
            have hqsd : q ≠ sd := fun z => by rw [z, sk1] at hq; cases hq
            have R4 := R3.same s5
            have S4 : SeenOf H4 sd fs.flatten (i * n) := ⟨skv, s5 _ _ sk1, sk2, sk3⟩
            refine ⟨_, rfl, q, rfl, ⟨_, .of hL⟩, for_list (K := K) (a := q) (xs := row.map V.int) (fun j σ H7 => ∃ v8, σ = [some (.ref p), some (.ref d), some (.ref q), w3, some (.ref l), some (.ref sd), some (.int (i : Int)), w7, v8] ∧ (∀ c, c ≠ sd → H7 c = H4 c) ∧ SeenOf H7 sd (fs.flatten ++ row.take j) (i * n + j))
              ⟨v8, rfl, fun _ _ => rfl, by rw [List.take_zero, List.append_nil]; exact S4⟩ (fun j σ H7 _ ⟨_, _, eq, _⟩ => .of (by rw [eq q hqsd]; exact hL)) ?_ ?_⟩
            · rintro j z σ H7 hj ⟨v8, rfl, eq, S7⟩
              obtain ⟨e, he, rfl⟩ : ∃ e, row[j]? = some e ∧ z = V.int e := by
                rw [List.getElem?_map] at hj
                cases e : row[j]? with
                | none => rw [e] at hj; cases hj
                | some t => rw [e] at hj; exact ⟨t, rfl, (Option.some.inj hj).symm⟩
              have hjl : j < row.length := (List.getElem?_eq_some_iff.mp he).1
              have hbn : i * n ≤ 64 * 64 := Nat.mul_le_mul (by omega) (by omega)
              obtain ⟨H8, dp, S8, o, rfl⟩ := S7.put (by omega) e (.bl true)
              refine ⟨_, rfl, _, rfl, sd, _, rfl, dp, _, rfl, fun c hc => by rw [upd_ne hc]; exact eq c hc, ?_⟩
              rw [List.append_assoc, ← take_at he] at S8
              exact S8
            · rintro σ H7 ⟨v8, rfl, eq, S7⟩
              rw [List.length_map, List.take_length] at S7
              have eqR : ∀ c ∈ ps', c ≠ sd := fun c hc z => by
                obtain ⟨r, _, e⟩ := R3.mem hc
                rw [z, sk1] at e
                cases e
              have R7 : Rows H7 l ps' fs := ⟨by rw [eq l (Ne.symm nsl)]; exact R4.out, R4.nd, R4.len, fun a c r e1 e2 => by rw [eq c (eqR c (List.mem_of_getElem? e1))]; exact R4.row a c r e1 e2⟩
              have hL7 : H7 q = some (.lst (row.map V.int)) := by rw [eq q hqsd]; exact hL
              have s7 : Same H2 H7 := fun c o e => by
                have hc : c ≠ sd := fun z => by rw [z, hsd'] at e; cases e
                rw [eq c hc]
                exact (s4.trans s5) c o e
              refine ⟨_, rfl, .inl ⟨rfl, _, .of R7.out⟩, _, rfl, l, _, _, rfl, rfl, R7.out, (by rw [List.length_map, R7.len]; omega), ?_⟩
              refine ⟨ps' ++ [q], fs ++ [row], _, _, _, _, _, rfl, s7.put hl, .add hF hm hface, R7.snoc (r := row) hL7 hqn hql, ?_, fun c hc => ?_⟩
              · obtain ⟨a, b, c, e⟩ := S7.ex
                refine ⟨a, by rw [upd_ne nsl]; exact b, by rw [Nat.succ_mul]; omega, fun z => ?_⟩
                rw [e z, List.flatten_append]
                simp
              · rcases List.mem_append.mp hc with z | z
                · exact hfr c z
                · have : c = q := by simpa using z
                  subst this
                  exact hq2
      · rintro σ H3 ⟨ps', fs, w2, w3, v6, v7, v8, rfl, s4, hF, R3, S3, hfr⟩
        exact ⟨_, rfl, k l ps' fs H3 hF R3 (s2.trans s4) fl fun q hq => s2.free (hfr q hq)⟩
end
end Ink
namespace Ink
open PySem L2
structure DnB (any : Prop) (H H2 : Hp) (p : Addr) (ps : List Addr) (rs : Rs) (n : Nat) : Prop where
  made : Made any rs n ∨ (n = 0 ∧ ∃ m, m ≤ 3 ∧ rs = List.replicate m [])
  rows : Rows H2 p ps rs
  same : Same H H2
  fp : H p = none
  fr : ∀ q ∈ ps, H q = none
section
variable {P : Program} {w : World} {K : PySem.W.Frag} {mg : Str → Option Value} {base : Heap}
end
end Ink
namespace Ink
open PySem L2
def ptI (rs : Rs) (e : Int) : Int := (pt rs e : Int)
def spPointsOf : Sp := fun vs H Q _ => ∃ (p : Addr) (ps : List Addr) (rs : Rs) (n : Nat), vs = [.ref p] ∧ Rows H p ps rs ∧ Dr rs n ∧ n ≤ 1000 ∧ rs.length ≤ 1000 ∧
  ∀ (d : Addr) (H' : Hp), H d = none → TabOf H' d (ptI rs) n → Same H H' → Q (.ref d) H'
theorem take_new {rs : Rs} {i j : Nat} {r : List Int} {e : Int} (nd : rs.flatten.Nodup) (hr' : rs[i]? = some r) (he : r[j]? = some e) : e ∉ (rs.take i).flatten ++ r.take j := fun z => by
  rcases List.mem_append.mp z with z | z
  · exact later_new nd hr' he z
  · obtain ⟨j', hj'⟩ := List.mem_iff_getElem?.mp z
    obtain ⟨l1, e1⟩ := List.getElem?_eq_some_iff.mp hj'
    rw [List.length_take] at l1
    rw [List.getElem_take] at e1
    obtain ⟨l2, e2⟩ := List.getElem?_eq_some_iff.mp he
    have ndr : r.Nodup := row_nodup nd (List.mem_of_getElem? hr')
    have := (List.getElem_inj ndr).mp (e1.trans e2.symm)
    omega
theorem int_of {r : List Int} {j : Nat} {z : V} (hj : (r.map V.int)[j]? = some z) : ∃ e, r[j]? = some e ∧ z = V.int e := by
  rw [List.getElem?_map] at hj
  cases e : r[j]? with
  | none => rw [e] at hj; cases hj
  | some t => rw [e] at hj; exact ⟨t, rfl, (Option.some.inj hj).symm⟩
section
variable {P : Program} {w : World} {K : PySem.W.Frag} {mg : Str → Option Value} {base : Heap}
theorem scPointsOf : FnScope ["rounds", "point_of", "point", "ends", "end"] ["rounds"] (defScope sPointsOf) := ⟨rfl, rfl, rfl, by decide +kernel, rfl, by decide +kernel, by decide +kernel⟩
theorem ok_pointsOf {f : Addr} {fd : FuncData} (F : Fun K "points_of_ends" "points_of_ends" sPointsOf f fd) (T : Txt mg) : FnOk P w K mg base CX0 1 f fd ["rounds"] spPointsOf := by
  refine F.ok scPointsOf (fun vs H Q E h => ?_) (fun cdv A outer s H vs Q E hr h => ?_)
  · obtain ⟨p, ps, rs, n, rfl, _⟩ := h
    rfl
  · obtain ⟨p, ps, rs, n, rfl, R, D, hn, hrs, k⟩ := h
    have hs : sizeLine = 16777216 := sizeLine_eq
    have nd := scPointsOf.nd
    have hu1 := hu_of hr
    refine ⟨_, pss_cons (ps_set (i := 1) nd rfl (Or.inl rfl) pe_dnewK)
      (pss_cons (ps_for PassesOwn.never rfl (pi_enum (by rfl) T.enum (pa_cons (pv 0) pa_nil)) (pg_tup rfl (pgs_cons (pg_name (i := 2) nd rfl (Or.inl rfl)) (pgs_cons (pg_name (i := 3) nd rfl (Or.inl rfl)) pgs_nil))) (pss_one (ps_for PassesOwn.never rfl (pi_list (pv 3)) (pg_name (i := 4) nd rfl (Or.inl rfl)) (pss_one (ps_dput hu1 (pv 1) (pv 4) (pv 2) rfl)))))
      (pss_one (ps_ret (pv 1)))), ?_⟩
    intro d hd
    have s0 : Same H (L2.upd H d (.dK [])) := (Same.refl H).put hd
    refine ⟨_, rfl, p, rfl, ⟨_, .of (s0 _ _ R.out)⟩, for_enum (K := K) (a := p) (xs := ps.map V.ref) (fun i σ H2 => ∃ v2 v3 v4, σ = [some (.ref p), some (.ref d), v2, v3, v4] ∧ Same H H2 ∧ H2 d = some (.dK (tab (ptI rs) (rs.take i).flatten))) ⟨none, none, none, rfl, s0, upd_same⟩
      (fun i σ H2 _ ⟨_, _, _, _, s2, _⟩ => .of (s2 _ _ R.out)) ?_ ?_⟩
    · rintro i y σ H2 t hi ⟨v2, v3, v4, rfl, s2, hL⟩ ht
      obtain ⟨q, hq, rfl⟩ := ref_at hi
      obtain ⟨r, hr', hH⟩ := R.at hq
      have hrow : r.length ≤ n := row_le D (List.mem_of_getElem? hr')
      have hfl := flat_take_le rs i
      rw [D.len] at hfl
      have f2 := s2.free ht
      have s3 : Same H (L2.upd H2 t (.tup [.int (i : Int), .ref q])) := s2.put f2
      have hL3 : (L2.upd H2 t (.tup [.int (i : Int), .ref q])) d = some (.dK (tab (ptI rs) (rs.take i).flatten)) := by rw [upd_ne (ne_of_none hL ht)]; exact hL
      refine ⟨t, _, rfl, .of upd_same, rfl, _, _, rfl, _, _, rfl, rfl, ?_⟩
      refine ⟨_, rfl, q, rfl, ⟨_, .of (s3 _ _ hH)⟩, for_list (K := K) (a := q) (xs := r.map V.int) (fun j σ H3 => ∃ v4, σ = [some (.ref p), some (.ref d), some (.int (i : Int)), some (.ref q), v4] ∧ Same H H3 ∧ H3 d = some (.dK (tab (ptI rs) ((rs.take i).flatten ++ r.take j)))) ⟨v4, rfl, s3, by rw [List.take_zero, List.append_nil]; exact hL3⟩
        (fun j σ H3 _ ⟨_, _, s4, _⟩ => .of (s4 _ _ hH)) ?_ ?_⟩
      · rintro j z σ H3 hj ⟨v4, rfl, s4, hL4⟩
        obtain ⟨e, he, rfl⟩ := int_of hj
        have hjl : j < r.length := (List.getElem?_eq_some_iff.mp he).1
        have hval : (i : Int) = ptI rs e := by unfold ptI; rw [pt_uniq D.nd hr' (List.mem_of_getElem? he)]
        refine ⟨_, rfl, _, rfl, _, rfl, d, _, rfl, DPut.k (k := (Sum.inl e : Key)) hL4 (by rw [tab_length, List.length_append, List.length_take]; omega), _, rfl, s4.put hd, ?_⟩
        rw [upd_same, tab_put (take_new D.nd hr' he) hval, List.append_assoc, take_at he]
      · rintro σ H3 ⟨v4, rfl, s4, hL4⟩
        rw [List.length_map, List.take_length] at hL4
        exact ⟨_, _, _, rfl, s4, by rw [flat_take hr']; exact hL4⟩
    · rintro σ H2 ⟨v2, v3, v4, rfl, s2, hL⟩
      rw [List.length_map, R.len, List.take_length] at hL
      exact ⟨_, rfl, k d H2 hd ⟨_, hL, by rw [tab_length, D.len], fun e he => tab_val ((D.mem e).mpr he)⟩ s2⟩
theorem scPointL : FnScope ["_law_rounds", "_law_point_at", "_law_k", "_law_end"] ["_law_rounds"] (defScope sPointL) := ⟨rfl, rfl, rfl, by decide +kernel, rfl, by decide +kernel, by decide +kernel⟩
theorem ok_pointL {f : Addr} {fd : FuncData} (F : Fun K "_law_point_of" "_law_point_of" sPointL f fd) (T : Txt mg) : FnOk P w K mg base CX0 1 f fd ["_law_rounds"] spPointsOf := by
  refine F.ok scPointL (fun vs H Q E h => ?_) (fun cdv A outer s H vs Q E hr h => ?_)
  · obtain ⟨p, ps, rs, n, rfl, _⟩ := h
    rfl
  · obtain ⟨p, ps, rs, n, rfl, R, D, hn, hrs, k⟩ := h
    have hs : sizeLine = 16777216 := sizeLine_eq
    have nd := scPointL.nd
    have hu1 := hu_of hr
    refine ⟨_, pss_cons (ps_set (i := 1) nd rfl (Or.inl rfl) pe_dnewK)
      (pss_cons (ps_for PassesOwn.never rfl (pi_range1 (by rfl) T.range (pa_cons (pe_callB call_len_seq (by rfl) T.len PySem.boot_len (pa_cons (pv 0) pa_nil)) pa_nil)) (pg_name (i := 2) nd rfl (Or.inl rfl)) (pss_one (ps_for PassesOwn.never rfl (pi_list (pe_ix ix_list (pv 0) (pv 2) (fun _ _ => rfl))) (pg_name (i := 3) nd rfl (Or.inl rfl)) (pss_one (ps_dput hu1 (pv 1) (pv 3) (pv 2) rfl)))))
      (pss_one (ps_ret (pv 1)))), ?_⟩
    intro d hd
    have s0 : Same H (L2.upd H d (.dK [])) := (Same.refl H).put hd
    refine ⟨_, rfl, p, _, rfl, .inl (.of (s0 _ _ R.out)), _, rfl, by omega, (by rw [List.length_map, R.len]; omega), ?_⟩
    rw [Int.toNat_natCast, List.length_map, R.len]
    refine for_range (fun i σ H2 => ∃ v2 v3, σ = [some (.ref p), some (.ref d), v2, v3] ∧ Same H H2 ∧ H2 d = some (.dK (tab (ptI rs) (rs.take i).flatten))) ⟨none, none, rfl, s0, upd_same⟩ ?_ ?_
    · rintro i σ H2 hi ⟨v2, v3, rfl, s2, hL⟩
      rw [show (0 : Int) + (i : Int) = (i : Int) by omega]
      have hr' : rs[i]? = some (rs[i]) := List.getElem?_eq_getElem hi
      obtain ⟨q, hq, hH⟩ := R.get hr'
      generalize rs[i] = r at hr' hH
      have hrow : r.length ≤ n := row_le D (List.mem_of_getElem? hr')
      have hfl := flat_take_le rs i
      rw [D.len] at hfl
      refine ⟨_, rfl, _, rfl, p, _, _, _, rfl, rfl, .of (s2 _ _ R.out), atI_nat (by rw [List.getElem?_map, hq]; rfl), q, rfl, ⟨_, .of (s2 _ _ hH)⟩, for_list (K := K) (a := q) (xs := r.map V.int) (fun j σ H3 => ∃ v3, σ = [some (.ref p), some (.ref d), some (.int (i : Int)), v3] ∧ Same H H3 ∧ H3 d = some (.dK (tab (ptI rs) ((rs.take i).flatten ++ r.take j)))) ⟨v3, rfl, s2, by rw [List.take_zero, List.append_nil]; exact hL⟩
        (fun j σ H3 _ ⟨_, _, s4, _⟩ => .of (s4 _ _ hH)) ?_ ?_⟩
      · rintro j z σ H3 hj ⟨v4, rfl, s4, hL4⟩
        obtain ⟨e, he, rfl⟩ := int_of hj
        have hjl : j < r.length := (List.getElem?_eq_some_iff.mp he).1
        have hval : (i : Int) = ptI rs e := by unfold ptI; rw [pt_uniq D.nd hr' (List.mem_of_getElem? he)]
        refine ⟨_, rfl, _, rfl, _, rfl, d, _, rfl, DPut.k (k := (Sum.inl e : Key)) hL4 (by rw [tab_length, List.length_append, List.length_take]; omega), _, rfl, s4.put hd, ?_⟩
        rw [upd_same, tab_put (take_new D.nd hr' he) hval, List.append_assoc, take_at he]
      · rintro σ H3 ⟨v4, rfl, s4, hL4⟩
        rw [List.length_map, List.take_length] at hL4
        exact ⟨_, _, rfl, s4, by rw [flat_take hr']; exact hL4⟩
    · rintro σ H2 ⟨v2, v3, rfl, s2, hL⟩
      rw [List.take_length] at hL
      exact ⟨_, rfl, k d H2 hd ⟨_, hL, by rw [tab_length, D.len], fun e he => tab_val ((D.mem e).mpr he)⟩ s2⟩
end
end Ink
namespace Ink
open PySem L2
def tabT (l : List Int) : List (Key × V) := l.map fun e => ((Sum.inl e : Key), V.bl true)
theorem tabT_val : ∀ (l : List Int) (e : Int), (valV (tabT l) (Sum.inl e : Key)).isSome = decide (e ∈ l)
  | [], e => by simp [tabT, valV_nil]
  | x :: l, e => by
    by_cases hx : x = e
    · subst hx
      have : valV (tabT (x :: l)) (Sum.inl x : Key) = some (V.bl true) := valV_pos (p := ((Sum.inl x : Key), V.bl true)) rfl
      rw [this]
      simp
    · have : valV (tabT (x :: l)) (Sum.inl e : Key) = valV (tabT l) (Sum.inl e : Key) := valV_neg (p := ((Sum.inl x : Key), V.bl true)) fun z => hx (Sum.inl.inj z)
      rw [this, tabT_val l e, Bool.eq_iff_iff]
      simp [Ne.symm hx]
theorem tabT_put {l : List Int} {e : Int} (h : e ∉ l) : putK (tabT l) (Sum.inl e : Key) (V.bl true) = tabT (l ++ [e]) := by
  have hn : valV (tabT l) (Sum.inl e : Key) = none := by
    have := tabT_val l e
    rw [decide_eq_false h] at this
    exact Option.isSome_eq_false_iff.mp this |> Option.isNone_iff_eq_none.mp
  rw [putK_new _ hn]
  unfold tabT
  rw [List.map_append]
  rfl
theorem tabT_length (l : List Int) : (tabT l).length = l.length := List.length_map _
theorem tabT_keys (l : List Int) : (tabT l).map (·.1) = l.map Sum.inl := by unfold tabT; rw [List.map_map]; rfl
structure PcInv (rs : Rs) (n : Nat) (start : Nat) (fl wl : List Int) : Prop where
  nd : fl.Nodup
  st : (start : Int) ∈ fl
  cl : ∀ z ∈ fl, (0 ≤ z ∧ z < (rs.length : Int)) ∧ lab rs n z.toNat = lab rs n start
  sub : ∀ z ∈ wl, z ∈ fl
def Cl (rs : Rs) (fl : List Int) (z : Int) : Prop := ∀ r e, rs[z.toNat]? = some r → e ∈ r → ptI rs (acr e) ∈ fl
theorem PcInv.all {rs : Rs} {n start : Nat} {fl wl : List Int} (d : Dr rs n) (hst : start < rs.length) (i : PcInv rs n start fl wl) (h : ∀ z ∈ fl, Cl rs fl z) : fl.Perm (cls (lab rs n) rs.length start) := by
  refine perm_of i.nd (pairwise_lt_nodup (cls_sorted _ _ _)) fun z => ?_
  rw [cls_mem]
  constructor
  · intro hz; exact i.cl z hz
  · rintro ⟨h1, h2⟩
    have key := heads_closed (prs_below d) (fun k => ((k : Nat) : Int) ∈ fl) (fun p hp => ?_) z.toNat start (by omega) hst h2
    · have := key.mpr i.st
      rw [show ((z.toNat : Nat) : Int) = z by omega] at this
      exact this
    · obtain ⟨k, hk, rfl⟩ := List.mem_map.mp hp
      have hk' := List.mem_range.mp hk
      have b0 : 0 ≤ 2 * (k : Int) ∧ 2 * (k : Int) < n := by omega
      have b1 : 0 ≤ 2 * (k : Int) + 1 ∧ 2 * (k : Int) + 1 < n := by omega
      obtain ⟨r0, hr0, m0⟩ := row_of d b0
      obtain ⟨r1, hr1, m1⟩ := row_of d b1
      have a0 : acr (2 * (k : Int)) = 2 * (k : Int) + 1 := by unfold acr; omega
      have a1 : acr (2 * (k : Int) + 1) = 2 * (k : Int) := by unfold acr; omega
      constructor
      · intro hz
        have := h _ hz r0 _ (by simpa using hr0) m0
        rw [a0] at this
        exact this
      · intro hz
        have := h _ hz r1 _ (by simpa using hr1) m1
        rw [a1] at this
        exact this
theorem lab_near {rs : Rs} {n : Nat} (d : Dr rs n) {x : Int} {r : List Int} {e : Int} (hr : rs[x.toNat]? = some r) (he : e ∈ r) : lab rs n (pt rs (acr e)) = lab rs n x.toNat := by
  have hm : e ∈ rs.flatten := List.mem_flatten.mpr ⟨r, List.mem_of_getElem? hr, he⟩
  rw [lab_acr d ((d.mem e).mp hm), pt_uniq d.nd hr he]
def spPieceFrom : Sp := fun vs H Q _ => ∃ (p d : Addr) (ps : List Addr) (rs : Rs) (n start : Nat), vs = [.ref p, .ref d, .int start] ∧ Rows H p ps rs ∧ Dr rs n ∧ rs.length < 64 ∧ TabOf H d (ptI rs) n ∧ start < rs.length ∧
  ∀ (l : Addr) (H' : Hp), H l = none → H' l = some (.lst ((cls (lab rs n) rs.length start).map V.int)) → Same H H' → Q (.ref l) H'
section
variable {P : Program} {w : World} {K : PySem.W.Frag} {mg : Str → Option Value} {base : Heap}
theorem scPieceFrom : FnScope ["rounds", "point_of", "start", "found", "waiting", "point", "end", "other"] ["rounds", "point_of", "start"] (defScope sPieceFrom) := ⟨rfl, rfl, rfl, by decide +kernel, rfl, by decide +kernel, by decide +kernel⟩
theorem ok_pieceFrom {f : Addr} {fd : FuncData} (F : Fun K "piece_from" "piece_from" sPieceFrom f fd) (T : Txt mg) (DA : Def P w K mg base "across" 1 ["end"] spAcross) : FnOk P w K mg base CX0 2 f fd ["rounds", "point_of", "start"] spPieceFrom := by
  refine F.ok scPieceFrom (fun vs H Q E h => ?_) (fun cdv A outer s H vs Q E hr h => ?_)
  · obtain ⟨p, d, ps, rs, n, start, rfl, _⟩ := h
    rfl
  · obtain ⟨p, d, ps, rs, n, start, rfl, R, D, hrs, TB, hst, k⟩ := h
    have hs : sizeLine = 16777216 := sizeLine_eq
    have nd := scPieceFrom.nd
    have hu1 := hu_of hr
    refine ⟨_, pss_cons (ps_set (i := 3) nd rfl (Or.inl rfl) (pe_disp (pps_cons (pv 2) pe_bl pps_nil) rfl rfl (by simp) (by decide)))
      (pss_cons (ps_set (i := 4) nd rfl (Or.inl rfl) (pe_lst (pa_cons (pv 2) pa_nil)))
      (pss_cons (ps_while PassesOwn.never (pt_truth (pv 4) (fun _ => rfl)) (pss_cons (ps_set (i := 5) nd rfl (Or.inl rfl) (pe_bm0 PySem.F.plainAttrs_list PySem.F.slot_list_pop PySem.F.type_list_pop mt_pop (pv 4)))
      (pss_one (ps_for PassesOwn.never rfl (pi_list (pe_ix ix_list (pv 0) (pv 5) (fun _ _ => rfl))) (pg_name (i := 6) nd rfl (Or.inl rfl)) (pss_cons (ps_set (i := 7) nd rfl (Or.inl rfl) (pe_dget hu1 (pv 1) (pcall DA hr (pa_cons (pv 6) pa_nil)) (fun _ _ => rfl)))
      (pss_one (ps_if (pt_cmp (pc_dnotin hu1 (pv 7) (pv 3))) (pss_cons (ps_dput hu1 (pv 3) (pv 7) pe_bl rfl)
      (pss_one (ps_expr (pe_bm PySem.F.plainAttrs_list PySem.F.slot_list_append PySem.F.type_list_append mt_append (pv 4) (pa_cons (pv 7) pa_nil))))) (pss_nil))))))))
      (pss_one (ps_ret (pe_callB (call_sortedD rfl) (by rfl) T.sorted PyProof.Rows.boot_sorted (pa_cons (pv 3) pa_nil)))))), ?_⟩
    intro q hq
    refine ⟨_, rfl, upd_same, [((Sum.inl (start : Int) : Key), V.bl true)], rfl, (by show 1 ≤ 15; decide), ?_⟩
    have e0 : mergeK [] [((Sum.inl (start : Int) : Key), V.bl true)] = tabT [(start : Int)] := rfl
    rw [e0]
    have s0 : Same H (L2.upd (L2.upd H q (.dK [])) q (.dK (tabT [(start : Int)]))) := ((Same.refl H).put hq).put hq
    refine ⟨_, rfl, (by show 1 ≤ sizeLine; omega), fun t ht => ?_⟩
    have hqt : q ≠ t := fun z => by rw [← z, upd_same] at ht; cases ht
    have ft : H t = none := s0.free ht
    have s1 : Same H (L2.upd (L2.upd (L2.upd H q (.dK [])) q (.dK (tabT [(start : Int)]))) t (.lst [.int start])) := s0.put ft
    have hq1 : (L2.upd (L2.upd (L2.upd H q (.dK [])) q (.dK (tabT [(start : Int)]))) t (.lst [.int start])) q = some (.dK (tabT [(start : Int)])) := by rw [upd_ne hqt, upd_same]
    refine ⟨fun m σ H2 => ∃ fl wl v5 v6 v7, σ = [some (.ref p), some (.ref d), some (.int start), some (.ref q), some (.ref t), v5, v6, v7] ∧ Same H H2 ∧ H2 q = some (.dK (tabT fl)) ∧ H2 t = some (.lst (wl.map V.int)) ∧ PcInv rs n start fl wl ∧ (∀ z ∈ fl, z ∉ wl → Cl rs fl z) ∧ m + 2 * fl.length = 2 * rs.length + wl.length ∧ m ≤ 2 * rs.length,
      ⟨2 * rs.length - 1, [(start : Int)], [(start : Int)], none, none, none, rfl, s1, hq1, upd_same, ⟨by simp, by simp, fun z hz => ?_, fun z hz => hz⟩, fun z hz hn => absurd hz hn, by simp; omega, by omega⟩, ?_⟩
    · have : z = start := by simpa using hz
      subst this
      exact ⟨by omega, by simp⟩
    rintro m σ H2 ⟨fl, wl, v5, v6, v7, rfl, s2, hF, hW, I2, hCl, hm, hmm⟩
    refine ⟨_, rfl, _, .inl ⟨_, .of hW, rfl⟩, ?_⟩
    have hfl : fl.length ≤ rs.length := nodup_le _ _ I2.nd fun z hz => (I2.cl z hz).1
    refine ite2 (fun h => ?_) (fun h => ?_)
    · have hne : wl ≠ [] := by
        rintro rfl
        simp at h
      obtain ⟨wl0, x, rfl⟩ : ∃ w0 x, wl = w0 ++ [x] := ⟨wl.dropLast, wl.getLast hne, (List.dropLast_concat_getLast hne).symm⟩
      have hxf : x ∈ fl := I2.sub x (by simp)
      have hxb := (I2.cl x hxf).1
      obtain ⟨r, hr'⟩ : ∃ r, rs[x.toNat]? = some r := ⟨_, List.getElem?_eq_getElem (by omega)⟩
      obtain ⟨rq, hrq, hH⟩ := R.get hr'
      have hrl : r.length ≤ n := row_le D (List.mem_of_getElem? hr')
      refine ⟨fun σ' H' => ∃ fl' wl' v5 v6 v7, σ' = [some (.ref p), some (.ref d), some (.int start), some (.ref q), some (.ref t), v5, v6, v7] ∧ Same H H' ∧ H' q = some (.dK (tabT fl')) ∧ H' t = some (.lst (wl'.map V.int)) ∧ PcInv rs n start fl' wl' ∧ (∀ z ∈ fl', z ∉ wl' → Cl rs fl' z) ∧ 2 * rs.length + wl'.length + 1 ≤ m + 2 * fl'.length,
        fun σ' H' ⟨fl', wl', w5, w6, w7, a1, a2, a3, a4, a5, a6, a7⟩ => ?_, ?_⟩
      · have hfl' : fl'.length ≤ rs.length := nodup_le _ _ a5.nd fun z hz => (a5.cl z hz).1
        exact ⟨2 * rs.length + wl'.length - 2 * fl'.length, by omega, fl', wl', w5, w6, w7, a1, a2, a3, a4, a5, a6, by omega, by omega⟩
      · have hqt2 : (L2.upd H2 t (.lst ((wl0.map V.int)))) q = some (.dK (tabT fl)) := by rw [upd_ne hqt]; exact hF
        have s3 : Same H (L2.upd H2 t (.lst (wl0.map V.int))) := s2.put ft
        have hdl : ((wl0 ++ [x]).map V.int).dropLast = wl0.map V.int := by rw [List.map_append]; simp
        refine ⟨_, rfl, .inl ⟨rfl, _, .of hW⟩, t, _, .int x, rfl, rfl, hW, by simp, ?_⟩
        rw [hdl]
        refine ⟨_, rfl, _, rfl, p, _, _, _, rfl, rfl, .of (s3 _ _ R.out), ?_, rq, rfl, ⟨_, .of (s3 _ _ hH)⟩, for_list (K := K) (a := rq) (xs := r.map V.int) (fun j σ H3 => ∃ fl' wl' v6 v7, σ = [some (.ref p), some (.ref d), some (.int start), some (.ref q), some (.ref t), some (.int x), v6, v7] ∧ Same H H3 ∧ H3 q = some (.dK (tabT fl')) ∧ H3 t = some (.lst (wl'.map V.int)) ∧ PcInv rs n start fl' wl' ∧ (∀ z ∈ fl', z ∉ wl' → z = x ∨ Cl rs fl' z) ∧ (∀ e ∈ r.take j, ptI rs (acr e) ∈ fl') ∧ 2 * rs.length + wl'.length + 1 ≤ m + 2 * fl'.length)
          ⟨fl, wl0, v6, v7, rfl, s3, hqt2, upd_same, ⟨I2.nd, I2.st, I2.cl, fun z hz => I2.sub z (by simp [hz])⟩, fun z hz hn => ?_, (fun e he => by simp at he), ?_⟩ (fun j σ H3 _ ⟨_, _, _, _, _, s4, _⟩ => .of (s4 _ _ hH)) ?_ ?_⟩
        · have hx0 : x = ((x.toNat : Nat) : Int) := by omega
          rw [hx0]
          exact atI_nat (by rw [List.getElem?_map, hrq]; rfl)
        · by_cases hzx : z = x
          · exact .inl hzx
          · exact .inr (hCl z hz (by simp [hn, hzx]))
        · rw [List.length_append] at hm
          simp at hm
          omega
        · rintro j z σ H3 hj ⟨fl', wl', v6, v7, rfl, s4, hF4, hW4, I4, hC4, hT4, hm4⟩
          obtain ⟨e, he, rfl⟩ := int_of hj
          have her : e ∈ r := List.mem_of_getElem? he
          have heb := (D.mem e).mp (List.mem_flatten.mpr ⟨r, List.mem_of_getElem? hr', her⟩)
          have hab := acr_lt D.even heb.1 heb.2
          have hpl : pt rs (acr e) < rs.length := pt_lt ((D.mem _).mpr hab)
          have hfl4 : fl'.length ≤ rs.length := nodup_le _ _ I4.nd fun z hz => (I4.cl z hz).1
          refine ⟨_, rfl, _, rfl, e, rfl, d, _, rfl, (TB.same s4).get hab, ?_⟩
          refine ⟨_, rfl, _, rfl, q, _, rfl, DGet.k (k := (Sum.inl (ptI rs (acr e)) : Key)) hF4, _, rfl, ?_⟩
          rw [tabT_val]
          by_cases hmem : ptI rs (acr e) ∈ fl'
          · rw [decide_eq_true hmem]
            refine iteF ⟨fl', wl', _, _, rfl, s4, hF4, hW4, I4, hC4, fun y hy => ?_, hm4⟩
            rw [take_at he] at hy
            rcases List.mem_append.mp hy with hy | hy
            · exact hT4 y hy
            · have : y = e := by simpa using hy
              rw [this]; exact hmem
          · rw [decide_eq_false hmem]
            refine iteT ?_
            have hlt : fl'.length < rs.length := by
              rcases Nat.lt_or_ge fl'.length rs.length with z | z
              · exact z
              · exfalso
                have := nodup_le rs.length (ptI rs (acr e) :: fl') (List.nodup_cons.mpr ⟨hmem, I4.nd⟩) fun y hy => by
                  rcases List.mem_cons.mp hy with hy | hy
                  · rw [hy]; unfold ptI; omega
                  · exact (I4.cl y hy).1
                rw [List.length_cons] at this
                omega
            refine ⟨_, rfl, _, rfl, q, _, rfl, DPut.k (k := (Sum.inl (ptI rs (acr e)) : Key)) hF4 (by rw [tabT_length]; omega), ?_⟩
            have hW5 : (L2.upd H3 q (.dK (putK (tabT fl') (Sum.inl (ptI rs (acr e)) : Key) (.bl true)))) t = some (.lst (wl'.map V.int)) := by rw [upd_ne (Ne.symm hqt)]; exact hW4
            have hwl : wl'.length < 1000 := by omega
            refine ⟨_, rfl, .inl ⟨rfl, _, .of hW5⟩, _, rfl, t, _, _, rfl, rfl, hW5, by rw [List.length_map]; omega, ?_⟩
            refine ⟨fl' ++ [ptI rs (acr e)], wl' ++ [ptI rs (acr e)], _, _, rfl, (s4.put hq).put ft, ?_, ?_, ⟨?_, by simp [I4.st], fun y hy => ?_, fun y hy => ?_⟩, fun y hy hn => ?_, fun y hy => ?_, ?_⟩
            · rw [upd_ne hqt, upd_same, tabT_put hmem]
            · rw [upd_same, List.map_append]; rfl
            · refine List.nodup_append.mpr ⟨I4.nd, by simp, fun a ha b hb z => ?_⟩
              have : b = ptI rs (acr e) := by simpa using hb
              exact hmem (by rw [← this, ← z]; exact ha)
            · rcases List.mem_append.mp hy with hy | hy
              · exact I4.cl y hy
              · have : y = ptI rs (acr e) := by simpa using hy
                rw [this]
                refine ⟨by unfold ptI; omega, ?_⟩
                unfold ptI
                rw [Int.toNat_natCast, lab_near D hr' her]
                exact (I2.cl x hxf).2
            · rcases List.mem_append.mp hy with hy | hy
              · simp [I4.sub y hy]
              · have : y = ptI rs (acr e) := by simpa using hy
                simp [this]
            · rcases List.mem_append.mp hy with hy | hy
              · rcases hC4 y hy (fun q => hn (by simp [q])) with h1 | h1
                · exact .inl h1
                · exact .inr fun r' e' a b => by simp [h1 r' e' a b]
              · exact absurd (by simpa using hy : y = ptI rs (acr e)) fun q => hn (by simp [q])
            · rw [take_at he] at hy
              rcases List.mem_append.mp hy with hy | hy
              · simp [hT4 y hy]
              · have : y = e := by simpa using hy
                simp [this]
            · rw [List.length_append, List.length_append]
              simp
              omega
        · rintro σ H3 ⟨fl', wl', v6, v7, rfl, s4, hF4, hW4, I4, hC4, hT4, hm4⟩
          rw [List.length_map, List.take_length] at hT4
          refine ⟨fl', wl', _, _, _, rfl, s4, hF4, hW4, I4, fun z hz hn => ?_, hm4⟩
          rcases hC4 z hz hn with h1 | h1
          · subst h1
            intro r' e' a b
            rw [hr'] at a
            cases a
            exact hT4 e' b
          · exact h1
    · have hw0 : wl = [] := by
        cases wl with
        | nil => rfl
        | cons a b => exact absurd rfl h
      subst hw0
      have hperm := I2.all D hst fun z hz => hCl z hz (by simp)
      refine ⟨_, rfl, q, _, fl, rfl, hF, tabT_keys fl, by omega, fun l ns' hl hp hsd => ?_⟩
      have e : ns' = cls (lab rs n) rs.length start := sorted_same (hp.trans hperm) hsd ((cls_sorted _ _ _).imp fun h => by omega)
      rw [e]
      exact k l _ (s2.free hl) upd_same (s2.put (s2.free hl))
end
end Ink
namespace Ink
open PySem L2
def spPieces : Sp := fun vs H Q _ => ∃ (p : Addr) (ps : List Addr) (rs : Rs) (n : Nat), vs = [.ref p] ∧ Rows H p ps rs ∧ Dr rs n ∧ n < 64 ∧ rs.length < 64 ∧
  ∀ (p' : Addr) (ps' : List Addr) (gs : Rs) (H' : Hp), Grp (lab rs n) rs.length rs.length gs → Rows H' p' ps' gs → Same H H' → H p' = none → (∀ q ∈ ps', H q = none) → Q (.ref p') H'
theorem cls_len (lb : Nat → Int) (m i : Nat) : (cls lb m i).length ≤ m := sub_len_le (cls_sorted _ _ _) fun z hz => (cls_mem.mp hz).1
section
variable {P : Program} {w : World} {K : PySem.W.Frag} {mg : Str → Option Value} {base : Heap}
theorem scPieces : FnScope ["rounds", "point_of", "told", "seen", "start", "piece", "point"] ["rounds"] (defScope sPieces) := ⟨rfl, rfl, rfl, by decide +kernel, rfl, by decide +kernel, by decide +kernel⟩
theorem ok_pieces {f : Addr} {fd : FuncData} (F : Fun K "pieces" "pieces" sPieces f fd) (T : Txt mg) (DR : Def P w K mg base "refuse_no_drawing" 3 ["rounds"] spRefuse) (DN : Def P w K mg base "points_of_ends" 1 ["rounds"] spPointsOf)
    (DF : Def P w K mg base "piece_from" 2 ["rounds", "point_of", "start"] spPieceFrom) : FnOk P w K mg base CX0 4 f fd ["rounds"] spPieces := by
  refine F.ok scPieces (fun vs H Q E h => ?_) (fun cdv A outer s H vs Q E hr h => ?_)
  · obtain ⟨p, ps, rs, n, rfl, _⟩ := h
    rfl
  · obtain ⟨p, ps, rs, n, rfl, R, D, hn, hrs, k⟩ := h
    have hs : sizeLine = 16777216 := sizeLine_eq
    have nd := scPieces.nd
    have hu1 := hu_of hr
    have hr1 : Room 1 _ := hr.mono (by decide)
    have hr2 : Room 2 _ := hr.mono (by decide)
    refine ⟨_, pss_cons (ps_expr (pcall DR hr (pa_cons (pv 0) pa_nil)))
      (pss_cons (ps_set (i := 1) nd rfl (Or.inl rfl) (pcall DN hr1 (pa_cons (pv 0) pa_nil)))
      (pss_cons (ps_set (i := 2) nd rfl (Or.inl rfl) (pe_lst pa_nil))
      (pss_cons (ps_set (i := 3) nd rfl (Or.inl rfl) pe_dnewK)
      (pss_cons (ps_for PassesOwn.never rfl (pi_range1 (by rfl) T.range (pa_cons (pe_callB call_len_seq (by rfl) T.len PySem.boot_len (pa_cons (pv 0) pa_nil)) pa_nil)) (pg_name (i := 4) nd rfl (Or.inl rfl)) (pss_one (ps_if (pt_cmp (pc_dnotin hu1 (pv 4) (pv 3))) (pss_cons (ps_set (i := 5) nd rfl (Or.inl rfl) (pcall DF hr2 (pa_cons (pv 0) (pa_cons (pv 1) (pa_cons (pv 4) pa_nil)))))
      (pss_cons (ps_expr (pe_bm PySem.F.plainAttrs_list PySem.F.slot_list_append PySem.F.type_list_append mt_append (pv 2) (pa_cons (pv 5) pa_nil)))
      (pss_one (ps_for PassesOwn.never rfl (pi_list (pv 5)) (pg_name (i := 6) nd rfl (Or.inl rfl)) (pss_one (ps_dput hu1 (pv 3) (pv 6) pe_bl rfl)))))) (pss_nil))))
      (pss_one (ps_ret (pv 2))))))), ?_⟩
    refine ⟨_, rfl, p, ps, rs, n, rfl, R, D, hn, fun H1 s1 => ?_⟩
    refine ⟨_, rfl, p, ps, rs, n, rfl, R.same s1, D, by omega, by omega, fun d H2 hd TB s2 => ?_⟩
    refine ⟨(by show 0 ≤ sizeLine; omega), fun l hl => ?_⟩
    intro sd hsd
    obtain ⟨nsl, hsd'⟩ := upd_none hsd
    have s12 := s1.trans s2
    have s3 : Same H2 (L2.upd (L2.upd H2 l (.lst [])) sd (.dK [])) := ((Same.refl H2).put hl).put hsd'
    have fl : H l = none := s12.free hl
    have fsd : H sd = none := s12.free hsd'
    have R2 := R.same s12
    refine ⟨_, rfl, p, _, rfl, .inl (.of (R2.same s3).out), _, rfl, by omega, (by rw [List.length_map, R.len]; omega), ?_⟩
    rw [Int.toNat_natCast, List.length_map, R.len]
    refine for_range (fun i σ H3 => ∃ ps' fs v4 v5 v6, σ = [some (.ref p), some (.ref d), some (.ref l), some (.ref sd), v4, v5, v6] ∧ Same H2 H3 ∧ Grp (lab rs n) rs.length i fs ∧ Rows H3 l ps' fs ∧ SeenOf H3 sd fs.flatten (i * 64) ∧ ∀ q ∈ ps', H q = none ∧ H2 q = none)
      ⟨[], [], _, _, _, rfl, s3, .zero, ⟨by rw [upd_ne (Ne.symm nsl), upd_same]; rfl, List.nodup_nil, rfl, fun i q r e => by simp at e⟩, by rw [Nat.zero_mul]; exact SeenOf.new upd_same, fun q hq => by cases hq⟩ ?_ ?_
    · rintro i σ H3 hi ⟨ps', fs, v4, v5, v6, rfl, s4, hF, R3, S3, hfr⟩
      have hb := hF.le
      obtain ⟨skv, sk1, sk2, sk3⟩ := id S3.ex
      refine ⟨_, rfl, _, rfl, sd, _, rfl, DGet.k (k := (Sum.inl ((0 : Int) + (i : Int)) : Key)) sk1, _, rfl, ?_⟩
      rw [sk3, show (0 : Int) + (i : Int) = (i : Int) by omega]
      by_cases hm : (i : Int) ∈ fs.flatten
      · rw [decide_eq_true hm]
        refine iteF ⟨ps', fs, _, _, _, rfl, s4, .skip hF hm, R3, ?_, hfr⟩
        obtain ⟨a, b, c, e⟩ := S3.ex
        exact ⟨a, b, by rw [Nat.succ_mul]; omega, e⟩
      · rw [decide_eq_false hm]
        refine iteT ?_
        refine ⟨_, rfl, _, rfl, _, rfl, p, d, ps, rs, n, i, rfl, R2.same s4, D, hrs, TB.same s4, hi, fun q H4 hq hL s5 => ?_⟩
        have hrl := cls_len (lab rs n) rs.length i
        have hq2 : H2 q = none := s4.free hq
        have hqn : q ∉ ps' := mem_ne R3 hq
        have hql : q ≠ l := fun z => by rw [z, R3.out] at hq; cases hq
        have hqsd : q ≠ sd := fun z => by rw [z, sk1] at hq; cases hq
        have R4 := R3.same s5
        refine ⟨_, rfl, .inl ⟨rfl, _, .of R4.out⟩, _, rfl, l, _, _, rfl, rfl, R4.out, (by rw [List.length_map, R4.len]; omega), ?_⟩
        have R5 := R4.snoc (r := cls (lab rs n) rs.length i) hL hqn hql
        have s6 : Same H2 (L2.upd H4 l (.lst (ps'.map V.ref ++ [.ref q]))) := (s4.trans s5).put hl
        have hL6 : (L2.upd H4 l (.lst (ps'.map V.ref ++ [.ref q]))) q = some (.lst ((cls (lab rs n) rs.length i).map V.int)) := by rw [upd_ne hql]; exact hL
        have S6 : SeenOf (L2.upd H4 l (.lst (ps'.map V.ref ++ [.ref q]))) sd fs.flatten (i * 64) := by
          refine ⟨skv, ?_, sk2, sk3⟩
          rw [upd_ne nsl]
          exact s5 _ _ sk1
        refine ⟨_, rfl, q, rfl, ⟨_, .of hL6⟩, for_list (K := K) (a := q) (xs := (cls (lab rs n) rs.length i).map V.int) (fun j σ H7 => ∃ v6, σ = [some (.ref p), some (.ref d), some (.ref l), some (.ref sd), some (.int (i : Int)), some (.ref q), v6] ∧ (∀ c, c ≠ sd → H7 c = (L2.upd H4 l (.lst (ps'.map V.ref ++ [.ref q]))) c) ∧ SeenOf H7 sd (fs.flatten ++ (cls (lab rs n) rs.length i).take j) (i * 64 + j))
          ⟨v6, rfl, fun _ _ => rfl, by rw [List.take_zero, List.append_nil]; exact S6⟩ (fun j σ H7 _ ⟨_, _, eq, _⟩ => .of (by rw [eq q hqsd]; exact hL6)) ?_ ?_⟩
        · rintro j z σ H7 hj ⟨v6, rfl, eq, S7⟩
          obtain ⟨e, he, rfl⟩ := int_of hj
          have hjl : j < (cls (lab rs n) rs.length i).length := (List.getElem?_eq_some_iff.mp he).1
          obtain ⟨H8, dp, S8, o, rfl⟩ := S7.put (by omega) e (.bl true)
          refine ⟨_, rfl, _, rfl, sd, _, rfl, dp, _, rfl, fun c hc => by rw [upd_ne hc]; exact eq c hc, ?_⟩
          rw [List.append_assoc, ← take_at he] at S8
          exact S8
        · rintro σ H7 ⟨v6, rfl, eq, S7⟩
          rw [List.length_map, List.take_length] at S7
          have s7 : Same H2 H7 := fun c o e => by
            have hc : c ≠ sd := fun z => by rw [z, hsd'] at e; cases e
            rw [eq c hc]
            exact s6 c o e
          have eqR : ∀ c ∈ ps' ++ [q], c ≠ sd := fun c hc z => by
            rcases List.mem_append.mp hc with z' | z'
            · obtain ⟨r, _, e⟩ := R3.mem z'
              rw [z, sk1] at e
              cases e
            · have : c = q := by simpa using z'
              exact hqsd (this ▸ z)
          refine ⟨ps' ++ [q], fs ++ [cls (lab rs n) rs.length i], _, _, _, rfl, s7, .add hF hm, ⟨by rw [eq l (Ne.symm nsl)]; exact R5.out, R5.nd, R5.len, fun a c r e1 e2 => by rw [eq c (eqR c (List.mem_of_getElem? e1))]; exact R5.row a c r e1 e2⟩, ?_, fun c hc => ?_⟩
          · obtain ⟨a, b, c, e⟩ := S7.ex
            refine ⟨a, b, by rw [Nat.succ_mul]; omega, fun z => ?_⟩
            rw [e z, List.flatten_append]
            simp
          · rcases List.mem_append.mp hc with z | z
            · exact hfr c z
            · have : c = q := by simpa using z
              subst this
              exact ⟨s12.free hq2, hq2⟩
    · rintro σ H3 ⟨ps', fs, v4, v5, v6, rfl, s4, hF, R3, S3, hfr⟩
      exact ⟨_, rfl, k l ps' fs H3 hF R3 (s12.trans s4) fl fun q hq => (hfr q hq).1⟩
def spRopes : Sp := fun vs H Q _ => ∃ (p : Addr) (ps : List Addr) (rs : Rs) (n : Nat), vs = [.ref p] ∧ Rows H p ps rs ∧ Dr rs n ∧ rs.length ≤ 1000 ∧ ∀ H', Same H H' → Q (.int ((n / 2 : Nat) : Int)) H'
theorem scRopes : FnScope ["rounds"] ["rounds"] (defScope sRopes) := ⟨rfl, rfl, rfl, by decide +kernel, rfl, by decide +kernel, by decide +kernel⟩
theorem lens_sum : ∀ rs : Rs, (rs.map fun r => (r.length : Int)).sum = (rs.flatten.length : Int)
  | [] => rfl
  | r :: rs => by rw [List.map_cons, List.sum_cons, lens_sum rs, List.flatten_cons, List.length_append]; omega
theorem ok_ropes {f : Addr} {fd : FuncData} (F : Fun K "how_many_ropes" "how_many_ropes" sRopes f fd) (T : Txt mg) : FnOk P w K mg base CX0 1 f fd ["rounds"] spRopes := by
  refine F.ok scRopes (fun vs H Q E h => ?_) (fun cdv A outer s H vs Q E hr h => ?_)
  · obtain ⟨p, ps, rs, n, rfl, _⟩ := h
    rfl
  · obtain ⟨p, ps, rs, n, rfl, R, D, hrs, k⟩ := h
    refine ⟨_, pss_one (ps_ret (pe_op op_fdiv (pe_callB (call_sum rfl) (by rfl) T.sum PyProof.Rows.boot_sum (pa_cons (pe_comp (te := tLen K 0) rfl (Blk.plain rfl (by decide +kernel) (by decide +kernel)) (pi_list (pv 0)) (fun _ _ _ _ => pts_nil) (fun _ _ _ _ => (pe_callB call_len_seq (by rfl) T.len PySem.boot_len (pa_cons (pv 0) pa_nil)))) pa_nil)) pe_int)), ?_⟩
    refine ⟨_, rfl, p, rfl, ⟨_, .of R.out⟩, fun D' hD => lens_comp R hD (by omega) fun H' s' hd => ?_⟩
    refine ⟨D', rs.map fun r => (r.length : Int), rfl, .of (by rw [hd, List.map_map]; rfl), _, _, rfl, rfl, ⟨by decide, by decide⟩, ?_⟩
    have e : (rs.map fun r => (r.length : Int)).sum / 2 = ((n / 2 : Nat) : Int) := by rw [lens_sum, D.len]; omega
    show Q (V.int ((rs.map fun r => (r.length : Int)).sum / 2)) H'
    rw [e]
    exact k H' s'
end
end Ink
namespace Ink
open PySem L2
theorem aln_take {rs : Rs} {i : Nat} {r : List Int} (h : rs[i]? = some r) : aln (rs.take (i + 1)) = aln (rs.take i) + if r = [] then 1 else 0 := by
  rw [take_at h, aln_append]
  congr 1
  unfold aln
  rw [List.filter_cons]
  split
  · rename_i e; rw [if_pos (of_decide_eq_true e)]; rfl
  · rename_i e; rw [if_neg fun z => e (decide_eq_true z)]; rfl
def hnd (rs : Rs) (n F C : Nat) : Int := (2 * (C : Int) - (rs.length : Int) + ((n / 2 : Nat) : Int) - (F : Int)) / 2
def spManyFaces : Sp := fun vs H Q _ => ∃ (p : Addr) (ps : List Addr) (rs : Rs) (n : Nat), vs = [.ref p] ∧ Rows H p ps rs ∧ Dr rs n ∧ n < 64 ∧ rs.length < 64 ∧
  ∀ (fs : Rs) (H' : Hp), Fcs (stp rs) n fs → Same H H' → Q (.int ((fs.length + aln rs : Nat) : Int)) H'
def spBuilt : Sp := fun vs H Q _ => ∃ (p : Addr) (ps : List Addr) (rs : Rs) (n : Nat), vs = [.ref p] ∧ Rows H p ps rs ∧ Dr rs n ∧ n < 64 ∧ rs.length < 64 ∧
  ∀ (fs gs : Rs) (t : Addr) (H' : Hp), Fcs (stp rs) n fs → Grp (lab rs n) rs.length rs.length gs → H t = none → H' t = some (.tup [.int (gs.length : Nat), .int ((fs.length + aln rs : Nat) : Int), .int (hnd rs n (fs.length + aln rs) gs.length)]) → Same H H' → Q (.ref t) H'
section
variable {P : Program} {w : World} {K : PySem.W.Frag} {mg : Str → Option Value} {base : Heap}
theorem scManyFaces : FnScope ["rounds", "alone"] ["rounds"] (defScope sManyFaces) := ⟨rfl, rfl, rfl, by decide +kernel, rfl, by decide +kernel, by decide +kernel⟩
theorem ok_manyFaces {f : Addr} {fd : FuncData} (F : Fun K "how_many_faces" "how_many_faces" sManyFaces f fd) (T : Txt mg) (DG : Def P w K mg base "faces" 4 ["rounds"] spFaces) : FnOk P w K mg base CX0 5 f fd ["rounds"] spManyFaces := by
  refine F.ok scManyFaces (fun vs H Q E h => ?_) (fun cdv A outer s H vs Q E hr h => ?_)
  · obtain ⟨p, ps, rs, n, rfl, _⟩ := h
    rfl
  · obtain ⟨p, ps, rs, n, rfl, R, D, hn, hrs, k⟩ := h
    have hs : sizeLine = 16777216 := sizeLine_eq
    have nd := scManyFaces.nd
    refine ⟨_, pss_cons (ps_setComp (i0 := 1) (tc := tTest (tOp rEq (tLen K 0) (tC (.int 0)))) (te := tVar 0) nd rfl (Or.inl rfl) rfl (fun _ => Blk.plain rfl (by decide +kernel) (by decide +kernel)) (pi_list (pv 0)) (fun _ _ _ _ => pts_one (pt_cmpR op_eq (pe_callB call_len_seq (by rfl) T.len PySem.boot_len (pa_cons (pv 0) pa_nil)) pe_int (nomark _))) (fun _ _ _ _ => pv 0))
      (pss_one (ps_ret (pe_op op_add (pe_callB call_len_seq (by rfl) T.len PySem.boot_len (pa_cons (pcall DG hr (pa_cons (pv 0) pa_nil)) pa_nil)) (pe_callB call_len_seq (by rfl) T.len PySem.boot_len (pa_cons (pv 1) pa_nil))))), ?_⟩
    refine ⟨_, rfl, p, rfl, ⟨_, .of R.out⟩, fun d hd => comp_list (xs := ps.map V.ref) (fun i H2 => ∃ qs : List Addr, Same H H2 ∧ H2 d = some (.lst (qs.map V.ref)) ∧ qs.length = aln (rs.take i) ∧ qs.length ≤ i) ⟨[], (Same.refl H).put hd, upd_same, rfl, Nat.zero_le _⟩ (fun i H2 _ ⟨_, s2, _⟩ => .of (s2 _ _ R.out)) ?_ ?_⟩
    · rintro i y H2 hi ⟨qs, s2, hL, hl, hli⟩
      obtain ⟨q, hq, rfl⟩ := ref_at hi
      obtain ⟨r, hr', hH⟩ := R.at hq
      have hir : i < rs.length := (List.getElem?_eq_some_iff.mp hr').1
      have hal := aln_take hr'
      refine ⟨_, rfl, q, _, rfl, .inl (.of (s2 _ _ hH)), rfl, _, rfl, ?_⟩
      refine ite2 (fun h => ?_) (fun h => ?_)
      · have h' := of_decide_eq_true h
        injection h' with h'
        have hr0 : r = [] := by
          cases r with
          | nil => rfl
          | cons a b => rw [List.length_map, List.length_cons] at h'; omega
        rw [if_pos hr0] at hal
        refine ⟨_, rfl, qs.map V.ref, hL, by rw [List.length_map]; omega, qs ++ [q], s2.put hd, by rw [upd_same, List.map_append]; rfl, by rw [List.length_append, hl, hal]; rfl, by rw [List.length_append]; show qs.length + 1 ≤ _; omega⟩
      · have hr0 : r ≠ [] := fun z => h (by rw [z]; rfl)
        rw [if_neg hr0] at hal
        exact ⟨qs, s2, hL, by omega, by omega⟩
    · rintro H2 ⟨qs, s2, hL, hl, _⟩
      rw [List.length_map, R.len, List.take_length] at hl
      refine ⟨_, rfl, p, ps, rs, n, rfl, R.same s2, D, hn, fun p' ps' fs H3 hF R3 s3 _ _ => ?_⟩
      refine ⟨p', _, rfl, .inl (.of R3.out), _, rfl, d, _, rfl, .inl (.of (s3 _ _ hL)), _, _, rfl, rfl, ?_⟩
      have e : ((ps'.map V.ref).length : Int) + ((qs.map V.ref).length : Int) = ((fs.length + aln rs : Nat) : Int) := by rw [List.length_map, List.length_map, R3.len, hl]; omega
      show Q (V.int (((ps'.map V.ref).length : Int) + ((qs.map V.ref).length : Int))) H3
      rw [e]
      exact k fs H3 hF (s2.trans s3)
theorem scBuilt : FnScope ["rounds", "piece_count", "face_count", "doubled"] ["rounds"] (defScope sBuilt) := ⟨rfl, rfl, rfl, by decide +kernel, rfl, by decide +kernel, by decide +kernel⟩
theorem ok_built {f : Addr} {fd : FuncData} (F : Fun K "built" "built" sBuilt f fd) (T : Txt mg) (DP : Def P w K mg base "pieces" 4 ["rounds"] spPieces) (DM : Def P w K mg base "how_many_faces" 5 ["rounds"] spManyFaces) (DR : Def P w K mg base "how_many_ropes" 1 ["rounds"] spRopes) : FnOk P w K mg base CX0 6 f fd ["rounds"] spBuilt := by
  refine F.ok scBuilt (fun vs H Q E h => ?_) (fun cdv A outer s H vs Q E hr h => ?_)
  · obtain ⟨p, ps, rs, n, rfl, _⟩ := h
    rfl
  · obtain ⟨p, ps, rs, n, rfl, R, D, hn, hrs, k⟩ := h
    have hs : sizeLine = 16777216 := sizeLine_eq
    have nd := scBuilt.nd
    have hr1 : Room 1 _ := hr.mono (by decide)
    have hr4 : Room 4 _ := hr.mono (by decide)
    refine ⟨_, pss_cons (ps_set (i := 1) nd rfl (Or.inl rfl) (pe_callB call_len_seq (by rfl) T.len PySem.boot_len (pa_cons (pcall DP hr4 (pa_cons (pv 0) pa_nil)) pa_nil)))
      (pss_cons (ps_set (i := 2) nd rfl (Or.inl rfl) (pcall DM hr (pa_cons (pv 0) pa_nil)))
      (pss_cons (ps_set (i := 3) nd rfl (Or.inl rfl) (pe_op op_sub (pe_op op_add (pe_op op_sub (pe_op op_mul pe_int (pv 1)) (pe_callB call_len_seq (by rfl) T.len PySem.boot_len (pa_cons (pv 0) pa_nil))) (pcall DR hr1 (pa_cons (pv 0) pa_nil))) (pv 2)))
      (pss_one (ps_ret (pe_tup (pa_cons (pv 1) (pa_cons (pv 2) (pa_cons (pe_op op_fdiv (pv 3) pe_int) pa_nil)))))))), ?_⟩
    refine ⟨_, rfl, p, ps, rs, n, rfl, R, D, hn, hrs, fun p' ps' gs H1 hG R1 s1 _ _ => ?_⟩
    refine ⟨p', _, rfl, .inl (.of R1.out), ?_⟩
    refine ⟨_, rfl, p, ps, rs, n, rfl, R.same s1, D, hn, hrs, fun fs H2 hF s2 => ?_⟩
    refine ⟨_, rfl, _, _, rfl, rfl, .inl ⟨by decide, by decide⟩, _, rfl, p, _, rfl, .inl (.of ((R.same s1).same s2).out), _, _, rfl, rfl, ?_⟩
    refine ⟨_, rfl, p, ps, rs, n, rfl, (R.same s1).same s2, D, by omega, fun H3 s3 => ?_⟩
    refine ⟨_, _, rfl, rfl, _, rfl, _, _, rfl, rfl, ?_⟩
    refine ⟨_, rfl, _, rfl, _, rfl, _, _, rfl, rfl, ⟨by decide, by decide⟩, (by show 3 ≤ sizeLine; omega), fun t ht => ?_⟩
    refine k fs gs t _ hF hG (((s1.trans s2).trans s3).free ht) ?_ (((s1.trans s2).trans s3).put (((s1.trans s2).trans s3).free ht))
    rw [upd_same]
    unfold hnd
    simp only [List.length_map, R1.len, R.len]
end
end Ink
namespace Ink
open PySem L2
structure Prs (H : Hp) (q : Addr) (ts : List Addr) (pp : List (Nat × Nat)) : Prop where
  out : H q = some (.lst (ts.map V.ref))
  len : ts.length = pp.length
  row : ∀ (i : Nat) (t : Addr) (p : Nat × Nat), ts[i]? = some t → pp[i]? = some p → H t = some (.tup [.int (p.1 : Nat), .int (p.2 : Nat)])
theorem Prs.same {H H' : Hp} {q : Addr} {ts : List Addr} {pp : List (Nat × Nat)} (h : Prs H q ts pp) (s : Same H H') : Prs H' q ts pp := ⟨s _ _ h.out, h.len, fun i t p a b => s _ _ (h.row i t p a b)⟩
def spGroups : Sp := fun vs H Q _ => ∃ (m : Nat) (q : Addr) (ts : List Addr) (pp : List (Nat × Nat)), vs = [.int (m : Nat), .ref q] ∧ Prs H q ts pp ∧ Below m pp ∧ m ≤ 1000 ∧
  ∀ (l : Addr) (H' : Hp), H l = none → H' l = some (.lst ((heads m pp).map V.int)) → Same H H' → Q (.ref l) H'
section
variable {P : Program} {w : World} {K : PySem.W.Frag} {mg : Str → Option Value} {base : Heap}
theorem scGroups : FnScope ["_law_many", "_law_pairs", "_law_heads", "_law_one", "_law_other", "_law_here", "_law_there"] ["_law_many", "_law_pairs"] (defScope sGroups) := ⟨rfl, rfl, rfl, by decide +kernel, rfl, by decide +kernel, by decide +kernel⟩
theorem ok_groups {f : Addr} {fd : FuncData} (F : Fun K "_law_groups_of" "_law_groups_of" sGroups f fd) (T : Txt mg) : FnOk P w K mg base CX0 1 f fd ["_law_many", "_law_pairs"] spGroups := by
  refine F.ok scGroups (fun vs H Q E h => ?_) (fun cdv A outer s H vs Q E hr h => ?_)
  · obtain ⟨m, q, ts, pp, rfl, _⟩ := h
    rfl
  · obtain ⟨m, q, ts, pp, rfl, R, hb, hm, k⟩ := h
    have hs : sizeLine = 16777216 := sizeLine_eq
    have nd := scGroups.nd
    refine ⟨_, pss_cons (ps_setComp (i0 := 2) (te := tVar 0) nd rfl (Or.inl rfl) rfl (fun _ => Blk.plain rfl (by decide +kernel) (by decide +kernel)) (pi_range1 (by rfl) T.range (pa_cons (pv 0) pa_nil)) (fun _ _ _ _ => pts_nil) (fun _ _ _ _ => pv 0))
      (pss_cons (ps_for PassesOwn.never rfl (pi_list (pv 1)) (pg_tup rfl (pgs_cons (pg_name (i := 3) nd rfl (Or.inl rfl)) (pgs_cons (pg_name (i := 4) nd rfl (Or.inl rfl)) pgs_nil))) (pss_cons (ps_set (i := 5) nd rfl (Or.inr rfl) (pe_ix ix_list (pv 2) (pv 3) (fun _ _ => rfl)))
      (pss_cons (ps_set (i := 6) nd rfl (Or.inr rfl) (pe_ix ix_list (pv 2) (pv 4) (fun _ _ => rfl)))
      (pss_one (ps_setComp (i0 := 2) (te := tOp (rIxL K) (tLst (tCons (tVar 0) (tCons (tVar 2) tNil))) (tCB (fun (xs : List V) (H : Hp) (Q : VK) => (∃ i, xs = [V.int i] ∧ Q (.int i) H) ∨ ∃ k, xs = [V.bl k] ∧ Q (.int (if k then 1 else 0)) H) (tCons (tOp rEq (tVar 0) (tVar 1)) tNil))) nd rfl (Or.inl rfl) rfl (Blk.captN (caps := [5, 6]) ["_law_many", "_law_pairs", "_law_heads", "_law_one", "_law_other", "_law_here", "_law_there"] (defScope sGroups).names rfl rfl rfl (by decide +kernel) (by decide +kernel) (by decide +kernel)) (pi_list (pv 2)) (fun _ _ _ _ => pts_nil) (fun _ _ _ _ => (pe_ix ix_list (pe_lst (pa_cons (pv 0) (pa_cons (pv 2) pa_nil))) (pe_callTy call_int1 (by rfl) T.int PyProof.Rows.boot_int (pa_cons (pe_cmpR op_eq (pv 0) (pv 1) (nomark _)) pa_nil)) (fun _ _ => rfl))))))))
      (pss_one (ps_ret (pv 2)))), ?_⟩
    refine ⟨_, rfl, (m : Int), rfl, by omega, by omega, fun d hd => ?_⟩
    rw [Int.toNat_natCast]
    refine comp_range (fun i H2 => Same H H2 ∧ H2 d = some (.lst ((nums i).map V.int))) ⟨(Same.refl H).put hd, upd_same⟩ ?_ ?_
    · rintro i H2 hi ⟨s2, hL⟩
      refine yes_go ⟨_, rfl, _, hL, by rw [List.length_map, nums_length]; omega, s2.put hd, ?_⟩
      rw [upd_same, nums_succ, List.map_append, show (0 : Int) + (i : Int) = (i : Int) by omega]
      rfl
    rintro H2 ⟨s2, hL⟩
    refine ⟨_, rfl, q, rfl, ⟨_, .of (R.same s2).out⟩, for_list (K := K) (a := q) (xs := ts.map V.ref) (fun i σ H3 => ∃ l v3 v4 v5 v6, σ = [some (.int (m : Nat)), some (.ref q), some (.ref l), v3, v4, v5, v6] ∧ Same H H3 ∧ H l = none ∧ H3 l = some (.lst ((heads m (pp.take i)).map V.int)))
      ⟨d, none, none, none, none, rfl, s2, hd, hL⟩ (fun i σ H3 _ ⟨_, _, _, _, _, _, s3, _⟩ => .of (R.same s3).out) ?_ ?_⟩
    · rintro i y σ H3 hi ⟨l, v3, v4, v5, v6, rfl, s3, fl, hL3⟩
      obtain ⟨t, ht, rfl⟩ := ref_at hi
      have hil : i < pp.length := by rw [← R.len]; exact (List.getElem?_eq_some_iff.mp ht).1
      obtain ⟨p, hp⟩ : ∃ p, pp[i]? = some p := ⟨_, List.getElem?_eq_getElem hil⟩
      have hbp := hb p (List.mem_of_getElem? hp)
      have hT := (R.same s3).row i t p ht hp
      have hhl := heads_length m (pp.take i)
      refine ⟨t, _, rfl, .of hT, rfl, _, _, rfl, _, _, rfl, rfl, ?_⟩
      refine ⟨_, rfl, _, rfl, l, _, _, _, rfl, rfl, .of hL3, int_at (i := p.1) (by omega) rfl, ?_⟩
      refine ⟨_, rfl, _, rfl, l, _, _, _, rfl, rfl, .of hL3, int_at (i := p.2) (by omega) rfl, ?_⟩
      refine ⟨_, rfl, l, rfl, ⟨_, .of hL3⟩, fun e hE => comp_list (xs := (heads m (pp.take i)).map V.int) (fun j H4 => Same H3 H4 ∧ H4 e = some (.lst ((((heads m (pp.take i)).take j).map fun z => if z = (heads m (pp.take i)).getD p.1 0 then (heads m (pp.take i)).getD p.2 0 else z).map V.int))) ⟨(Same.refl H3).put hE, upd_same⟩ (fun j H4 _ ⟨s4, _⟩ => .of (s4 _ _ hL3)) ?_ ?_⟩
      · rintro j z H4 hj ⟨s4, hL4⟩
        obtain ⟨x, hx, rfl⟩ := int_of hj
        have hjl : j < (heads m (pp.take i)).length := (List.getElem?_eq_some_iff.mp hx).1
        refine yes_go ⟨_, rfl, _, rfl, (by show 2 ≤ sizeLine; omega), fun l1 hl1 => ⟨_, rfl, _, rfl, rfl, .inr ⟨_, rfl, l1, _, _, V.int (if x = (heads m (pp.take i)).getD p.1 0 then (heads m (pp.take i)).getD p.2 0 else x), rfl, rfl, .of upd_same, ?_, (((heads m (pp.take i)).take j).map fun z => if z = (heads m (pp.take i)).getD p.1 0 then (heads m (pp.take i)).getD p.2 0 else z).map V.int, ?_, ?_, ?_, ?_⟩⟩⟩
        · by_cases hxe : x = (heads m (pp.take i)).getD p.1 0
          · rw [if_pos hxe, hxe, decide_eq_true rfl]
            exact atI_nat (j := 1) rfl
          · rw [if_neg hxe, decide_eq_false fun q => hxe (by injection q)]
            exact atI_nat (j := 0) rfl
        · rw [upd_ne (ne_of_none hL4 hl1)]; exact hL4
        · rw [List.length_map, List.length_map, List.length_take]; omega
        · exact (s4.put (s4.free hl1)).put hE
        · rw [upd_same, take_at hx, List.map_append, List.map_append]; rfl
      · rintro H4 ⟨s4, hL4⟩
        rw [List.length_map, List.take_length] at hL4
        refine ⟨e, _, _, _, _, rfl, s3.trans s4, s3.free hE, ?_⟩
        rw [take_at hp, heads_snoc]
        exact hL4
    · rintro σ H3 ⟨l, v3, v4, v5, v6, rfl, s3, fl, hL3⟩
      rw [List.length_map, R.len, List.take_length] at hL3
      exact ⟨_, rfl, k l H3 fl hL3 s3⟩
end
end Ink
namespace Ink
open PySem L2
structure Txt3 (mg : Str → Option Value) : Prop where
  set : mg "set" = none
  tuple : mg "tuple" = none
  str : mg "str" = none
theorem Prs.snoc {H : Hp} {q t : Addr} {ts : List Addr} {pp : List (Nat × Nat)} {p : Nat × Nat} (h : Prs H q ts pp) (ht : H t = none) :
    Prs (upd (upd H t (.tup [.int (p.1 : Nat), .int (p.2 : Nat)])) q (.lst (ts.map V.ref ++ [.ref t]))) q (ts ++ [t]) (pp ++ [p]) := by
  have hqt : q ≠ t := fun z => by rw [← z, h.out] at ht; cases ht
  refine ⟨by rw [upd_same, List.map_append]; rfl, by rw [List.length_append, List.length_append, h.len]; rfl, fun i t' p' e1 e2 => ?_⟩
  by_cases hi : i < ts.length
  · rw [List.getElem?_append_left hi] at e1
    rw [List.getElem?_append_left (by rw [← h.len]; exact hi)] at e2
    have hr := h.row i t' p' e1 e2
    have n1 : t' ≠ q := fun z => by rw [z, h.out] at hr; cases hr
    rw [upd_ne n1, upd_ne (ne_of_none hr ht)]
    exact hr
  · have hi' : i = ts.length := by
      have := (List.getElem?_eq_some_iff.mp e1).1
      rw [List.length_append, List.length_singleton] at this
      omega
    subst hi'
    rw [List.getElem?_append_right (Nat.le_refl _), Nat.sub_self] at e1
    rw [List.getElem?_append_right (by rw [h.len]; exact Nat.le_refl _), h.len, Nat.sub_self] at e2
    have z1 : t = t' := by simpa using e1
    have z2 : p = p' := by simpa using e2
    subst z1; subst z2
    rw [upd_ne (Ne.symm hqt), upd_same]
theorem prs_at {rs : Rs} {n i : Nat} (h : i < n / 2) : (prs rs n)[i]? = some (pt rs (2 * (i : Int)), pt rs (2 * (i : Int) + 1)) := by
  unfold prs
  rw [List.getElem?_map, List.getElem?_range h]
  rfl
theorem prs_len (rs : Rs) (n : Nat) : (prs rs n).length = n / 2 := by unfold prs; rw [List.length_map, List.length_range]
def spBuiltSo : Sp := fun vs H Q _ => ∃ (p : Addr) (ps : List Addr) (rs : Rs) (n : Nat), vs = [.ref p] ∧ Rows H p ps rs ∧ Dr rs n ∧ n < 64 ∧ rs.length < 64 ∧
  ∀ (fs : Rs) (C : Nat) (t : Addr) (H' : Hp), Fcs (stp rs) n fs → DC (heads rs.length (prs rs n)) C → H t = none → H' t = some (.tup [.int (C : Nat), .int ((fs.length + aln rs : Nat) : Int), .int (hnd rs n (fs.length + aln rs) C)]) → Same H H' → Q (.ref t) H'
section
variable {P : Program} {w : World} {K : PySem.W.Frag} {mg : Str → Option Value} {base : Heap}
theorem scBuiltSo : FnScope ["_law_rounds", "_law_point_at", "_law_ropes", "_law_pairs", "_law_many", "_law_shuts"] ["_law_rounds"] (defScope sBuiltSo) := ⟨rfl, rfl, rfl, by decide +kernel, rfl, by decide +kernel, by decide +kernel⟩
theorem ok_builtSo {f : Addr} {fd : FuncData} (F : Fun K "_law_built_so" "_law_built_so" sBuiltSo f fd) (T : Txt mg) (T3 : Txt3 mg) (DPt : Def P w K mg base "_law_point_of" 1 ["_law_rounds"] spPointsOf) (DGr : Def P w K mg base "_law_groups_of" 1 ["_law_many", "_law_pairs"] spGroups)
    (DO : Def P w K mg base "_law_faces_of" 2 ["_law_rounds"] spFaces) : FnOk P w K mg base CX0 3 f fd ["_law_rounds"] spBuiltSo := by
  refine F.ok scBuiltSo (fun vs H Q E h => ?_) (fun cdv A outer s H vs Q E hr h => ?_)
  · obtain ⟨p, ps, rs, n, rfl, _⟩ := h
    rfl
  · obtain ⟨p, ps, rs, n, rfl, R, D, hn, hrs, k⟩ := h
    have hs : sizeLine = 16777216 := sizeLine_eq
    have nd := scBuiltSo.nd
    have hr1 : Room 1 _ := hr.mono (by decide)
    have hu := hr.units
    have hu1 := hu_of hr
    refine ⟨_, pss_cons (ps_set (i := 1) nd rfl (Or.inr rfl) (pcall DPt hr1 (pa_cons (pv 0) pa_nil)))
      (pss_cons (ps_set (i := 2) nd rfl (Or.inl rfl) (pe_op op_fdiv (pe_callB call_lenD (by rfl) T.len PySem.boot_len (pa_cons (pv 1) pa_nil)) pe_int))
      (pss_cons (ps_setComp (i0 := 3) (te := _) nd rfl (Or.inl rfl) rfl (Blk.captN (caps := [1]) ["_law_rounds", "_law_point_at", "_law_ropes", "_law_pairs", "_law_many", "_law_shuts"] (defScope sBuiltSo).names rfl rfl rfl (by decide +kernel) (by decide +kernel) (by decide +kernel)) (pi_range1 (by rfl) T.range (pa_cons (pv 2) pa_nil)) (fun _ _ _ _ => pts_nil) (fun _ _ _ _ => (pe_tup (pa_cons (pe_dget hu1 (pv 1) (pe_op op_mul pe_int (pv 0)) (fun _ _ => rfl)) (pa_cons (pe_dget hu1 (pv 1) (pe_op op_add (pe_op op_mul pe_int (pv 0)) pe_int) (fun _ _ => rfl)) pa_nil)))))
      (pss_cons (ps_set (i := 4) nd rfl (Or.inl rfl) (pe_lenSet rfl (by rfl) T.len (by rfl) T3.set (pa_cons (pcall DGr hr1 (pa_cons (pe_callB call_len_seq (by rfl) T.len PySem.boot_len (pa_cons (pv 0) pa_nil)) (pa_cons (pv 3) pa_nil))) pa_nil)))
      (pss_cons (ps_set (i := 5) nd rfl (Or.inl rfl) (pe_op op_add (pe_callB call_len_seq (by rfl) T.len PySem.boot_len (pa_cons (pcall DO hr (pa_cons (pv 0) pa_nil)) pa_nil)) (pe_bm PySem.F.plainAttrs_list PySem.F.slot_list_count PySem.F.type_list_count (mt_countR hu) (pv 0) (pa_cons (pe_lst pa_nil) pa_nil))))
      (pss_one (ps_ret (pe_tup (pa_cons (pv 4) (pa_cons (pv 5) (pa_cons (pe_op op_fdiv (pe_op op_sub (pe_op op_add (pe_op op_sub (pe_op op_mul pe_int (pv 4)) (pe_callB call_len_seq (by rfl) T.len PySem.boot_len (pa_cons (pv 0) pa_nil))) (pv 2)) (pv 5)) pe_int) pa_nil)))))))))), ?_⟩
    refine ⟨_, rfl, p, ps, rs, n, rfl, R, D, by omega, by omega, fun d H1 hd TB s1 => ?_⟩
    obtain ⟨kvs, tb1, tb2, tb3⟩ := id TB.ex
    refine ⟨_, rfl, d, kvs, rfl, tb1, _, _, rfl, rfl, ⟨by decide, by decide⟩, ?_⟩
    have e2 : ((kvs.length : Nat) : Int) / 2 = ((n / 2 : Nat) : Int) := by rw [tb2]; omega
    dsimp only [gName]
    rw [e2]
    have R1 := R.same s1
    refine ⟨_, rfl, ((n / 2 : Nat) : Int), rfl, by omega, by omega, fun q hq => ?_⟩
    rw [Int.toNat_natCast]
    refine comp_range (fun i H2 => ∃ ts, Same H1 H2 ∧ Prs H2 q ts ((prs rs n).take i)) ⟨[], (Same.refl H1).put hq, ⟨upd_same, rfl, fun i t p e => by simp at e⟩⟩ ?_ ?_
    · rintro i H2 hi ⟨ts, s2, hP⟩
      rw [show (0 : Int) + (i : Int) = (i : Int) by omega]
      have TB2 := TB.same s2
      have hts : ts.length = i := by rw [hP.len, List.length_take, prs_len]; omega
      have hn2 := D.even
      refine yes_go ⟨_, rfl, _, rfl, _, _, rfl, rfl, .inl ⟨by decide, by decide⟩, d, _, rfl, TB2.get (e := 2 * (i : Int)) (by omega), _, rfl, _, rfl, _, _, rfl, rfl, .inl ⟨by decide, by decide⟩, _, _, rfl, rfl, d, _, rfl, TB2.get (e := 2 * (i : Int) + 1) (by omega), (by show 2 ≤ sizeLine; omega), fun t ht => ⟨ts.map V.ref, ?_, ?_, ts ++ [t], ?_, ?_⟩⟩
      · rw [upd_ne (ne_of_none hP.out ht)]; exact hP.out
      · rw [List.length_map]; omega
      · exact (s2.put (s2.free ht)).put hq
      · rw [take_at (prs_at hi)]
        exact hP.snoc (p := (pt rs (2 * (i : Int)), pt rs (2 * (i : Int) + 1))) ht
    rintro H2 ⟨ts, s2, hP⟩
    rw [← prs_len rs n, List.take_length] at hP
    have R2 := R1.same s2
    refine ⟨_, rfl, p, _, rfl, .inl (.of R2.out), _, rfl, rs.length, q, ts, prs rs n, by rw [List.length_map, R.len]; rfl, hP, prs_below D, by omega, fun l H3 hl hL s3 => ?_⟩
    refine ⟨l, _, rfl, .of hL, by rw [heads_length]; omega, fun Dd nd' hmem => ?_⟩
    have hC : DC (heads rs.length (prs rs n)) Dd.length := ⟨Dd, nd', hmem, rfl⟩
    have R3 := R2.same s3
    refine ⟨_, rfl, p, ps, rs, n, rfl, R3, D, by omega, fun p' ps' fs H4 hF R4 s4 _ _ => ?_⟩
    have R5 := R3.same s4
    refine ⟨p', _, rfl, .inl (.of R4.out), _, rfl, .inl ⟨rfl, _, .of R5.out⟩, (by show 0 ≤ sizeLine; omega), fun z hz => ?_⟩
    have s5 : Same H4 (L2.upd H4 z (.lst [])) := (Same.refl H4).put hz
    refine ⟨p, z, ps, rs, [], rfl, rfl, R5.same s5, upd_same, _, _, rfl, rfl, ?_⟩
    have R6 := R5.same s5
    refine ⟨_, rfl, _, rfl, _, rfl, _, _, rfl, rfl, .inl ⟨by decide, by decide⟩, _, rfl, p, _, rfl, .inl (.of R6.out), _, _, rfl, rfl, _, rfl, _, _, rfl, rfl, _, rfl, _, _, rfl, rfl, _, _, rfl, rfl, ⟨by decide, by decide⟩, (by show 3 ≤ sizeLine; omega), fun t ht => ?_⟩
    have sA := (((s1.trans s2).trans s3).trans s4).trans s5
    refine k fs Dd.length t _ hF hC (sA.free ht) ?_ (sA.put (sA.free ht))
    rw [upd_same]
    unfold hnd aln
    simp only [List.length_map, R4.len, R.len, Int.natCast_add]
end
end Ink
namespace Ink
open PySem L2
def kd (a : Bool) : V := .str (if a then "end" else "point")
def toSp (a : Bool) (x : Int) : Spot := if a then .e x else .p x.toNat
def okB (rs : Rs) (n : Nat) (a : Bool) (x : Int) : Bool := if a then decide (0 ≤ x ∧ x < (n : Int)) else decide (0 ≤ x ∧ rs[x.toNat]? = some [])
theorem okB.sp {rs : Rs} {n : Nat} {a : Bool} {x : Int} (h : okB rs n a x = true) : 0 ≤ x ∧ isSp rs n (toSp a x) := by
  unfold okB at h
  unfold toSp
  cases a with
  | true =>
    rw [if_pos rfl] at h ⊢
    have := of_decide_eq_true h
    exact ⟨this.1, this⟩
  | false =>
    rw [if_neg (by decide)] at h ⊢
    have := of_decide_eq_true h
    exact ⟨this.1, this.2⟩
theorem seq_t {a b : Str} (h : a = b) : decide (V.str a = V.str b) = true := decide_eq_true (by rw [h])
theorem seq_f {a b : Str} (h : a ≠ b) : decide (V.str a = V.str b) = false := decide_eq_false fun q => h (by injection q)
theorem cut_take {xs : List V} {k : Nat} (h : k ≤ xs.length) : cutV xs none (some (k : Int)) = xs.take k := by
  unfold cutV
  rw [HT.sIx_nat, HT.sIx_none, Nat.min_eq_left h]
  rfl
theorem cut_drop {xs : List V} {k : Nat} (h : k ≤ xs.length) : cutV xs (some (k : Int)) none = xs.drop k := by
  unfold cutV
  rw [HT.sIx_nat, HT.sIx_none, Nat.min_eq_left h]
  exact List.take_of_length_le (by rw [List.length_drop]; omega)
structure Sh (H H2 : Hp) (D : Addr) (ps qs : List Addr) (rows : Rs) (i : Nat) : Prop where
  same : Same H H2
  rows : Rows H2 D qs rows
  own : ∀ q ∈ qs, (∃ j, j < i ∧ ps[j]? = some q) ∨ H q = none
theorem Sh.mem {H H2 : Hp} {D : Addr} {ps qs : List Addr} {rws : Rs} {i : Nat} (sh : Sh H H2 D ps qs rws i) : ∀ q ∈ qs, q ∈ ps ∨ H q = none := fun q hq => (sh.own q hq).elim (fun ⟨_, _, e⟩ => .inl (List.mem_of_getElem? e)) .inr
theorem Sh.nil {H : Hp} {D : Addr} {ps : List Addr} (hD : H D = none) : Sh H (L2.upd H D (.lst [])) D ps [] [] 0 :=
  ⟨(Same.refl H).put hD, ⟨upd_same, List.nodup_nil, rfl, fun i q r e => by simp at e⟩, fun q hq => by cases hq⟩
theorem Sh.step {H H2 H4 : Hp} {D l q0 : Addr} {ps qs : List Addr} {rws : Rs} {g : List Int} {o : HO} {i : Nat} (sh : Sh H H2 D ps qs rws i) (nd : ps.Nodup) (hq0 : ps[i]? = some q0) (h0 : H q0 = some o) (hD : H D = none) (hl : l = q0 ∨ H2 l = none)
    (hL : H4 l = some (.lst (g.map V.int))) (s4 : Same H2 H4) : H4 D = some (.lst (qs.map V.ref)) ∧ Sh H (L2.upd H4 D (.lst (qs.map V.ref ++ [.ref l]))) D ps (qs ++ [l]) (rws ++ [g]) (i + 1) := by
  have R4 := sh.rows.same s4
  have hlD : l ≠ D := fun z => by
    rcases hl with y | y
    · rw [← y, z, hD] at h0; cases h0
    · rw [z, sh.rows.out] at y; cases y
  have hlq : l ∉ qs := fun z => by
    rcases hl with y | y
    · rcases sh.own l z with ⟨j, hj, e⟩ | e
      · rw [y] at e
        have hi := (List.getElem?_eq_some_iff.mp hq0).1
        have hji := (List.getElem?_eq_some_iff.mp e).1
        exact (List.pairwise_iff_getElem.mp (List.nodup_iff_pairwise_ne.mp nd)) j i hji hi hj ((List.getElem?_eq_some_iff.mp e).2.trans (List.getElem?_eq_some_iff.mp hq0).2.symm)
      · rw [y, h0] at e; cases e
    · obtain ⟨r, _, e⟩ := sh.rows.mem z
      rw [e] at y; cases y
  refine ⟨R4.out, (sh.same.trans s4).put hD, R4.snoc hL hlq hlD, fun q hq => ?_⟩
  rcases List.mem_append.mp hq with z | z
  · rcases sh.own q z with ⟨j, hj, e⟩ | e
    · exact .inl ⟨j, by omega, e⟩
    · exact .inr e
  · have e : q = l := by simpa using z
    subst e
    rcases hl with y | y
    · exact .inl ⟨i, by omega, by rw [y]; exact hq0⟩
    · exact .inr (sh.same.free y)
def SpotAt (H : Hp) (v : V) (a : Bool) (x : Int) : Prop := ∃ t, v = .ref t ∧ H t = some (.tup [kd a, .int x])
theorem SpotAt.same {H H' : Hp} {v : V} {a : Bool} {x : Int} (h : SpotAt H v a x) (s : Same H H') : SpotAt H' v a x := let ⟨t, e, q⟩ := h; ⟨t, e, s _ _ q⟩
def spIsSpot : Sp := fun vs H Q _ => ∃ (p t : Addr) (ps : List Addr) (rs : Rs) (n : Nat) (a : Bool) (x : Int), vs = [.ref p, .ref t] ∧ Rows H p ps rs ∧ Dr rs n ∧ rs.length ≤ 1000 ∧ H t = some (.tup [kd a, .int x]) ∧ ∀ H', Same H H' → Q (.bl (okB rs n a x)) H'
def spPutBehind : Sp := fun vs H Q _ => ∃ (q : Addr) (r : List Int) (b e : Int), vs = [.ref q, .int b, .int e] ∧ H q = some (.lst (r.map V.int)) ∧ r.length ≤ 1000 ∧
  ∀ (l : Addr) (H' : Hp), (l = q ∨ H l = none) → H' l = some (.lst ((putRow b e r).map V.int)) → Same H H' → Q (.ref l) H'
def spPutAt : Sp := fun vs H Q _ => ∃ (p t : Addr) (ps : List Addr) (rs : Rs) (a : Bool) (x e : Int), vs = [.ref p, .ref t, .int e] ∧ Rows H p ps rs ∧ rs.length ≤ 1000 ∧ (∀ r ∈ rs, r.length ≤ 1000) ∧ 0 ≤ x ∧ H t = some (.tup [kd a, .int x]) ∧
  ∀ (p' : Addr) (ps' : List Addr) (H' : Hp), Rows H' p' ps' (putSp rs (toSp a x) e) → Same H H' → H p' = none → (∀ q ∈ ps', q ∈ ps ∨ H q = none) → Q (.ref p') H'
section
variable {P : Program} {w : World} {K : PySem.W.Frag} {mg : Str → Option Value} {base : Heap}
theorem scIsSpot : FnScope ["rounds", "spot", "number"] ["rounds", "spot"] (defScope sIsSpot) := ⟨rfl, rfl, rfl, by decide +kernel, rfl, by decide +kernel, by decide +kernel⟩
theorem ok_isSpot {f : Addr} {fd : FuncData} (F : Fun K "is_spot" "is_spot" sIsSpot f fd) (T : Txt mg) (DN : Def P w K mg base "how_many_ropes" 1 ["rounds"] spRopes) : FnOk P w K mg base CX0 2 f fd ["rounds", "spot"] spIsSpot := by
  refine F.ok scIsSpot (fun vs H Q E h => ?_) (fun cdv A outer s H vs Q E hr1 h => ?_)
  · obtain ⟨p, t, ps, rs, n, a, x, rfl, _⟩ := h
    rfl
  · obtain ⟨p, t, ps, rs, n, a, x, rfl, R, D, hrs, ht, k⟩ := h
    have nd := scIsSpot.nd
    refine ⟨_, pss_cons (ps_set (i := 2) nd rfl (Or.inl rfl) (pe_ix (r := rIxT K) ix_tup (pv 1) pe_int (fun _ _ => rfl)))
      (pss_cons (ps_if (pt_cmpR op_eq (pe_ix (r := rIxT K) ix_tup (pv 1) pe_int (fun _ _ => rfl)) pe_str (nomark _)) (pss_one (ps_ret (pe_and (pe_cmpR op_ge (pv 2) pe_int (nomark _)) (pe_one (pe_cmpR op_lt (pv 2) (pe_op op_mul pe_int (pcall DN hr1 (pa_cons (pv 0) pa_nil))) (nomark _)))))) (pss_nil))
      (pss_one (ps_ret (pe_and (pe_cmpR op_ge (pv 2) pe_int (nomark _)) (pe_and (pe_cmpR op_lt (pv 2) (pe_callB call_len_seq (by rfl) T.len PySem.boot_len (pa_cons (pv 0) pa_nil)) (nomark _)) (pe_one (pe_cmpR op_eq (pe_callB call_len_seq (by rfl) T.len PySem.boot_len (pa_cons (pe_ix (r := rIxL K) ix_list (pv 0) (pv 2) (fun _ _ => rfl)) pa_nil)) pe_int (nomark _)))))))), ?_⟩
    refine ⟨_, rfl, t, _, _, _, rfl, rfl, .of ht, atI_nat (j := 1) rfl, ?_⟩
    refine ⟨_, rfl, t, _, _, _, rfl, rfl, .of ht, atI_nat (j := 0) rfl, rfl, _, rfl, ?_⟩
    have hev := D.even
    cases a with
    | true =>
      refine iteT ?_
      refine ⟨_, rfl, _, _, rfl, rfl, _, rfl, ?_⟩
      refine ite2 (fun h0 => ?_) (fun h0 => ?_)
      · have h0' := of_decide_eq_true h0
        refine ⟨_, rfl, _, rfl, p, ps, rs, n, rfl, R, D, hrs, fun H' s' => ⟨_, _, rfl, rfl, .inl ⟨by decide, by decide⟩, _, _, rfl, rfl, ?_⟩⟩
        have e : decide (x < 2 * ((n / 2 : Nat) : Int)) = okB rs n true x := by
          show _ = decide (0 ≤ x ∧ x < (n : Int))
          rw [show 2 * ((n / 2 : Nat) : Int) = n by omega]
          simp [h0']
        have kk := k H' s'
        rw [← e] at kk
        exact kk
      · have h0' : ¬ 0 ≤ x := fun z => h0 (decide_eq_true z)
        have e : false = okB rs n true x := by
          show _ = decide (0 ≤ x ∧ x < (n : Int))
          simp [h0']
        have kk := k H (Same.refl H)
        rw [← e] at kk
        exact kk
    | false =>
      refine iteF ?_
      refine ⟨_, rfl, _, _, rfl, rfl, _, rfl, ?_⟩
      refine ite2 (fun h0 => ?_) (fun h0 => ?_)
      · have h0' := of_decide_eq_true h0
        refine ⟨_, rfl, _, rfl, p, _, rfl, .inl (.of R.out), _, _, rfl, rfl, _, rfl, ?_⟩
        refine ite2 (fun h1 => ?_) (fun h1 => ?_)
        · have h1' := of_decide_eq_true h1
          rw [List.length_map, R.len] at h1'
          obtain ⟨j, rfl⟩ : ∃ j : Nat, x = j := ⟨x.toNat, by omega⟩
          have hj : j < rs.length := by omega
          have hr := List.getElem?_eq_getElem hj
          obtain ⟨q, hq, hH⟩ := R.get hr
          refine ⟨_, rfl, _, rfl, p, _, _, _, rfl, rfl, .of R.out, atI_nat (j := j) (v := V.ref q) (by rw [List.getElem?_map, hq]; rfl), q, _, rfl, .inl (.of hH), rfl, ?_⟩
          have e : decide (V.int (((rs[j].map V.int).length : Nat) : Int) = V.int 0) = okB rs n false (j : Int) := by
            show _ = decide (0 ≤ (j : Int) ∧ rs[((j : Int)).toNat]? = some [])
            rw [List.length_map, Int.toNat_natCast, hr]
            by_cases z : rs[j] = []
            · rw [decide_eq_true (by rw [z]; rfl), decide_eq_true ⟨by omega, by rw [z]⟩]
            · rw [decide_eq_false fun y => z ?_, decide_eq_false fun y => z (Option.some.inj y.2)]
              injection y with y
              exact List.length_eq_zero_iff.mp (by omega)
          have kk := k H (Same.refl H)
          rw [← e] at kk
          exact kk
        · have h1' : ¬ x < (((ps.map V.ref).length : Nat) : Int) := fun z => h1 (decide_eq_true z)
          rw [List.length_map, R.len] at h1'
          have e : false = okB rs n false x := by
            show _ = decide (0 ≤ x ∧ rs[x.toNat]? = some [])
            rw [decide_eq_false fun y => ?_]
            have := (List.getElem?_eq_some_iff.mp y.2).1
            omega
          have kk := k H (Same.refl H)
          rw [← e] at kk
          exact kk
      · have h0' : ¬ 0 ≤ x := fun z => h0 (decide_eq_true z)
        have e : false = okB rs n false x := by
          show _ = decide (0 ≤ x ∧ rs[x.toNat]? = some [])
          rw [decide_eq_false fun y => h0' y.1]
        have kk := k H (Same.refl H)
        rw [← e] at kk
        exact kk
theorem scPutBehind : FnScope ["ends", "before", "end", "place"] ["ends", "before", "end"] (defScope sPutBehind) := ⟨rfl, rfl, rfl, by decide +kernel, rfl, by decide +kernel, by decide +kernel⟩
theorem ok_putBehind {f : Addr} {fd : FuncData} (F : Fun K "put_behind" "put_behind" sPutBehind f fd) (T : Txt mg) : FnOk P w K mg base CX0 1 f fd ["ends", "before", "end"] spPutBehind := by
  refine F.ok scPutBehind (fun vs H Q E h => ?_) (fun cdv A outer s H vs Q E hr1 h => ?_)
  · obtain ⟨q, r, b, e, rfl, _⟩ := h
    rfl
  · obtain ⟨q, r, b, e, rfl, hq, hl, k⟩ := h
    have hs : sizeLine = 16777216 := sizeLine_eq
    have nd := scPutBehind.nd
    refine ⟨_, pss_cons (ps_if (pt_cmpR op_notIn_seq (pv 1) (pv 0) rfl) (pss_one (ps_ret (pv 0))) (pss_nil))
      (pss_cons (ps_set (i := 3) nd rfl (Or.inl rfl) (pe_op op_add (pe_bm PySem.F.plainAttrs_list PySem.F.slot_list_index PySem.F.type_list_index mt_index (pv 0) (pa_cons (pv 1) pa_nil)) pe_int))
      (pss_one (ps_ret (pe_op op_cat (pe_op op_cat (pe_slice sl_list (pv 0) po_none (po_some (pv 3))) (pe_lst (pa_cons (pv 2) pa_nil))) (pe_slice sl_list (pv 0) (po_some (pv 3)) po_none))))), ?_⟩
    refine ⟨_, rfl, _, rfl, q, _, rfl, .inl (.of hq), rfl, flat_ints r, _, rfl, ?_⟩
    rw [in_ints]
    by_cases hm : b ∈ r
    · rw [decide_eq_true hm]
      refine iteF ?_
      have hil : r.idxOf b < r.length := List.idxOf_lt_length_iff.mpr hm
      refine ⟨_, rfl, .inl ⟨rfl, _, .of hq⟩, _, rfl, q, r, b, rfl, rfl, .of hq, hm, _, _, rfl, rfl, ?_⟩
      dsimp only [gName]
      have ei : ((r.idxOf b : Nat) : Int) + 1 = ((r.idxOf b + 1 : Nat) : Int) := by omega
      have c1 : cutV (r.map V.int) none (some (((r.idxOf b : Nat) : Int) + 1)) = (r.take (r.idxOf b + 1)).map V.int := by
        rw [ei, cut_take (by rw [List.length_map]; omega), List.map_take]
      have c2 : cutV (r.map V.int) (some (((r.idxOf b : Nat) : Int) + 1)) none = (r.drop (r.idxOf b + 1)).map V.int := by
        rw [ei, cut_drop (by rw [List.length_map]; omega), List.map_drop]
      refine ⟨_, rfl, _, rfl, _, rfl, q, _, rfl, .of hq, fun p1 h1 => ?_⟩
      rw [c1]
      have s1 : Same H (L2.upd H p1 (.lst ((r.take (r.idxOf b + 1)).map V.int))) := (Same.refl H).put h1
      have g1 := upd_same (H := H) (a := p1) (o := .lst ((r.take (r.idxOf b + 1)).map V.int))
      generalize L2.upd H p1 (.lst ((r.take (r.idxOf b + 1)).map V.int)) = H1 at s1 g1 ⊢
      refine ⟨_, rfl, (by show 1 ≤ sizeLine; omega), fun p2 h2 => ?_⟩
      have s2 : Same H1 (L2.upd H1 p2 (.lst [.int e])) := (Same.refl H1).put h2
      have g2 := upd_same (H := H1) (a := p2) (o := .lst [.int e])
      generalize L2.upd H1 p2 (.lst [.int e]) = H2 at s2 g2 ⊢
      refine ⟨p1, p2, _, _, rfl, rfl, s2 _ _ g1, g2, (by rw [List.length_map, List.length_take]; show min _ _ + 1 ≤ _; omega), fun p3 h3 => ?_⟩
      have s3 : Same H2 (L2.upd H2 p3 (.lst ((r.take (r.idxOf b + 1)).map V.int ++ [.int e]))) := (Same.refl H2).put h3
      have g3 := upd_same (H := H2) (a := p3) (o := .lst ((r.take (r.idxOf b + 1)).map V.int ++ [.int e]))
      generalize L2.upd H2 p3 (.lst ((r.take (r.idxOf b + 1)).map V.int ++ [.int e])) = H3 at s3 g3 ⊢
      have sA := (s1.trans s2).trans s3
      refine ⟨_, rfl, _, rfl, _, rfl, q, _, rfl, .of (sA _ _ hq), fun p4 h4 => ?_⟩
      rw [c2]
      have s4 : Same H3 (L2.upd H3 p4 (.lst ((r.drop (r.idxOf b + 1)).map V.int))) := (Same.refl H3).put h4
      have g4 := upd_same (H := H3) (a := p4) (o := .lst ((r.drop (r.idxOf b + 1)).map V.int))
      generalize L2.upd H3 p4 (.lst ((r.drop (r.idxOf b + 1)).map V.int)) = H4 at s4 g4 ⊢
      have sB := sA.trans s4
      refine ⟨p3, p4, _, _, rfl, rfl, s4 _ _ g3, g4, (by rw [List.length_append, List.length_map, List.length_take, List.length_map, List.length_drop]; show min _ _ + 1 + _ ≤ _; omega), fun p5 h5 => ?_⟩
      refine k p5 _ (.inr (sB.free h5)) (upd_same.trans ?_) (sB.put (sB.free h5))
      unfold putRow insAt
      rw [if_pos hm, List.map_append, List.map_cons, List.append_assoc]
      rfl
    · rw [decide_eq_false hm]
      refine iteT ?_
      exact ⟨_, rfl, k q H (.inl rfl) (by rw [putRow_no hm]; exact hq) (Same.refl H)⟩
theorem scPutAt : FnScope ["rounds", "spot", "end"] ["rounds", "spot", "end"] (defScope sPutAt) := ⟨rfl, rfl, rfl, by decide +kernel, rfl, by decide +kernel, by decide +kernel⟩
theorem ok_putAt {f : Addr} {fd : FuncData} (F : Fun K "put_at" "put_at" sPutAt f fd) (T : Txt mg) (DB : Def P w K mg base "put_behind" 1 ["ends", "before", "end"] spPutBehind) : FnOk P w K mg base CX0 2 f fd ["rounds", "spot", "end"] spPutAt := by
  refine F.ok scPutAt (fun vs H Q E h => ?_) (fun cdv A outer s H vs Q E hr1 h => ?_)
  · obtain ⟨p, t, ps, rs, a, x, e, rfl, _⟩ := h
    rfl
  · obtain ⟨p, t, ps, rs, a, x, e, rfl, R, hrs, hrow, hx, ht, k⟩ := h
    have hs : sizeLine = 16777216 := sizeLine_eq
    have nd := scPutAt.nd
    refine ⟨_, pss_cons (ps_if (pt_cmpR op_eq (pe_ix (r := rIxT K) ix_tup (pv 1) pe_int (fun _ _ => rfl)) pe_str (nomark _)) (pss_one (ps_ret (pe_compC (te := _) rfl (Blk.captN (caps := [1, 2]) ["rounds", "spot", "end"] (defScope sPutAt).names rfl rfl rfl (by decide +kernel) (by decide +kernel) (by decide +kernel)) (pi_list (pv 0)) (fun _ _ _ _ => pts_nil) (fun _ _ _ _ => (pcall DB hr1 (pa_cons (pv 0) (pa_cons (pe_ix (r := rIxT K) ix_tup (pv 1) pe_int (fun _ _ => rfl)) (pa_cons (pv 2) pa_nil)))))))) (pss_nil))
      (pss_one (ps_ret (pe_comp2 (te := _) (g := gTup K 2 (gCons (gName 0) (gCons (gName 1) gNil))) rfl (Blk2.captN (caps := [1, 2]) ["rounds", "spot", "end"] (defScope sPutAt).names rfl rfl rfl (by decide +kernel) (by decide +kernel) (by decide +kernel) (by decide +kernel)) (pi_enum (by rfl) T.enum (pa_cons (pv 0) pa_nil)) (fun _ _ _ _ nd lx ly => pg_tup rfl (pgs_cons (pg_name (i := 0) nd rfl (Or.inl lx) (Or.inr lx)) (pgs_cons (pg_name (i := 1) nd rfl (Or.inl ly) (Or.inr ly)) pgs_nil))) (fun _ _ _ _ => pts_nil) (fun _ _ _ _ => (pe_ifExp (pt_cmpR op_eq (pv 0) (pe_ix (r := rIxT K) ix_tup (pv 2) pe_int (fun _ _ => rfl)) (nomark _)) (pe_op op_cat (pv 1) (pe_lst (pa_cons (pv 3) pa_nil))) (pv 1)))))), ?_⟩
    refine ⟨_, rfl, t, _, _, _, rfl, rfl, .of ht, atI_nat (j := 0) rfl, rfl, _, rfl, ?_⟩
    cases a with
    | true =>
      refine iteT ?_
      refine ⟨_, rfl, p, rfl, ⟨_, .of R.out⟩, fun D hD => comp_list (xs := ps.map V.ref) (fun i H2 => ∃ qs, Sh H H2 D ps qs ((rs.take i).map (putRow x e)) i) ⟨[], Sh.nil hD⟩ (fun i H2 _ ⟨_, sh⟩ => .of (sh.same _ _ R.out)) ?_ ?_⟩
      · rintro i y H2 hi ⟨qs, sh⟩
        obtain ⟨q, hq, rfl⟩ := ref_at hi
        obtain ⟨r, hr, hH⟩ := R.at hq
        have hlen : qs.length ≤ 1000 := by rw [sh.rows.len, List.length_map, List.length_take]; omega
        refine yes_go ⟨_, rfl, _, rfl, t, _, _, _, rfl, rfl, .of (sh.same _ _ ht), atI_nat (j := 1) rfl, _, rfl, q, r, x, e, rfl, sh.same _ _ hH, hrow r (List.mem_of_getElem? hr), fun l H4 hl hL s4 => ?_⟩
        obtain ⟨o4, sh4⟩ := sh.step R.nd hq hH hD hl hL s4
        refine ⟨_, o4, by rw [List.length_map]; omega, qs ++ [l], ?_⟩
        rw [take_at hr, List.map_append]
        exact sh4
      · rintro H2 ⟨qs, sh⟩
        rw [List.length_map, R.len, List.take_length] at sh
        exact k D qs H2 sh.rows sh.same hD sh.mem
    | false =>
      refine iteF ?_
      obtain ⟨j, rfl⟩ : ∃ j : Nat, x = j := ⟨x.toNat, by omega⟩
      have es : putSp rs (toSp false (j : Int)) e = rs.set j (rs.getD j [] ++ [e]) := rfl
      refine ⟨_, rfl, p, rfl, ⟨_, .of R.out⟩, fun D hD => comp_enum (xs := ps.map V.ref) (fun i H2 => ∃ qs, Sh H H2 D ps qs ((rs.set j (rs.getD j [] ++ [e])).take i) i) ⟨[], Sh.nil hD⟩ (fun i H2 _ ⟨_, sh⟩ => .of (sh.same _ _ R.out)) ?_ ?_⟩
      · rintro i y H2 t' v1 v2 hi ⟨qs, sh⟩ ht'
        obtain ⟨q, hq, rfl⟩ := ref_at hi
        obtain ⟨r, hr, hH⟩ := R.at hq
        have hil := (List.getElem?_eq_some_iff.mp hr).1
        have hlen : qs.length ≤ 1000 := by rw [sh.rows.len, List.length_take, List.length_set]; omega
        have s3 : Same H2 (L2.upd H2 t' (.tup [.int (i : Int), .ref q])) := (Same.refl H2).put ht'
        refine ⟨t', _, rfl, .of upd_same, rfl, _, _, rfl, _, _, rfl, rfl, ⟨_, _, rfl⟩, yes_go ?_⟩
        generalize L2.upd H2 t' (.tup [.int (i : Int), .ref q]) = H3 at s3 ⊢
        refine ⟨_, rfl, _, rfl, t, _, _, _, rfl, rfl, .of (s3 _ _ (sh.same _ _ ht)), atI_nat (j := 1) rfl, rfl, _, rfl, ?_⟩
        have hH3 := s3 _ _ (sh.same _ _ hH)
        by_cases hij : i = j
        · subst hij
          rw [decide_eq_true rfl]
          refine iteT ?_
          have er : (rs.set i (rs.getD i [] ++ [e]))[i]? = some (r ++ [e]) := by
            rw [List.getElem?_set_self hil, List.getD_eq_getElem?_getD, hr]
            rfl
          refine ⟨_, rfl, _, rfl, (by show 1 ≤ sizeLine; omega), fun u hu => ?_⟩
          have s5 : Same H3 (L2.upd H3 u (.lst [.int e])) := (Same.refl H3).put hu
          have g5 := upd_same (H := H3) (a := u) (o := .lst [.int e])
          generalize L2.upd H3 u (.lst [.int e]) = H5 at s5 g5 ⊢
          refine ⟨q, u, _, _, rfl, rfl, s5 _ _ hH3, g5, ?_, fun l hl => ?_⟩
          · have := hrow r (List.mem_of_getElem? hr)
            rw [List.length_map]
            show _ + 1 ≤ _
            omega
          have s35 := s3.trans s5
          obtain ⟨o4, sh4⟩ := sh.step (l := l) (g := r ++ [e]) R.nd hq hH hD (.inr (s35.free hl)) (by rw [List.map_append]; exact upd_same) (s35.put (s35.free hl))
          refine ⟨_, o4, by rw [List.length_map]; omega, qs ++ [l], ?_⟩
          rw [take_at er]
          exact sh4
        · rw [decide_eq_false fun z => hij (by injection z with z; omega)]
          refine iteF ?_
          have er : (rs.set j (rs.getD j [] ++ [e]))[i]? = some r := by
            rw [List.getElem?_set_ne (Ne.symm hij), hr]
          obtain ⟨o4, sh4⟩ := sh.step (l := q) (g := r) R.nd hq hH hD (.inl rfl) hH3 s3
          refine ⟨_, rfl, _, o4, by rw [List.length_map]; omega, qs ++ [q], ?_⟩
          rw [take_at er]
          exact sh4
      · rintro H2 ⟨qs, sh⟩
        rw [List.length_map, R.len, show rs.length = (rs.set j (rs.getD j [] ++ [e])).length by rw [List.length_set], List.take_length] at sh
        exact k D qs H2 (by rw [es]; exact sh.rows) sh.same hD sh.mem
end
end Ink
namespace L2
open PySem PySem.Spec PyProof.Rows
def Trc (h : Heap) (a T : Addr) (cls : Value) : Prop :=
  ∃ oe vs oT ts a0, h.get? a = some oe ∧ oe.cls = cls ∧ vs[0]? = some a0 ∧ oe.data = .fields vs ∧ vs[1]? = some (.ref T) ∧ T ≠ a ∧ h.get? T = some oT ∧ oT.data = .fields ts ∧ ts[3]? = some .none
theorem frs_in {l : List Env} : ∀ env ∈ l, ∀ b, env.frame = some b → b ∈ frs l := fun env he b hb => List.mem_filterMap.mpr ⟨env, he, hb⟩
structure Past (l : List Env) (no : List Addr) (h h' : Heap) : Prop where
  keep : ∀ b o, h.get? b = some o → b ∉ frs l → b ∉ no → h'.get? b = some o
  slot : ∀ b o, h.get? b = some o → b ∈ frs l → ∃ sl, h'.get? b = some { o with slots := sl }
section
variable {M : Model} {A : Around} {E : Value → Shared → Prop} {s : Shared} {base : Heap} {env : Env} {outer : List Env} {L a T : Addr} {cls a0 : Value} {Q : Unit → Shared → Prop}
theorem past_left {no : List Addr} {h h' : Heap} {l : List Env} (hl : h.FunFrames base l) (x : Heap.LeftW (PySem.W.hideAll h (no ++ frs l)) l a cls a0 h h') : Past l no h h' := by
  obtain ⟨k1, k2, k3, k4⟩ := x
  refine ⟨fun b o hb h1 h2 => k1 b o (PySem.W.hideAll_get _ hb fun z => ?_), fun b o hb hm => ?_⟩
  · rcases List.mem_append.mp z with z | z
    · exact h2 z
    · exact h1 z
  · obtain ⟨_, o', ho', hd⟩ := hl.mem hm
    rw [hb] at ho'
    cases ho'
    exact k4 b o hb hd
theorem trc_left {no : List Addr} {h h' : Heap} {l : List Env} (hl : h.FunFrames base l) (x : Heap.LeftW (PySem.W.hideAll h (no ++ frs l)) l a cls a0 h h') : ∃ T', Trc h' a T' cls ∧ (T' ∈ no ∨ h.get? T' = none) := by
  have P := past_left hl x
  obtain ⟨k1, k2, k3, k4⟩ := x
  obtain ⟨oe, vs, T', oT, ts, e1, ⟨e2, e0⟩, e3, e4, e5, e6, e7, e8, e9⟩ := k3
  refine ⟨T', ⟨oe, vs, oT, ts, a0, e1, e2, e0, e3, e4, e6, e7, e8, e9⟩, ?_⟩
  cases q : h.get? T' with
  | none => exact .inr rfl
  | some o =>
    left
    apply Classical.byContradiction
    intro hno
    by_cases hf : T' ∈ frs l
    · obtain ⟨sl, z⟩ := P.slot T' o q hf
      obtain ⟨_, o', ho', hd⟩ := hl.mem hf
      rw [q] at ho'
      cases ho'
      rw [e7] at z
      cases z
      exact hd ts e8
    · have := PySem.W.hideAll_get (no ++ frs l) q fun z => (List.mem_append.mp z).elim hno hf
      rw [e5] at this
      cases this
theorem leave_first {h0 : Heap} {vs : List Value} (hfr : A.frames = some (env :: outer)) (hl : s.heap.FunFrames base (env :: outer)) (hf : env.frame = some L) (hx : Heap.MadeExcOf h0 s.heap a cls vs)
    (h : ∀ h' T', Past (env :: outer) [a] s.heap h' → Trc h' a T' cls → s.heap.get? T' = none → Q () { s with heap := h' }) : wpAny M A (leaving env (.ref a)) Q E s := by
  obtain ⟨t, he, htn, ht⟩ := hx.there
  refine wpAny_leaving_firstW (a0 := .ref t) (base := PySem.W.hideAll s.heap ([a] ++ frs (env :: outer))) hfr (PySem.W.funFrames_hide hl fun e he b hb => List.mem_append_right _ (frs_in e he b hb)) hf he
    (fun b o q => PySem.W.of_hideAll _ q) (PySem.W.hideAll_none _ (by simp)) rfl rfl rfl fun h' hL => ?_
  obtain ⟨T', t', n'⟩ := trc_left hl hL
  refine h h' T' (past_left hl hL) t' ?_
  rcases n' with n' | n'
  · have z : T' = a := by simpa using n'
    obtain ⟨_, _, _, _, _, _, _, _, _, _, q, _⟩ := t'
    exact absurd z q
  · exact n'
end
theorem ObjOk.obj {P : Program} {w : World} {H : Hp} {h : Heap} {a : Addr} {o : HO} (x : ObjOk P w H h a o) : ∃ u, h.get? a = some u := by
  cases o with
  | lst xs => obtain ⟨_, _, _, _, e⟩ := x; exact ⟨_, e⟩
  | tup xs => obtain ⟨_, _, _, o, e, _⟩ := x; exact ⟨_, e⟩
  | dK kvs => obtain ⟨_, _, _, _, o, _, _, e, _⟩ := x; exact ⟨_, e⟩
  | dT kvs => obtain ⟨_, _, _, _, o, _, _, e, _⟩ := x; exact ⟨_, e⟩
  | set S n => obtain ⟨o, _, _, _, e, _⟩ := x; exact ⟨_, e⟩
  | ins C dx fs => obtain ⟨_, _, _, e, _⟩ := x; exact ⟨_, e⟩
  | own y => exact x
  | xd fs => obtain ⟨_, ⟨_, _, _, e, _⟩, _⟩ := x; exact ⟨_, e⟩
  | rng lo hi => obtain ⟨_, _, _, e⟩ := x; exact ⟨_, e⟩
  | frz ob u => obtain ⟨e, _⟩ := x; exact ⟨_, e⟩
  | tbl ps => exact ⟨_, show h.get? a = some _ from x⟩
  | met f y => exact ⟨_, show h.get? a = some _ from x⟩
  | ext φ => obtain ⟨_, e, _⟩ := x; exact e
theorem HOk.none_of {P : Program} {w : World} {H : Hp} {h : Heap} (ok : HOk P w H h) {a : Addr} (n : h.get? a = none) : H a = none := by
  cases q : H a with
  | none => rfl
  | some o =>
    obtain ⟨u, e⟩ := (ok a o q).obj
    rw [n] at e
    cases e
theorem HOk.past {P : Program} {w : World} {H : Hp} {h h' : Heap} {l : List Env} {no : List Addr} (ok : HOk P w H h) (p : Past l no h h') (hl : ∀ b ∈ frs l, H b = none) (hn : ∀ b ∈ no, H b = none) : HOk P w H h' := fun b u e => by
  refine (ok b u e).stay (fun c v hc q => p.keep c v q (fun z => ?_) fun z => ?_) (fun _ q => q) fun _ _ q => q
  · have n := hl c z
    rcases hc with rfl | hc
    · rw [n] at e; cases e
    · rw [n] at hc; cases hc
  · have n := hn c z
    rcases hc with rfl | hc
    · rw [n] at e; cases e
    · rw [n] at hc; cases hc
def CX1 (P : Program) (w : World) : CXT := fun outer H s E e s' => ∃ a T cls H', e = .ref a ∧ s'.os = s.os ∧ AllBare s'.gens ∧ Un (frs outer) [] H H' s.heap s'.heap ∧ HOk P w H' s'.heap ∧
  H' a = none ∧ H' T = none ∧ s.heap.get? a = none ∧ s.heap.get? T = none ∧ Trc s'.heap a T cls ∧ E cls none H'
section
variable {P : Program} {w : World} {K : PySem.W.Frag} {mg : Str → Option Value} {base : Heap} {N : List Str} {qual : Str} {scope : Scope} {f : Addr} {cd : Value} {A : Around} {outer : List Env} {s0 : Shared} {H0 : Hp} {E : XK}
abbrev cx1 (P : Program) (w : World) (K : PySem.W.Frag) (mg : Str → Option Value) (base : Heap) (N : List Str) (qual : Str) (scope : Scope) (f : Addr) (cd : Value) (A : Around) (outer : List Env) (s : Shared) (H : Hp) (E : XK) : Cx := cxOf (CX1 P w) P w K mg base N qual scope f cd A outer s H E
theorem none_back {h0 h : Heap} {H H' : Hp} {fs : List Addr} (u : Un fs [] H H' h0 h) {b : Addr} (n : h.get? b = none) : h0.get? b = none := by
  cases q : h0.get? b with
  | none => rfl
  | some o =>
    obtain ⟨o', e⟩ := u.there b o q (by simp)
    rw [n] at e
    cases e
theorem cx1_out {pins : List (Addr × Obj)} {σ : St} {H : Hp} {s : Shared} {h' : Heap} {no : List Addr} {a T : Addr} {cls : Value} (I : Inv (cx1 P w K mg base N qual scope f cd A outer s0 H0 E) pins σ H s)
    (p : Past (cx1 P w K mg base N qual scope f cd A outer s0 H0 E).stack no s.heap h') (hn : ∀ b ∈ no, H b = none) (hn0 : ∀ b ∈ no, s0.heap.get? b = none) (ha : H a = none) (hT : H T = none) (ha0 : s0.heap.get? a = none) (hT0 : s0.heap.get? T = none) (t : Trc h' a T cls) (e : E cls none H) :
    CX1 P w outer H0 s0 E (.ref a) { s with heap := h' } := by
  refine ⟨a, T, cls, H, rfl, I.os, I.bare, ?_, I.hok.past p I.stkFree hn, ha, hT, ha0, hT0, t, e⟩
  have neL : ∀ b o, s0.heap.get? b = some o → b ≠ (cx1 P w K mg base N qual scope f cd A outer s0 H0 E).env.locals := fun b o q => Nat.ne_of_lt (Nat.lt_of_lt_of_le (Heap.lt_size q) I.ok.above)
  have u : Un (frs outer) [] H0 H s0.heap s.heap := I.base
  have nno : ∀ b o, s0.heap.get? b = some o → b ∉ no := fun b o q z => by rw [hn0 b z] at q; cases q
  have sub : ∀ b, b ∈ frs (cx1 P w K mg base N qual scope f cd A outer s0 H0 E).stack → b ≠ (cx1 P w K mg base N qual scope f cd A outer s0 H0 E).env.locals → b ∈ frs outer := fun b hb ne => (List.mem_cons.mp (I.stkSub b hb)).resolve_left ne
  refine ⟨fun b o q n hb _ => ?_, fun b o q n hb hx => ?_, u.free, fun b o q hx => ?_, u.tups, u.frzs, u.tbls⟩
  · exact p.keep b o (u.keep b o q n hb (by simp)) (fun z => hb (sub b z (neL b o q))) (nno b o q)
  · obtain ⟨sl, e1⟩ := u.slot b o q n hb hx
    by_cases z : b ∈ frs (cx1 P w K mg base N qual scope f cd A outer s0 H0 E).stack
    · obtain ⟨sl', e2⟩ := p.slot b _ e1 z
      exact ⟨sl', e2⟩
    · exact ⟨sl, p.keep b _ e1 z (nno b o q)⟩
  · obtain ⟨o', e1⟩ := u.there b o q hx
    by_cases z : b ∈ frs (cx1 P w K mg base N qual scope f cd A outer s0 H0 E).stack
    · obtain ⟨sl, e2⟩ := p.slot b _ e1 z
      exact ⟨_, e2⟩
    · exact ⟨o', p.keep b _ e1 z (nno b o q)⟩
theorem raised1 {pins : List (Addr × Obj)} {σ : St} {H : Hp} {s : Shared} {h' : Heap} {a : Addr} {cls : Value} {vs : List Value} (I : Inv (cx1 P w K mg base N qual scope f cd A outer s0 H0 E) pins σ H s) (hx : Heap.MadeExcOf s.heap h' a cls vs) (hE : E cls none H) :
    (cx1 P w K mg base N qual scope f cd A outer s0 H0 E).xe (.ref a) { s with heap := h' } := by
  have I' : Inv (cx1 P w K mg base N qual scope f cd A outer s0 H0 E) pins σ H { s with heap := h' } := I.un (t' := s.toks) (Un.kept hx.keeps) (I.hok.kept hx.keeps)
  have hl := I'.stack
  have na : H a = none := I.hok.none_of hx.new
  have a0 : s0.heap.get? a = none := none_back (show Un (frs outer) [] H0 H s0.heap s.heap from I.base) hx.new
  refine leave_first (base := base) I'.ok.frames hl rfl hx fun h2 T' p t' n' => ?_
  have n0 : s0.heap.get? T' = none := none_back (show Un (frs outer) [] H0 H s0.heap h' from I'.base) n'
  refine cx1_out I' p (fun b hb => ?_) (fun b hb => ?_) na (I'.hok.none_of n') a0 n0 t' hE
  · have : b = a := by simpa using hb
    subst this; exact na
  · have : b = a := by simpa using hb
    subst this; exact a0
end
end L2
namespace L2
open PySem PySem.Spec PyProof.Rows
theorem exc_obj {K : PySem.W.Frag} {h : Heap} {C : Addr} {bmB : List Value} {newId : String} (kin : K.In h) (q : PySem.W.excIn K C bmB newId = true) :
    ∃ bm N nm qn bs hd sn sub ab col dd k0 k1 k2 k3 k5 mN, h.get? C = some (excClassObj nm qn C N bs bm hd sn sub ab col dd k0 k1 k2 k3 k5 newId) ∧ h.Ns N mN ∧ mN "__init__" = none ∧ OwnTail h bmB bm := by
  unfold PySem.W.excIn at q
  split at q
  case h_2 => exact absurd q Bool.false_ne_true
  case h_1 ob dd cd sl lk =>
    split at q
    case h_2 => exact absurd q Bool.false_ne_true
    case h_1 C1 tl k0 k1 k2 k3 nw k5 mro slots =>
      simp only [Bool.and_eq_true, beq_iff_eq, Bool.not_eq_true'] at q
      rcases q with ⟨⟨⟨⟨⟨c1, c2⟩, c3⟩, c4⟩, c5⟩, c6⟩
      cases c1
      cases c2
      rcases cd with ⟨nm, bs, mr, ns, qn, hd, sn, sub, ab, col, dl⟩
      have m1 : mr = .ref C :: tl := mro
      have m2 : dl = false := c3
      have m3 : sl = #[k0, k1, k2, k3, some (.builtin newId), k5] := by
        rw [← Array.toArray_toList (xs := sl), slots]
      rw [m1, m2, m3] at lk
      exact ⟨tl, ns, nm, qn, bs, hd, sn, sub, ab, col, dd, k0, k1, k2, k3, k5, _, kin _ _ lk, .of_isNs (PySem.W.isNs_of_in kin c5), PySem.W.nsMap_none_of_in kin c5 c6, PySem.W.tail_of_in kin c4⟩
structure ExcC (K : PySem.W.Frag) (mg : Str → Option Value) (x : Str) (C : Addr) : Prop where
  mgx : mg x = some (.ref C)
  ob : ∃ bmB B nid initId, ExcBaseFacts B nid initId bmB ∧ PySem.W.excIn K C bmB nid = true
def tRaise (cls : Value) (E : XK) : TS := fun _ _ H => E cls none H
section
variable {P : Program} {w : World} {K : PySem.W.Frag} {mg : Str → Option Value} {base : Heap} {N : List Str} {qual : Str} {scope : Scope} {f : Addr} {cd : Value} {A : Around} {outer : List Env} {s0 : Shared} {H0 : Hp} {E : XK}
theorem ps_raise {x m : Str} {C : Addr} {np mp cpos pos : Pos} {j : Nat} (O : ExcC K mg x C) (hg : Gl (cx1 P w K mg base N qual scope f cd A outer s0 H0 E) x) (hd : (x == ("__debug__" : Str)) = false := by decide) :
    PS (cx1 P w K mg base N qual scope f cd A outer s0 H0 E) (.Raise (some (.Call (.Name x np) [.Constant (.str m) j mp] [] cpos)) none pos) (tRaise (.ref C) E) := by
  intro pins s σ H D I h
  obtain ⟨bmB, B, nid, initId, FB, q⟩ := O.ob
  obtain ⟨bm, NS, nm, qn, bs, hdc, sn, sub, ab, col, dd, k0, k1, k2, k3, k5, mN, hC, hN, hi, T⟩ := exc_obj I.ok.mod.kin q
  refine wpAny_Raise_call_subU (C := C) (nm := nm) (q := qn) (N := NS) (bs := bs) (bm := bm) (hdct := hdc) (sn := sn) (sub := sub) (ab := ab) (col := col) (dd := dd) (k0 := k0) (k1 := k1) (k2 := k2) (k3 := k3) (k5 := k5) (mN := mN)
    FB FB.hasB FB (T.hasType FB.hasBase) (I.ok.hd rfl) rfl hi (ld_glob I hg O.mgx ⟨rfl, ?_⟩ hd)
  have pa : PA (cx1 P w K mg base N qual scope f cd A outer s0 H0 E) [.Constant (.str m) j mp] (tCons (tC (.str m)) tNil) := pa_cons pe_str pa_nil
  refine Calls.evalArgs_plain (thn (pa cpos pins s σ H (fun vs H1 => vs.length = 1 ∧ H1 = H) I ⟨rfl, rfl⟩) fun us s1 ⟨vs, H1, I1, r, q1, q2⟩ => ?_)
  subst q2
  refine ⟨rfl, ?_, I1.bk _ _ hC, hN.keeps I1.bk, T.keeps I1.bk, fun h' e hx => raised1 I1 hx h⟩
  have := r.length
  show us.length ≤ sizeLine
  rw [← this, q1]
  decide
end
theorem Fun.ok1 {P : Program} {w : World} {K : PySem.W.Frag} {mg : Str → Option Value} {base : Heap} {x qual : Str} {st : Stmt} {f : Addr} {fd : FuncData} {N ps : List Str} {k : Nat} {sp : Sp} (F : Fun K x qual st f fd) (S : FnScope N ps (defScope st)) (len : ∀ vs H Q E, sp vs H Q E → vs.length = ps.length)
    (hbody : ∀ (cdv : Value) (A : Around) (outer : List Env) (s : Shared) (H : Hp) (vs : List V) (Q : VK) (E : XK), Room k (A.deeper (envOfC qual (defScope st) s.heap.objs.size f cdv)) → sp vs H Q E →
      ∃ t, PSs (cx1 P w K mg base N qual (defScope st) f cdv A outer s H E) (defBody st) t ∧ t { nx := fun _ H' => Q .non H', rt := Q } (start N vs) H) : FnOk P w K mg base (CX1 P w) (k + 1) f fd ps sp := by
  obtain ⟨oc, od, kV, doc, pm, an, cdv, ct, osl, rfl, lk, hcd⟩ := F.ex
  exact fn_of lk hcd S len fun A outer s H vs Q E hr hsp => hbody cdv A outer s H vs Q E hr hsp
end L2
namespace L2
open PySem PySem.Spec PyProof.Rows
def excO (a : Addr) (cls : Value) : HO := .ext fun h => ∃ oe vs, h.get? a = some oe ∧ oe.cls = cls ∧ oe.data = .fields vs
abbrev Cx.inH (X : Cx) (a : Addr) : Cx := { X with A := X.A.mark (some (.ref a)), calm := false, xe := fun _ _ => False }
abbrev Cx.inT (X : Cx) (pn : List (Addr × Obj)) (xe : Value → Shared → Prop) : Cx := { X with pn := pn, xe := xe }
section
variable {X : Cx} {pins pn : List (Addr × Obj)} {σ : St} {H : Hp} {s : Shared} {a : Addr} {xe : Value → Shared → Prop}
theorem Cx.Ok.inH (ok : X.Ok) (a : Addr) : (X.inH a).Ok :=
  ⟨ok.mod, ok.kind, ok.glob, ok.blt, ok.above, ok.inj, ok.has, ok.cab, (fun h => nomatch h), ok.frames, ok.stk, ok.exf, ok.bs, ok.bsz, ok.noex, ok.exfs, ok.funs, ok.frf⟩
theorem Inv.inH (I : Inv X pins σ H s) (a : Addr) : Inv (X.inH a) pins σ H s := ⟨I.ok.inH a, I.os, I.bare, I.base, I.loc, I.cell, I.free, I.freeC, I.pin, I.hok, I.len⟩
theorem Inv.ofH (I : Inv (X.inH a) pins σ H s) (ok : X.Ok) : Inv X pins σ H s := ⟨ok, I.os, I.bare, I.base, I.loc, I.cell, I.free, I.freeC, I.pin, I.hok, I.len⟩
theorem Inv.inT (I : Inv X pins σ H s) (xe : Value → Shared → Prop) : Inv (X.inT (X.pn ++ pins) xe) [] σ H s :=
  ⟨⟨I.ok.mod, I.ok.kind, I.ok.glob, I.ok.blt, I.ok.above, I.ok.inj, I.ok.has, I.ok.cab, I.ok.hd, I.ok.frames, I.ok.stk, I.ok.exf, I.ok.bs, I.ok.bsz, I.ok.noex, I.ok.exfs, I.ok.funs, I.ok.frf⟩,
    I.os, I.bare, I.base, I.loc, I.cell, I.free, I.freeC, fun p hp => I.pin p (by simpa using hp), I.hok, I.len⟩
theorem Inv.ofT {more : List (Addr × Obj)} (I : Inv (X.inT (X.pn ++ pins) xe) more σ H s) : Inv X pins σ H s :=
  ⟨⟨I.ok.mod, I.ok.kind, I.ok.glob, I.ok.blt, I.ok.above, I.ok.inj, I.ok.has, I.ok.cab, I.ok.hd, I.ok.frames, I.ok.stk, I.ok.exf, I.ok.bs, I.ok.bsz, I.ok.noex, I.ok.exfs, I.ok.funs, I.ok.frf⟩,
    I.os, I.bare, I.base, I.loc, I.cell, I.free, I.freeC, fun p hp => I.pin p (List.mem_append_left _ hp), I.hok, I.len⟩
theorem SP.ofT {D : Ends} {f : Flow} {s' : Shared} (h : SP (X.inT (X.pn ++ pins) xe) [] D f s') : SP X pins D f s' := by
  cases f with
  | next => obtain ⟨σ', H', I, q⟩ := h; exact ⟨σ', H', I.ofT, q⟩
  | brk => obtain ⟨σ', H', I, q⟩ := h; exact ⟨σ', H', I.ofT, q⟩
  | cont => obtain ⟨σ', H', I, q⟩ := h; exact ⟨σ', H', I.ofT, q⟩
  | ret u => obtain ⟨v, σ', H', I, r, q⟩ := h; exact ⟨v, σ', H', I.ofT, r, q⟩
theorem Inv.gone {n : Str} {i : Nat} {m : Str → Option Value} {v : Option Value} {h' : Heap} {tk : Nat} (I : Inv X pins σ H s) (hN : X.N.Nodup) (hi : X.N[i]? = some n) (hl : X.env.kindOf n = some .local)
    (hm : ∀ (i : Nat) (x : Str) (v : V), X.N[i]? = some x → σ[i]? = some (some v) → Vis X.env.scope x → ∃ u, RelV v u ∧ Look X.env s.heap m x u)
    (hn : h'.Ns X.env.locals (fun x => if x = n then v else m x)) (hs : Heap.SameBut X.env.locals s.heap h') : Inv X pins (σ.set i none) H { s with heap := h', toks := tk } := by
  have neL : ∀ b o, X.s₀.heap.get? b = some o → b ≠ X.env.locals := fun b o e => Nat.ne_of_lt (Nat.lt_of_lt_of_le (Heap.lt_size e) I.ok.above)
  have kp : ∀ b o, b ≠ X.env.locals → s.heap.get? b = some o → h'.get? b = some o := fun b o hb e => (hs.2 b hb).trans e
  refine ⟨I.ok, I.os, I.bare, ⟨fun b o e n' hb hx => ?_, fun b o e n' hb hx => ?_, I.base.free, fun b o e hx => ?_, I.base.tups, I.base.frzs, I.base.tbls⟩, ⟨_, hn, fun j y w e1 e2 e3 => ?_⟩, fun y c e => ?_, I.free, I.freeC, fun p hp => ?_, fun b u e => ?_, by simpa using I.len⟩
  · exact kp b o (neL b o e) (I.base.keep b o e n' hb hx)
  · obtain ⟨sl, e1⟩ := I.base.slot b o e n' hb hx
    exact ⟨sl, kp b _ (neL b o e) e1⟩
  · obtain ⟨o', e1⟩ := I.base.there b o e hx
    exact ⟨o', kp b _ (neL b o e) e1⟩
  · have hj : j ≠ i := by
      intro q
      subst q
      rw [List.getElem?_set] at e2
      simp at e2
    rw [List.getElem?_set_ne (Ne.symm hj)] at e2
    obtain ⟨u, r, l⟩ := hm j y w e1 e2 e3
    have hyn : y ≠ n := fun q => hj (nodup_ix hN e1 (q ▸ hi))
    refine ⟨u, r, ?_⟩
    rcases l with ⟨k, z⟩ | ⟨k, c, e, z⟩
    · exact .inl ⟨k, by show (if y = n then v else m y) = _; rw [if_neg hyn]; exact z⟩
    · obtain ⟨oc, ho, hd⟩ := z
      exact .inr ⟨k, c, e, oc, kp c oc (I.cne y c e) ho, hd⟩
  · obtain ⟨w, oc, ho, hd⟩ := I.cell y c e
    exact ⟨w, oc, kp c oc (I.cne y c e) ho, hd⟩
  · obtain ⟨e, n', ne, nf, d⟩ := I.pin p hp
    exact ⟨kp p.1 p.2 ne e, n', ne, nf, d⟩
  · refine (I.hok b u e).stay (fun c w hc q => kp c w (fun z => ?_) q) (fun _ q => q) fun _ _ q => q
    have fr := I.free
    rw [← z] at fr
    rcases hc with rfl | hc
    · rw [fr] at e; cases e
    · rw [fr] at hc; cases hc
theorem Inv.past {h' : Heap} {no : List Addr} {s1 : Shared} {σ1 : St} {H1 : Hp} (I : Inv X pins σ H s) (I1 : Inv X pins σ1 H1 s1) (hex : X.ex = []) (p : Past X.stack no s.heap h') (hn : ∀ b ∈ no, H b = none) (hn1 : ∀ b ∈ no, s1.heap.get? b = none) : Inv X pins σ H { s with heap := h' } := by
  have any : ∀ b o, s.heap.get? b = some o → b ∉ no → ∃ sl, h'.get? b = some { o with slots := sl } := fun b o e hb => by
    by_cases z : b ∈ frs X.stack
    · exact p.slot b o e z
    · exact ⟨o.slots, p.keep b o e z hb⟩
  have neL : ∀ b o, X.s₀.heap.get? b = some o → b ≠ X.env.locals := fun b o e => Nat.ne_of_lt (Nat.lt_of_lt_of_le (Heap.lt_size e) I.ok.above)
  have was : ∀ b o, s1.heap.get? b = some o → b ∉ no := fun b o e z => by rw [hn1 b z] at e; cases e
  have nno : ∀ b o, X.s₀.heap.get? b = some o → b ∉ no := fun b o e => by
    obtain ⟨o', e1⟩ := I1.base.there b o e (by rw [hex]; simp)
    exact was b o' e1
  have sub : ∀ b, b ∈ frs X.stack → b ≠ X.env.locals → b ∈ X.fs := fun b hb ne => (List.mem_cons.mp (I.stkSub b hb)).resolve_left ne
  have cno : ∀ x c, X.env.cells.lookup x = some c → c ∉ no := fun x c e => by
    obtain ⟨_, o, ho, _⟩ := I1.cell x c e
    exact was c o ho
  have cellK : ∀ x c, X.env.cells.lookup x = some c → ∀ v, s.heap.IsCell c v → h'.IsCell c v := fun x c e v ⟨o, ho, hd⟩ => by
    obtain ⟨sl, q⟩ := any c o ho (cno x c e)
    exact ⟨_, q, hd⟩
  refine ⟨I.ok, I.os, I.bare, ⟨fun b o e n' hb hx => ?_, fun b o e n' hb hx => ?_, I.base.free, fun b o e hx => ?_, I.base.tups, I.base.frzs, I.base.tbls⟩, ?_, fun y c e => ?_, I.free, I.freeC, fun q hq => ?_, I.hok.past p I.stkFree hn, I.len⟩
  · exact p.keep b o (I.base.keep b o e n' hb hx) (fun z => hb (sub b z (neL b o e))) (nno b o e)
  · obtain ⟨sl, e1⟩ := I.base.slot b o e n' hb hx
    obtain ⟨sl', e2⟩ := any b _ e1 (nno b o e)
    exact ⟨sl', e2⟩
  · obtain ⟨o', e1⟩ := I.base.there b o e hx
    obtain ⟨sl', e2⟩ := any b _ e1 (nno b o e)
    exact ⟨_, e2⟩
  · obtain ⟨m, ⟨o, es, ep, ho, r⟩, hm⟩ := I.loc
    obtain ⟨_, ⟨o1, _, _, ho1, _⟩, _⟩ := I1.loc
    obtain ⟨sl, e2⟩ := any _ o ho (was _ o1 ho1)
    refine ⟨m, ⟨_, es, ep, e2, r⟩, fun j y w e1 e2 e3 => ?_⟩
    obtain ⟨u, r, l⟩ := hm j y w e1 e2 e3
    refine ⟨u, r, ?_⟩
    rcases l with l | ⟨k, c, e, z⟩
    · exact .inl l
    · exact .inr ⟨k, c, e, cellK y c e _ z⟩
  · obtain ⟨w, z⟩ := I.cell y c e
    exact ⟨w, cellK y c e w z⟩
  · obtain ⟨e, n', ne, nf, d⟩ := I.pin q hq
    obtain ⟨e1, _⟩ := I1.pin q hq
    exact ⟨p.keep q.1 q.2 e (fun z => nf (sub _ z ne)) (was _ _ e1), n', ne, nf, d⟩
theorem Inv.caught {cls : Value} {s1 : Shared} {σ1 : St} {H1 : Hp} (I : Inv X pins σ H s) (I1 : Inv X pins σ1 H1 s1) (hex : X.ex = []) (ha : H a = none) (n1 : s1.heap.get? a = none) (ex : ∃ oe vs, s.heap.get? a = some oe ∧ oe.cls = cls ∧ oe.data = .fields vs) : Inv X pins σ (upd H a (excO a cls)) s := by
  have ne : ∀ b o, s1.heap.get? b = some o → b ≠ a := fun b o e z => by rw [z, n1] at e; cases e
  have ne0 : ∀ b o, X.s₀.heap.get? b = some o → b ≠ a := fun b o e => by
    obtain ⟨o', e1⟩ := I1.base.there b o e (by rw [hex]; simp)
    exact ne b o' e1
  have neH : ∀ b u, H b = some u → b ≠ a := fun b u e z => by rw [z, ha] at e; cases e
  refine ⟨I.ok, I.os, I.bare, ⟨I.base.keep, I.base.slot, fun b o e n' hx => ?_, I.base.there, fun b xs e => ?_, fun b o xs e => ?_, fun b ps e => ?_⟩, I.loc, I.cell, ?_, fun y c e => ?_, fun q hq => ?_, fun b u e => ?_, I.len⟩
  · rw [upd_ne (ne0 b o e)]; exact I.base.free b o e n' hx
  · rw [upd_ne (neH b _ (I.base.tups b xs e))]; exact I.base.tups b xs e
  · rw [upd_ne (neH b _ (I.base.frzs b o xs e))]; exact I.base.frzs b o xs e
  · obtain ⟨more, e1⟩ := I.base.tbls b ps e
    exact ⟨more, by rw [upd_ne (neH b _ e1)]; exact e1⟩
  · obtain ⟨_, ⟨o1, _, _, ho1, _⟩, _⟩ := I1.loc
    rw [upd_ne (ne _ o1 ho1)]; exact I.free
  · obtain ⟨_, o, ho, _⟩ := I1.cell y c e
    rw [upd_ne (ne c o ho)]; exact I.freeC y c e
  · obtain ⟨e1, _⟩ := I1.pin q hq
    obtain ⟨p1, p2, p3⟩ := I.pin q hq
    exact ⟨p1, by rw [upd_ne (ne _ _ e1)]; exact p2, p3⟩
  · by_cases hb : b = a
    · subst hb
      rw [upd_same] at e
      cases e
      obtain ⟨oe, vs, x1, x2, x3⟩ := ex
      exact ⟨⟨oe, vs, x1, x2, x3⟩, ⟨oe, x1⟩, fun h1 h2 ⟨o1, v1, y1, y2, y3⟩ k => ⟨o1, v1, k o1 y1, y2, y3⟩⟩
    · rw [upd_ne hb] at e
      exact (I.hok b u e).stay (fun c v _ q => q) (fun c q => by rw [upd_ne (neH c _ q)]; exact q) fun c xs q => by rw [upd_ne (neH c _ q)]; exact q
end
def PassAt (CX : CXT) (X : Cx) (E : XK) (σ : St) : Prop := ∀ (pins : List (Addr × Obj)) (H : Hp) (s : Shared) (e : Value) (s' : Shared), Inv X pins σ H s → CX X.stack H s E e s' → X.xe e s'
def tTry (tb : XK → St → TS) (th : Value → Addr → TS) : TS := fun D σ H => tb (fun cls _ H' => ∀ a, H' a = none → th cls a D σ (upd H' a (excO a cls))) σ D σ H
def tHandAs (K : PySem.W.Frag) (C : Addr) (i : Nat) (t : TS) : Value → Addr → TS := fun cls a D σ H => PySem.W.exmOne K cls (.ref C) = some true ∧
  t { nx := fun σ' H' => D.nx (σ'.set i none) H', rt := D.rt, bk := fun σ' H' => D.bk (σ'.set i none) H', ct := fun σ' H' => D.ct (σ'.set i none) H' } (σ.set i (some (.ref a))) H
def tHand (K : PySem.W.Frag) (C : Addr) (t : TS) : Value → Addr → TS := fun cls _ D σ H => PySem.W.exmOne K cls (.ref C) = some true ∧ t D σ H
section
variable {X : Cx} {body : List Stmt} {x n : Str} {b0 : Stmt} {suite : List Stmt} {pos hpos np : Pos} {C : Addr} {tb : XK → St → TS} {t : TS} {i : Nat}
theorem caught_at {pins : List (Addr × Obj)} {σ : St} {H1 : Hp} {s1 s' : Shared} {e : Value} {E' : XK} {Q : Flow → Shared → Prop} {h0 : ExceptHandler} {E : Value → Shared → Prop}
    (hst : X.stack = X.env :: X.outer) (hfr : X.env.frame = some X.env.locals) (hex : X.ex = []) (I1 : Inv X pins σ H1 s1) (hcx : CX1 X.prog X.w X.stack H1 s1 E' e s')
    (k : ∀ a T cls H' h2, e = .ref a → H' a = none → H' T = none → s1.heap.get? a = none → s1.heap.get? T = none → E' cls none H' → Trc h2 a T cls → Inv X pins σ H' { s' with heap := h2 } → wpAny (model X.prog X.w) X.A (handleBy e X.env [h0]) Q E { s' with heap := h2 }) :
    wpAny (model X.prog X.w) X.A (noteFrame e X.env) (fun _ s₂ => wpAny (model X.prog X.w) X.A (setFlight e none) (fun _ s₃ => wpAny (model X.prog X.w) X.A (handleBy e X.env [h0]) Q E s₃) E s₂) E s' := by
  obtain ⟨a, T, cls, H', rfl, os, bare, un, hok, fa, fT, na, nT, tr, hE⟩ := hcx
  obtain ⟨hh, g, d, tk, os'⟩ := s'
  obtain rfl : os' = s1.os := os
  have I' : Inv X pins σ H' { s1 with heap := hh, gens := g, drawn := d, toks := tk } := I1.call (h' := hh) (g' := g) (d' := d) (t' := tk) (ch := []) un hok bare (fun b z => absurd z (by simp))
  have fr := I'.ok.frames
  have hl := I'.stack
  rw [hst] at fr hl
  obtain ⟨oe, vs, oT, ts, a0, e1, e2, e0, e3, e4, e6, e7, e8, e9⟩ := tr
  have hl' : hh.FunFrames (PySem.W.hideAll hh ([a, T] ++ frs (X.env :: X.outer))) (X.env :: X.outer) := PySem.W.funFrames_hide hl fun e he b hb => List.mem_append_right _ (frs_in e he b hb)
  refine wpAny_noteFrame_onW (a0 := a0) (base := PySem.W.hideAll hh ([a, T] ++ frs (X.env :: X.outer))) fr hl' hfr
    ⟨oe, vs, T, oT, ts, e1, ⟨e2, e0⟩, e3, e4, PySem.W.hideAll_none _ (by simp), e6, e7, e8, e9⟩ (fun b o q => PySem.W.of_hideAll _ q) (PySem.W.hideAll_none _ (by simp)) fun h1 hN => ?_
  obtain ⟨n1, n2, n3, n4⟩ := hN
  refine wpAny_setFlight_noneW n1 n2 n3 fun h2 m1 m2 m3 m4 => ?_
  have hL : Heap.LeftW (PySem.W.hideAll hh ([a, T] ++ frs (X.env :: X.outer))) (X.env :: X.outer) a cls a0 hh h2 := ⟨m1, m2, m3, fun b o hb hnf => by
    obtain ⟨sl, q⟩ := n4 b o hb hnf
    exact ⟨sl, m4 b _ q hnf⟩⟩
  obtain ⟨T', t', n'⟩ := trc_left hl hL
  have P := past_left hl hL
  rw [← hst] at P
  have both : ∀ b ∈ [a, T], H' b = none ∧ s1.heap.get? b = none := fun b hb => by
    have : b = a ∨ b = T := by simpa using hb
    rcases this with rfl | rfl
    · exact ⟨fa, na⟩
    · exact ⟨fT, nT⟩
  have I2 := I'.past I1 hex P (fun b hb => (both b hb).1) (fun b hb => (both b hb).2)
  have hT' : H' T' = none ∧ s1.heap.get? T' = none := by
    rcases n' with n' | n'
    · exact both T' n'
    · refine ⟨I'.hok.none_of n', ?_⟩
      cases q : s1.heap.get? T' with
      | none => rfl
      | some o =>
        obtain ⟨o', z⟩ := un.there T' o q (by simp)
        rw [show hh.get? T' = none from n'] at z
        cases z
  exact k a T' cls H' h2 rfl fa hT'.1 na hT'.2 hE t' I2
theorem land_at {pins : List (Addr × Obj)} {σ : St} {H1 H' : Hp} {s1 s' : Shared} {a T : Addr} {cls : Value} {Q : Unit → Shared → Prop} {E : Value → Shared → Prop} {A : Around}
    (hst : X.stack = X.env :: X.outer) (hex : X.ex = []) (I1 : Inv X pins σ H1 s1) (I : Inv X pins σ H' s') (fa : H' a = none) (fT : H' T = none) (na : s1.heap.get? a = none) (nT : s1.heap.get? T = none) (tr : Trc s'.heap a T cls)
    (k : ∀ h2, Inv X pins σ (upd H' a (excO a cls)) { s' with heap := h2 } → Q () { s' with heap := h2 }) : wpAny (model X.prog X.w) A (setFlight (.ref a) none) Q E s' := by
  have hl := I.stack
  rw [hst] at hl
  obtain ⟨oe, vs, oT, ts, a0, e1, e2, e0, e3, e4, e6, e7, e8, e9⟩ := tr
  have hl' : s'.heap.FunFrames (PySem.W.hideAll s'.heap ([a, T] ++ frs (X.env :: X.outer))) (X.env :: X.outer) := PySem.W.funFrames_hide hl fun e he b hb => List.mem_append_right _ (frs_in e he b hb)
  refine wpAny_setFlight_noneW (base := PySem.W.hideAll s'.heap ([a, T] ++ frs (X.env :: X.outer))) (a0 := a0) (fl := .none) (cls := cls) (fun b o q => PySem.W.of_hideAll _ q) hl' ⟨oe, vs, T, oT, ts, e1, ⟨e2, e0⟩, e3, e4, PySem.W.hideAll_none _ (by simp), e6, e7, e8, e9⟩ fun h2 m1 m2 m3 m4 => ?_
  have hL : Heap.LeftW (PySem.W.hideAll s'.heap ([a, T] ++ frs (X.env :: X.outer))) (X.env :: X.outer) a cls a0 s'.heap h2 := ⟨m1, m2, m3, fun b o hb hnf => ⟨o.slots, m4 b _ hb hnf⟩⟩
  have P := past_left hl hL
  rw [← hst] at P
  have both : ∀ b ∈ [a, T], H' b = none ∧ s1.heap.get? b = none := fun b hb => by
    have : b = a ∨ b = T := by simpa using hb
    rcases this with rfl | rfl
    · exact ⟨fa, na⟩
    · exact ⟨fT, nT⟩
  have I2 := I.past I1 hex P (fun b hb => (both b hb).1) (fun b hb => (both b hb).2)
  obtain ⟨ob, ws, _, _, _, x1, ⟨x2, _⟩, x3, _⟩ := m3
  exact k h2 (I2.caught I1 hex fa na ⟨ob, ws, x1, x2, x3⟩)
theorem ps_tryAs (hb : ∀ (pn : List (Addr × Obj)) (xe : Value → Shared → Prop) (E : XK) (σ : St), PassAt (CX1 X.prog X.w) (X.inT pn xe) E σ → PSs (X.inT pn xe) body (tb E σ)) (hm : X.mg x = some (.ref C)) (hg : Gl X x) (hi : X.N[i]? = some n) (hN : X.N.Nodup)
    (hl : X.env.kindOf n = some .local) (hs : ∀ a, PSs (X.inH a) (b0 :: suite) t) (hst : X.stack = X.env :: X.outer) (hfr : X.env.frame = some X.env.locals) (hex : X.ex = []) (hd : (x == ("__debug__" : Str)) = false := by decide) :
    PS X (.Try body [.ExceptHandler (some (.Name x np)) (some n) (b0 :: suite) hpos] [] [] pos) (tTry tb (tHandAs X.K C i t)) := by
  intro pins s σ H D I h
  refine wpAny_Try_except ?_
  refine wpAny_mono (hb (X.pn ++ pins) _ _ σ ?_ [] s σ H D (I.inT _) h) (fun f s1 hq => ?_) fun _ _ z => z
  · intro more H1 s1 e s' I1 hcx
    refine caught_at (h0 := .ExceptHandler (some (.Name x np)) (some n) (b0 :: suite) hpos) hst hfr hex I1.ofT hcx fun a T cls H' h2 ee fa fT na nT hE tr I2 => ?_
    subst ee
    obtain ⟨hx, hq⟩ := hE a fa
    refine wpAny_handleBy_cons (codeAny_handlers_test (ld_glob (I2.inH a) hg hm ?_ hd)) (by intro q; cases q)
    obtain ⟨oe, vs, _, _, _, e1, e2, _⟩ := id tr
    have LT : PySem.W.Looks (model X.prog X.w) h2 (typeOf (.ref a)) cls := e2 ▸ (PySem.W.Looks.ld e1).andThen .now
    refine (PySem.W.exm_one I2.kIn LT hx).here ?_
    refine codeAny_handlers_suite_as ?_
    refine land_at hst hex I1.ofT I2 fa fT na nT tr fun h3 I3 => ?_
    refine store_ok (X := X.inH a) (I3.inH a) hN hi (.inl hl) (show RelV (.ref a) (.ref a) from rfl) (fun s4 I4 => ?_) (.inr hl)
    refine wpAny_mono (hs a pins s4 _ _ _ I4 hq) (fun f s5 hf => ?_) fun _ _ z => z.elim
    have go : ∀ {σ' : St} {H5 : Hp}, Inv (X.inH a) pins σ' H5 s5 → (∀ s6, Inv X pins (σ'.set i none) H5 s6 → SP X pins D f s6) → wpAny (model X.prog X.w) X.A (do bindName X.env n .none; unbindBehindTheSuite X.env n hpos) (fun _ s₃ => SP X pins D f s₃) X.xe s5 := fun {σ' H5} I5 k => by
      obtain ⟨m, hn, hmm⟩ := I5.loc
      refine wpAny_nameGoes_keeps hl hn ?_ fun h6 v hn6 hs6 => k _ ((I5.ofH I.ok).gone hN hi hl hmm hn6 hs6)
      rw [I.ok.kind]
      rfl
    show wpAny (model X.prog X.w) X.A (do bindName X.env n .none; unbindBehindTheSuite X.env n hpos) (fun _ s₃ => SP X pins D f s₃) X.xe s5
    cases f with
    | next => obtain ⟨σ', H5, I5, q⟩ := hf; exact go I5 fun s6 I6 => ⟨_, H5, I6, q⟩
    | brk => obtain ⟨σ', H5, I5, q⟩ := hf; exact go I5 fun s6 I6 => ⟨_, H5, I6, q⟩
    | cont => obtain ⟨σ', H5, I5, q⟩ := hf; exact go I5 fun s6 I6 => ⟨_, H5, I6, q⟩
    | ret u => obtain ⟨v, σ', H5, I5, r, q⟩ := hf; exact go I5 fun s6 I6 => ⟨v, _, H5, I6, r, q⟩
  · have hq' := hq.ofT
    cases f with
    | next => exact wpAny_execs_nil hq'
    | brk => exact hq'
    | cont => exact hq'
    | ret u => exact hq'
theorem ps_try (hb : ∀ (pn : List (Addr × Obj)) (xe : Value → Shared → Prop) (E : XK) (σ : St), PassAt (CX1 X.prog X.w) (X.inT pn xe) E σ → PSs (X.inT pn xe) body (tb E σ)) (hm : X.mg x = some (.ref C)) (hg : Gl X x)
    (hs : ∀ a, PSs (X.inH a) (b0 :: suite) t) (hst : X.stack = X.env :: X.outer) (hfr : X.env.frame = some X.env.locals) (hex : X.ex = []) (hd : (x == ("__debug__" : Str)) = false := by decide) :
    PS X (.Try body [.ExceptHandler (some (.Name x np)) none (b0 :: suite) hpos] [] [] pos) (tTry tb (tHand X.K C t)) := by
  intro pins s σ H D I h
  refine wpAny_Try_except ?_
  refine wpAny_mono (hb (X.pn ++ pins) _ _ σ ?_ [] s σ H D (I.inT _) h) (fun f s1 hq => ?_) fun _ _ z => z
  · intro more H1 s1 e s' I1 hcx
    refine caught_at (h0 := .ExceptHandler (some (.Name x np)) none (b0 :: suite) hpos) hst hfr hex I1.ofT hcx fun a T cls H' h2 ee fa fT na nT hE tr I2 => ?_
    subst ee
    obtain ⟨hx, hq⟩ := hE a fa
    refine wpAny_handleBy_cons (codeAny_handlers_test (ld_glob (I2.inH a) hg hm ?_ hd)) (by intro q; cases q)
    obtain ⟨oe, vs, _, _, _, e1, e2, _⟩ := id tr
    have LT : PySem.W.Looks (model X.prog X.w) h2 (typeOf (.ref a)) cls := e2 ▸ (PySem.W.Looks.ld e1).andThen .now
    refine (PySem.W.exm_one I2.kIn LT hx).here ?_
    refine codeAny_handlers_suite ?_
    refine land_at hst hex I1.ofT I2 fa fT na nT tr fun h3 I3 => ?_
    refine wpAny_mono (hs a pins _ _ _ _ (I3.inH a) hq) (fun f s5 hf => ?_) fun _ _ z => z.elim
    show SP X pins D f s5
    cases f with
    | next => obtain ⟨σ', H5, I5, q⟩ := hf; exact ⟨_, H5, I5.ofH I.ok, q⟩
    | brk => obtain ⟨σ', H5, I5, q⟩ := hf; exact ⟨_, H5, I5.ofH I.ok, q⟩
    | cont => obtain ⟨σ', H5, I5, q⟩ := hf; exact ⟨_, H5, I5.ofH I.ok, q⟩
    | ret u => obtain ⟨v, σ', H5, I5, r, q⟩ := hf; exact ⟨v, _, H5, I5.ofH I.ok, r, q⟩
  · have hq' := hq.ofT
    cases f with
    | next => exact wpAny_execs_nil hq'
    | brk => exact hq'
    | cont => exact hq'
    | ret u => exact hq'
end
end L2
namespace L2
open PySem PySem.Spec PyProof.Rows
structure Def1 (P : Program) (w : World) (K : PySem.W.Frag) (mg : Str → Option Value) (base : Heap) (x : Str) (k : Nat) (ps : List Str) (sp : Sp) : Prop where
  ex : ∃ f fd, FnOk P w K mg base (CX1 P w) k f fd ps sp ∧ mg x = some (.ref f) ∧ PySem.W.keepIn K (.ref f) = true ∧ Binds K fd ps []
theorem run_at {X : Cx} {k : Nat} {f : Addr} {fd : FuncData} {ps : List Str} {sp : Sp} {E : XK} {pins : List (Addr × Obj)} {σ : St} {H : Hp} {s : Shared} {Q : VK} {us : List Value} {vs : List V} (F : FnOk X.prog X.w X.K X.mg X.base (CX1 X.prog X.w) k f fd ps sp) (hr : Room k X.A) (hb : Binds X.K fd ps [])
    (hx : PassAt (CX1 X.prog X.w) X E σ) (I : Inv X pins σ H s) (r : Vals vs us) (h : sp vs H Q E) : wpAny (model X.prog X.w) X.A (call (.ref f) us) (EP X pins σ Q) X.xe s := by
  have hl : us.length = ps.length := by rw [← r.length]; exact F.len _ _ _ _ h
  have bd := hb s us I.kIn (by rw [List.append_nil]; exact hl)
  rw [List.append_nil] at bd
  refine wpAny_call (codeAny_mono (F.run X.A X.stack s H ⟨us, []⟩ us vs Q E hr I.env0 bd r h) fun res s' hq => ?_)
  match res, hq with
  | .error e, hq => exact hx pins H s e s' I hq
  | .ok (.ret u), hq => exact I.after hq
  | .ok .next, hq => exact False.elim hq
  | .ok .brk, hq => exact False.elim hq
  | .ok .cont, hq => exact False.elim hq
structure ExK (K : PySem.W.Frag) (C : Addr) : Prop where
  ga : PySem.W.findIn K (.ref C) "__getattribute__" = some (some (.builtin "BaseException.__getattribute__"))
  gt : PySem.W.findIn K (.ref C) "__getattr__" = some none
  cl : PySem.W.findIn K (.ref C) "__class__" = some (some (.builtin "object.__class__"))
  gs : PySem.W.specialIn K (.builtin "object.__class__") "__get__" = some (some (.builtin "getset_descriptor.__get__"))
  tk : PySem.W.takesIn K (.builtin "object.__class__") = some true
  mo : PySem.W.mroIn K C (.type "object") = some true
  mb : PySem.W.mroIn K C (.type "BaseException") = some true
section
variable {K : PySem.W.Frag} {C : Addr}
def ExAt (a C : Addr) (h : Heap) : Prop := ∃ o vs, h.get? a = some o ∧ o.cls = .ref C ∧ o.data = .fields vs
theorem ex_type {M : Model} {a : Addr} {h : Heap} (p : ExAt a C h) : PySem.W.Looks M h (typeOf (.ref a)) (.ref C) := by
  obtain ⟨o, vs, h1, h2, _⟩ := p
  exact h2 ▸ (PySem.W.Looks.ld h1).andThen .now
open PySem.W in
theorem ex_class {prog : Program} {w : World} {A : Around} {E : Value → Shared → Prop} {Q : Option Value → Shared → Prop} {s : Shared} {a : Addr} (k : ExK K C) (X : K.In s.heap) (p : ExAt a C s.heap) (h : Q (some (.ref C)) { s with toks := s.toks + 1 }) :
    wpAny (model prog w) A (getAttr? (.ref a) "__class__") Q E s := by
  obtain ⟨hh, g, d, t, os⟩ := s
  have L0 := ex_type (M := model prog w) p
  have L1 := looks_findIn (M := model prog w) X k.ga
  have L2 := looks_findIn (M := model prog w) X k.gt
  have L3 := looks_findIn (M := model prog w) X k.cl
  have L4 := looks_specialIn (M := model prog w) X k.gs
  have L5 := looks_takesIn (M := model prog w) X k.tk
  have L6 := looks_mroIn (M := model prog w) X k.mo
  have L7 := looks_mroIn (M := model prog w) X k.mb
  unfold getAttr? getAttrBy? getAttrBy
  refine wpAny_bind (wpAny_mkText (wpAny_bind (wpAny_attempt (wpAny_holding (wpAny_bind (L0.at (wpAny_bind (L1.at ?_))))))))
  show wpAny _ _ (getAttrByItsOwn _ _ _ _ _ _) _ _ _
  unfold getAttrByItsOwn hookBefore callGetattribute
  have fb := PySem.F.excAttr_ValueError.ga.bind (.ref a)
  refine wpAny_bind ?_
  rw [if_pos (show onTheHeap (Value.ref C) = true from rfl)]
  refine L2.at (wpAny_bind (wpAny_attempt (wpAny_holding ?_)))
  rw [if_neg (by decide)]
  unfold boundAndCalled
  refine wpAny_bind (wpAny_of_eq fb ?_)
  refine wpAny_call (codeAny_call_builtin PySem.F.excAttr_ValueError.ga.plain PySem.F.entry_bexc_ga ?_)
  have kindGa : builtinKind "BaseException.__getattribute__" = some .slot := by decide +kernel
  have splitGa : splitId "BaseException.__getattribute__" = some ("BaseException", "__getattribute__") := by decide +kernel
  have argsGa := PySem.F.args_bexc_ga (.ref a) (.str "__class__" t)
  have LI : Looks (model prog w) hh (isInstance (.ref a) (.type "BaseException")) true := L0.andThen L7
  simp only [kindGa, splitGa, checkBuiltinCall]
  refine wpAny_bind (LI.at ?_)
  simp only [Bool.not_true, Bool.false_eq_true, if_false]
  refine wpAny_of_eq argsGa ?_
  have LD : Looks (model prog w) hh (Builtin.ObjectAttr.dataDescriptor? (some (.builtin "object.__class__")) (some (.builtin "getset_descriptor.__get__"))) (some (.builtin "getset_descriptor.__get__", .builtin "object.__class__")) := L5.andThen .now
  have LF : Looks (model prog w) hh (Builtin.ObjectAttr.find (.ref a) (.ref C) "__class__") (.bind (.builtin "getset_descriptor.__get__") (.builtin "object.__class__")) := L3.andThen (L4.andThen (LD.andThen (Looks.tag .now)))
  unfold Builtin.«object.__getattribute__»
  refine wpAny_bind (wpAny_pure ?_)
  refine wpAny_bind (wpAny_pure ?_)
  refine wpAny_bind (L0.at (wpAny_bind (LF.at ?_)))
  show wpAny _ _ (call (.builtin "getset_descriptor.__get__") [.builtin "object.__class__", .ref a, .ref C] >>= ret) _ _ _
  refine wpAny_bind (wpAny_call ?_)
  refine codeAny_call_builtin KF.slot_gs.plain KF.entry_gs (KF.slot_gs.check _ _ _ _ _ _ _ _ KF.type_class (KF.args_gs _ _ _) ?_)
  unfold PySem.Builtin.«getset_descriptor.__get__»
  unfold PySem.Builtin.Getset_descriptor.descrGet
  rw [dga_obj]
  refine wpAny_bind (wpAny_pure ?_)
  unfold PySem.Builtin.Getset_descriptor.descrGetter
  unfold PySem.Builtin.Getset_descriptor.descrCheckInstance
  unfold PySem.Builtin.Getset_descriptor.descrNameAndClass
  unfold isInstance
  simp only [KF.owner_class]
  (repeat lk)
  refine ⟨Code.quiet_builtin _ (by decide +kernel), codeAny_builtin KF.entry_class ?_⟩
  unfold PySem.Builtin.«object.__class__»
  unfold shownTypeOf
  (repeat lk)
  exact h
theorem ex_cls (k : ExK K C) : ∃ c d cd sl, K.lookup C = some ⟨c, d, .cls cd, sl⟩ := by
  have m := k.mo
  unfold PySem.W.mroIn PySem.W.clsIn at m
  cases q : K.lookup C with
  | none => rw [q] at m; cases m
  | some o =>
    obtain ⟨c, d, dt, sl⟩ := o
    cases dt with
    | cls cd => exact ⟨c, d, cd, sl, rfl⟩
    | _ => rw [q] at m; cases m
theorem kitx_ex {a : Addr} (k : ExK K C) : PySem.W.KitX K (.ref a) (.ref C) (ExAt a C) where
  ty := fun _ _ _ p => ex_type p
  it := fun _ _ X _ => by
    obtain ⟨c, d, cd, sl, ho⟩ := ex_cls k
    intro A' Q' E' s' kk q
    unfold isType loadHead
    exact wpAny_bind (wpAny_loadPart (kk _ _ (X _ _ ho)) (wpAny_pure q))
  ne := fun h tp dd its n sl' X htp => by
    obtain ⟨c, d, cd, sl, ho⟩ := ex_cls k
    refine Bool.eq_false_iff.mpr fun q => ?_
    cases Value.ref.inj (beq_iff_eq.mp q)
    cases (X _ _ ho).symm.trans htp
  ca := fun X p q => ex_class k X p q
end
def clsV : V → Value
  | .ref D => .ref D
  | .ty T => .type T
  | _ => .none
theorem clsV_of {v : V} {u : Value} (r : RelV v u) (h : clsV v ≠ .none) : u = clsV v := by
  cases v <;> first | exact r | exact absurd rfl h
theorem clsV_all : ∀ {cs : List V} {us : List Value}, Vals cs us → (∀ c ∈ cs, clsV c ≠ .none) → us = cs.map clsV
  | _, _, .nil, _ => rfl
  | _, _, .cons r t, h => by rw [clsV_of r (h _ (by simp)), clsV_all t fun c hc => h c (by simp [hc])]; rfl
section
variable {X : Cx}
def rIsx (K : PySem.W.Frag) (xs : List V) (H : Hp) (Q : VK) : Prop := ∃ a C c b, xs = [.ref a, c] ∧ H a = some (excO a (.ref C)) ∧ ExK K C ∧
    ((clsV c ≠ .none ∧ PySem.W.kitOne K (.ref C) (clsV c) = some b) ∨ ∃ t cs, c = .ref t ∧ SqT K H t cs ∧ (∀ c ∈ cs, clsV c ≠ .none) ∧ PySem.W.kitAny K (.ref C) (cs.map clsV) = some b) ∧ Q (.bl b) H
theorem call_isx : CallR X (.builtin "isinstance") (rIsx X.K) := by
  intro pins s σ H xs us Q I r h
  obtain ⟨a, C, c, b, rfl, hH, k, hc, q⟩ := h
  obtain ⟨u, w', rfl, ru, rw'⟩ := vals2 r
  cases ru
  have at_ : ExAt a C s.heap := by
    obtain ⟨⟨oe, vs, x1, x2, x3⟩, _⟩ := I.hok a _ hH
    exact ⟨oe, vs, x1, x2, x3⟩
  have fin : ∀ tk, EP X pins σ Q (.bool b) { s with toks := tk } := fun tk => ⟨.bl _, H, I.tok _, rfl, q⟩
  rcases hc with ⟨h1, h2⟩ | ⟨t, cs, rfl, h1, h2, h3⟩
  · rw [clsV_of rw' h1]
    exact PySem.W.kia_one (kitx_ex k) I.kIn at_ h2 (by intro z; cases z) fin
  · cases rw'
    obtain ⟨its, rv, ⟨⟨oc, od, dt, sl⟩, e, c', n, dd⟩, hz⟩ := I.tuple h1
    rw [clsV_all rv h2] at dd
    have c2 : oc = .type "tuple" := c'
    have d2 : dt = .seq (cs.map clsV).toArray n := dd
    subst c2; subst d2
    exact PySem.W.kia_tup (kitx_ex k) I.kIn at_ e h3 (by intro z; cases z) fin
end
end L2
namespace L2
open PySem PySem.Spec PyProof.Rows
structure MDef (P : Program) (w : World) (K : PySem.W.Frag) (mg : Str → Option Value) (base : Heap) (C : Addr) (m : Str) (k : Nat) (ps : List Str) (sp : Sp) : Prop where
  ex : ∃ f fd, FnOk P w K mg base CX0 k f fd ps sp ∧ Meth K C m f ∧ Binds K fd ps []
structure MDef1 (P : Program) (w : World) (K : PySem.W.Frag) (mg : Str → Option Value) (base : Heap) (C : Addr) (m : Str) (k : Nat) (ps : List Str) (sp : Sp) : Prop where
  ex : ∃ f fd, FnOk P w K mg base (CX1 P w) k f fd ps sp ∧ Meth K C m f ∧ Binds K fd ps []
structure MkDef (P : Program) (w : World) (K : PySem.W.Frag) (mg : Str → Option Value) (base : Heap) (x : Str) (C : Addr) (k : Nat) (ps : List Str) (sp : Sp) : Prop where
  ex : ∃ f fd, FnOk P w K mg base CX0 k f fd ps sp ∧ Mk K C f ∧ Binds K fd ps []
  mgx : mg x = some (.ref C)
section
variable {X : Cx} {C : Addr} {m x : Str} {k : Nat} {ps : List Str} {sp : Sp} {p pos apos : Pos} {o e : Expr} {es : List Expr} {ta : TE} {t : TA} {pl : Sem Bool}
theorem pmeth0 (D : MDef X.prog X.w X.K X.mg X.base C m k ps sp) (c : Cls X.K C) (hr : Room k X.A) (he : PE X o ta)
    (ht : eval (.Call (.Attribute o m apos) [] [] pos) X.env = (do
      let ov ← eval o X.env
      standAt apos.atName
      let (f, first) ← holding [ov] (getMethod ov m pl)
      callWith pos f first (backTo pos (starEach [] X.env)) (backToKw pos (keywordEach [] X.env))) := by rfl) : PE X (.Call (.Attribute o m apos) [] [] pos) (tMeth C m sp [] E0 ta tNil) := by
  obtain ⟨f, fd, F, M, b⟩ := D.ex
  exact pe_meth0 he c M F hr b .nil pass0 ht
theorem pmake0 (D : MkDef X.prog X.w X.K X.mg X.base x C k ps sp) (hr : Room (k + 1) X.A) (hg : Gl X x := by rfl) (hdb : (x == ("__debug__" : Str)) = false := by decide) : PE X (.Call (.Name x p) [] [] pos) (tMake C sp [] E0 tNil) := by
  obtain ⟨f, fd, F, M, b⟩ := D.ex
  exact pe_make0 M F hr hg D.mgx b .nil pass0 hdb
def tMethX (σ0 : St) (C : Addr) (m : Str) (sp : Sp) (E : XK) (ta : TE) (t : TA) : TE := fun σ H Q => σ = σ0 ∧ ta σ H fun x H1 => ∃ a dx fs, x = .ref a ∧ H1 a = some (.ins C dx fs) ∧ fs.lookup m = none ∧ t σ H1 fun vs H2 => sp (x :: vs) H2 Q E
theorem pmethX {E : XK} {σ0 : St} (D : MDef1 X.prog X.w X.K X.mg X.base C m k ps sp) (c : Cls X.K C) (hr : Room k X.A) (hx : PassAt (CX1 X.prog X.w) X E σ0) (he : PE X o ta) (ha : PA X (e :: es) t)
    (hst : starEach (e :: es) X.env = (false, eval e X.env) :: starEach es X.env := by rfl) (hpl : (backTo pos (starEach es X.env)).any (·.1) = false := by rfl)
    (ht : eval (.Call (.Attribute o m apos) (e :: es) [] pos) X.env = (do
      let ov ← eval o X.env
      standAt apos.atName
      let (f, first) ← holding [ov] (getMethod ov m pl)
      callWith pos f first (backTo pos (starEach (e :: es) X.env)) (backToKw pos (keywordEach [] X.env))) := by rfl) :
    PE X (.Call (.Attribute o m apos) (e :: es) [] pos) (tMethX σ0 C m sp E ta t) := by
  obtain ⟨f, fd, F, hm, b⟩ := D.ex
  intro pins s σ H Q I ⟨hσ, h⟩
  subst hσ
  refine PySem.W.methodCall_KW (pl := pl) (thn (he pins s σ H _ I h) fun u s1 ⟨x, H1, I1, rx, a, dx, fs, ex, ea, l, q⟩ => ?_) ht
  subst ex
  obtain rfl : u = Value.ref a := rx
  refine getmeth_ok I1 ea c hm l ?_
  refine PySem.W.callWith_K (first := [.ref a]) (h₀ := X.base) I.ok.mod.kin hm.kp (thn (ha pos pins s1 σ H1 _ I1 q) fun us s2 ⟨vs, H2, I2, r, q2⟩ => ⟨I2.kIn, ?_⟩) hst hpl
  exact run_at (us := .ref a :: us) (vs := .ref a :: vs) F hr b hx I2 (.cons rfl r) q2
end
end L2
namespace Ink
open PySem L2
abbrev sInit : Stmt := inClass (top 23) 0
abbrev sPoint : Stmt := inClass (top 23) 1
abbrev sTie : Stmt := inClass (top 23) 2
abbrev sLook : Stmt := inClass (top 23) 3
def rLof (K : PySem.W.Frag) : List V → Hp → VK → Prop := fun xs H Q => ∃ (q : Addr) (zs : List V), xs = [.ref q] ∧ (SqL K H q zs ∨ SqT K H q zs) ∧ ∀ b, H b = none → Q (.ref b) (L2.upd H b (.lst zs))
def flds (r : Addr) : List (Str × V) := putF "rounds" (.ref r) []
theorem flds_r (r : Addr) : (flds r).lookup ("rounds" : Str) = some (.ref r) := by unfold flds; rw [lookup_putF, if_pos rfl]
theorem flds_no (r : Addr) {m : Str} (h : ¬ m = "rounds") : (flds r).lookup m = none := by
  unfold flds
  rw [lookup_putF, if_neg h]
  rfl
theorem flds_put (r r' : Addr) : putF "rounds" (.ref r') (flds r) = flds r' := by
  show (if ("rounds" : Str) = "rounds" then [(("rounds" : Str), V.ref r')] else _) = flds r'
  rw [if_pos rfl]
  rfl
theorem flds_len (r : Addr) : (flds r).length < 1000 := by show 1 < 1000; decide
structure PaperAt (C : Addr) (H : Hp) (p r : Addr) (ps : List Addr) (rs : Rs) : Prop where
  ob : ∃ dx, H p = some (.ins C dx (flds r))
  rows : Rows H r ps rs
structure Own (H : Hp) (r : Addr) (ps : List Addr) (r' : Addr) (ps' : List Addr) : Prop where
  out : r' = r ∨ H r' = none
  row : ∀ q ∈ ps', q ∈ ps ∨ H q = none
theorem Own.refl {H : Hp} {r : Addr} {ps : List Addr} : Own H r ps r ps := ⟨.inl rfl, fun _ z => .inl z⟩
def SameB (p : Addr) (H H' : Hp) : Prop := ∀ b o, H b = some o → b ≠ p → H' b = some o
theorem SameB.of {p : Addr} {H H' : Hp} (s : Same H H') : SameB p H H' := fun b o e _ => s b o e
theorem PaperAt.same {C : Addr} {H H' : Hp} {p r : Addr} {ps : List Addr} {rs : Rs} (h : PaperAt C H p r ps rs) (s : Same H H') : PaperAt C H' p r ps rs :=
  let ⟨dx, e⟩ := h.ob; ⟨⟨dx, s _ _ e⟩, h.rows.same s⟩
theorem ins_ne_lst {H : Hp} {C dx p q : Addr} {fs : List (Str × V)} {xs : List V} (h : H p = some (.ins C dx fs)) (h' : H q = some (.lst xs)) : q ≠ p := fun e => by
  subst e
  rw [h] at h'
  cases h'
theorem _root_.L2.Rows.but {H : Hp} {C dx p r : Addr} {fs : List (Str × V)} {ps : List Addr} {rs : Rs} {o : HO} (R : Rows H r ps rs) (h : H p = some (.ins C dx fs)) : Rows (L2.upd H p o) r ps rs := by
  refine ⟨by rw [upd_ne (ins_ne_lst h R.out)]; exact R.out, R.nd, R.len, fun i q z hq hz => ?_⟩
  have := R.row i q z hq hz
  rw [upd_ne (ins_ne_lst h this)]
  exact this
theorem _root_.L2.Rows.sameB {H H' : Hp} {p r C dx : Addr} {fs : List (Str × V)} {ps : List Addr} {rs : Rs} (R : Rows H r ps rs) (h : H p = some (.ins C dx fs)) (s : SameB p H H') : Rows H' r ps rs :=
  ⟨s _ _ R.out (ins_ne_lst h R.out), R.nd, R.len, fun i q z hq hz => s _ _ (R.row i q z hq hz) (ins_ne_lst h (R.row i q z hq hz))⟩
theorem put_sameB {H H2 : Hp} {p : Addr} {o : HO} (s : Same H H2) : SameB p H (L2.upd H2 p o) := fun b u e n => by rw [upd_ne n]; exact s b u e
structure TxtP (K : PySem.W.Frag) (C : Addr) : Prop where
  cl : Cls K C
  nR : NoAttr K C "rounds"
def spInit (C : Addr) : Sp := fun vs H Q _ => ∃ (p dx : Addr), vs = [.ref p] ∧ H p = some (.ins C dx []) ∧ ∀ (r : Addr) (H' : Hp), H r = none → PaperAt C H' p r [] [] → SameB p H H' → Q .non H'
def spPoint (C : Addr) : Sp := fun vs H Q _ => ∃ (p r : Addr) (ps : List Addr) (rs : Rs), vs = [.ref p] ∧ PaperAt C H p r ps rs ∧ rs.length < 1000 ∧ ∀ (r' : Addr) (ps' : List Addr) (H' : Hp), PaperAt C H' p r' ps' (rs ++ [[]]) → Own H r ps r' ps' → SameB p H H' → Q (.int (rs.length : Nat)) H'
def spTie (C CE : Addr) : Sp := fun vs H Q E => ∃ (p r : Addr) (ps : List Addr) (u v : V) (rs : Rs) (n : Nat) (a b : Bool) (x y : Int), vs = [.ref p, u, v] ∧ PaperAt C H p r ps rs ∧ Dr rs n ∧ n + 2 < 64 ∧ rs.length < 64 ∧ SpotAt H u a x ∧ SpotAt H v b y ∧
  ((okB rs n a x && okB rs n b y) = true → ∀ (fs gs : Rs) (t r' : Addr) (ps' : List Addr) (H' : Hp), Fcs (stp (tieS rs n (toSp a x) (toSp b y))) (n + 2) fs → Grp (lab (tieS rs n (toSp a x) (toSp b y)) (n + 2)) rs.length rs.length gs → H t = none →
    H' t = some (.tup [.int (gs.length : Nat), .int ((fs.length + aln (tieS rs n (toSp a x) (toSp b y)) : Nat) : Int), .int (hnd (tieS rs n (toSp a x) (toSp b y)) (n + 2) (fs.length + aln (tieS rs n (toSp a x) (toSp b y))) gs.length)]) →
    PaperAt C H' p r' ps' (tieS rs n (toSp a x) (toSp b y)) → Own H r ps r' ps' → SameB p H H' → Q (.ref t) H') ∧
  ((okB rs n a x && okB rs n b y) = false → ∀ H', Same H H' → E (.ref CE) none H')
def spLook (C : Addr) : Sp := fun vs H Q _ => ∃ (p r : Addr) (ps : List Addr) (rs : Rs), vs = [.ref p] ∧ PaperAt C H p r ps rs ∧ rs.length ≤ 1000 ∧ ∀ (p' : Addr) (ps' : List Addr) (H' : Hp), Rows H' p' ps' rs → Same H H' → H p' = none → (∀ q ∈ ps', H q = none) → Q (.ref p') H'
section
variable {P : Program} {w : World} {K : PySem.W.Frag} {mg : Str → Option Value} {base : Heap}
theorem scInit : FnScope ["self"] ["self"] (defScope sInit) := ⟨rfl, rfl, rfl, by decide +kernel, rfl, by decide +kernel, by decide +kernel⟩
theorem ok_init {f C : Addr} {fd : FuncData} (F : Fun K "__init__" "Paper.__init__" sInit f fd) (TP : TxtP K C) : FnOk P w K mg base CX0 1 f fd ["self"] (spInit C) := by
  refine F.ok scInit (fun vs H Q E h => ?_) (fun cdv A outer s H vs Q E hr h => ?_)
  · obtain ⟨p, dx, rfl, _⟩ := h
    rfl
  · obtain ⟨p, dx, rfl, hp, k⟩ := h
    refine ⟨_, pss_one (ps_fld (pv 0) (pe_lst pa_nil) rfl), ?_⟩
    refine ⟨Nat.zero_le _, fun r hr' => ?_⟩
    have npr : p ≠ r := ne_of_none hp hr'
    refine ⟨_, rfl, p, C, dx, [], rfl, (by rw [upd_ne npr]; exact hp), TP.cl, TP.nR, (by show 0 < 1000; decide), ?_⟩
    refine k r _ hr' ⟨⟨dx, upd_same⟩, ⟨by rw [upd_ne npr.symm, upd_same]; rfl, List.nodup_nil, rfl, fun i q z e => by simp at e⟩⟩ (put_sameB ((Same.refl H).put hr'))
theorem scPoint : FnScope ["self"] ["self"] (defScope sPoint) := ⟨rfl, rfl, rfl, by decide +kernel, rfl, by decide +kernel, by decide +kernel⟩
theorem ok_point {f C : Addr} {fd : FuncData} (F : Fun K "put_point" "Paper.put_point" sPoint f fd) (T : Txt mg) (TP : TxtP K C) : FnOk P w K mg base CX0 1 f fd ["self"] (spPoint C) := by
  refine F.ok scPoint (fun vs H Q E h => ?_) (fun cdv A outer s H vs Q E hr h => ?_)
  · obtain ⟨p, r, ps, rs, rfl, _⟩ := h
    rfl
  · obtain ⟨p, r, ps, rs, rfl, pa, hrs, k⟩ := h
    have hs : sizeLine = 16777216 := sizeLine_eq
    obtain ⟨dx, hp⟩ := pa.ob
    have R := pa.rows
    refine ⟨_, pss_cons (ps_fld (pv 0) (pe_op op_cat (pe_fld (pv 0) rfl) (pe_lst (pa_cons (pe_lst pa_nil) pa_nil))) rfl)
      (pss_one (ps_ret (pe_op op_sub (pe_callB call_len_seq (by rfl) T.len PySem.boot_len (pa_cons (pe_fld (pv 0) rfl) pa_nil)) pe_int))), ?_⟩
    refine ⟨_, rfl, p, C, dx, _, _, rfl, hp, TP.cl, TP.nR, flds_r r, Nat.zero_le _, fun l1 h1 => ?_⟩
    have s1 : Same H (L2.upd H l1 (.lst [])) := (Same.refl H).put h1
    have g1 := upd_same (H := H) (a := l1) (o := .lst [])
    generalize L2.upd H l1 (.lst []) = H1 at s1 g1 ⊢
    refine ⟨(by show 1 ≤ sizeLine; omega), fun l2 h2 => ?_⟩
    have s2 : Same H1 (L2.upd H1 l2 (.lst [.ref l1])) := (Same.refl H1).put h2
    have g2 := upd_same (H := H1) (a := l2) (o := .lst [.ref l1])
    generalize L2.upd H1 l2 (.lst [.ref l1]) = H2 at s2 g2 ⊢
    have s12 := s1.trans s2
    refine ⟨r, l2, _, _, rfl, rfl, s12 _ _ R.out, g2, (by have := R.len; rw [List.length_map]; show _ + 1 ≤ _; omega), fun l3 h3 => ?_⟩
    have s3 : Same H2 (L2.upd H2 l3 (.lst (ps.map V.ref ++ [.ref l1]))) := (Same.refl H2).put h3
    have g3 := upd_same (H := H2) (a := l3) (o := .lst (ps.map V.ref ++ [.ref l1]))
    generalize L2.upd H2 l3 (.lst (ps.map V.ref ++ [.ref l1])) = H3 at s3 g3 ⊢
    have s13 := s12.trans s3
    have hl1 : H3 l1 = some (.lst (([] : List Int).map V.int)) := s3 _ _ (s2 _ _ g1)
    have R3 : Rows H3 l3 (ps ++ [l1]) (rs ++ [[]]) := by
      refine ⟨by rw [g3, List.map_append]; rfl, ?_, by rw [List.length_append, List.length_append, R.len]; rfl, fun i q z hq hz => ?_⟩
      · refine List.nodup_append.mpr ⟨R.nd, by simp, fun a ha b hb e => ?_⟩
        have e' : b = l1 := by simpa using hb
        obtain ⟨z, _, hz⟩ := R.mem ha
        rw [e, e', h1] at hz
        cases hz
      · by_cases hi : i < ps.length
        · rw [List.getElem?_append_left hi] at hq
          rw [List.getElem?_append_left (by rw [← R.len]; exact hi)] at hz
          exact s13 _ _ (R.row i q z hq hz)
        · have hi' := (List.getElem?_eq_some_iff.mp hq).1
          rw [List.length_append] at hi'
          have : i = ps.length := by have : [l1].length = 1 := rfl; omega
          subst this
          rw [List.getElem?_append_right (Nat.le_refl _), Nat.sub_self] at hq
          rw [R.len, List.getElem?_append_right (Nat.le_refl _), Nat.sub_self] at hz
          cases hq
          cases hz
          exact hl1
    have hp3 := s13 _ _ hp
    refine ⟨_, rfl, p, C, dx, _, rfl, hp3, TP.cl, TP.nR, flds_len r, ?_⟩
    rw [flds_put]
    have R4 := R3.but (o := .ins C dx (flds l3)) hp3
    have hp4 := upd_same (H := H3) (a := p) (o := .ins C dx (flds l3))
    have sB : SameB p H (L2.upd H3 p (.ins C dx (flds l3))) := put_sameB s13
    generalize L2.upd H3 p (.ins C dx (flds l3)) = H4 at R4 hp4 sB ⊢
    refine ⟨_, rfl, p, C, dx, _, _, rfl, hp4, TP.cl, TP.nR, flds_r l3, l3, _, rfl, .inl (.of R4.out), _, _, rfl, rfl, ?_⟩
    have e : (((ps ++ [l1]).map V.ref).length : Int) - 1 = ((rs.length : Nat) : Int) := by
      have := R.len
      rw [List.length_map, List.length_append]
      show ((ps.length + 1 : Nat) : Int) - 1 = _
      omega
    show Q (V.int ((((ps ++ [l1]).map V.ref).length : Int) - 1)) H4
    rw [e]
    refine k l3 _ H4 ⟨⟨dx, hp4⟩, R4⟩ ⟨.inr (s12.free h3), fun q hq => ?_⟩ sB
    rcases List.mem_append.mp hq with z | z
    · exact .inl z
    · have : q = l1 := by simpa using z
      rw [this]
      exact .inr h1
theorem scTie : FnScope ["self", "one", "other", "even"] ["self", "one", "other"] (defScope sTie) := ⟨rfl, rfl, rfl, by decide +kernel, rfl, by decide +kernel, by decide +kernel⟩
theorem putSp_rows {rs : Rs} {s : Spot} {y : Int} {m : Nat} (h : ∀ r ∈ rs, r.length ≤ m) : ∀ r ∈ putSp rs s y, r.length ≤ m + 1 := fun r hr => by
  cases s with
  | e x =>
    obtain ⟨r0, h0, rfl⟩ := List.mem_map.mp (show r ∈ rs.map (putRow x y) from hr)
    have := h r0 h0
    unfold putRow
    split
    · have := (insAt_perm r0 x y).length_eq
      rw [List.length_cons] at this
      omega
    · omega
  | p i =>
    have hr' : r ∈ rs.set i (rs.getD i [] ++ [y]) := hr
    rcases List.mem_or_eq_of_mem_set hr' with z | z
    · have := h r z
      omega
    · rw [z, List.length_append, List.getD_eq_getElem?_getD]
      cases e : rs[i]? with
      | none => show 0 + 1 ≤ _; omega
      | some q => have := h q (List.mem_of_getElem? e); show q.length + 1 ≤ _; omega
set_option maxHeartbeats 4000000 in
theorem ok_tie {f C CE : Addr} {fd : FuncData} (F : Fun K "tie" "Paper.tie" sTie f fd) (T : Txt mg) (TP : TxtP K C) (OE : ExcC K mg "NoEnd" CE) (DS : Def P w K mg base "is_spot" 2 ["rounds", "spot"] spIsSpot) (DN : Def P w K mg base "how_many_ropes" 1 ["rounds"] spRopes)
    (DP : Def P w K mg base "put_at" 2 ["rounds", "spot", "end"] spPutAt) (DBu : Def P w K mg base "built" 6 ["rounds"] spBuilt) : FnOk P w K mg base (CX1 P w) 7 f fd ["self", "one", "other"] (spTie C CE) := by
  refine F.ok1 scTie (fun vs H Q E h => ?_) (fun cdv A outer s H vs Q E hr6 h => ?_)
  · obtain ⟨p, r, ps, u, v, rs, n, a, b, x, y, rfl, _⟩ := h
    rfl
  · obtain ⟨p, r, ps, u, v, rs, n, a, b, x, y, rfl, pa, D, hn, hrs, ⟨tu, rfl, hu⟩, ⟨tv, rfl, hv⟩, k1, k2⟩ := h
    have hs : sizeLine = 16777216 := sizeLine_eq
    have nd := scTie.nd
    have hr1 : Room 1 _ := hr6.mono (by decide)
    have hr2 : Room 2 _ := hr6.mono (by decide)
    obtain ⟨dx, hp⟩ := pa.ob
    have R := pa.rows
    have hrow : ∀ q ∈ rs, q.length ≤ 100 := fun q hq => by
      have := row_le D hq
      omega
    have hev := D.even
    refine ⟨_, pss_cons (ps_if (pw_or (pt_not (pt_val (pcall DS hr2 (pa_cons (pe_fld (pv 0) rfl) (pa_cons (pv 1) pa_nil))))) (pw_or1 (pt_not (pt_val (pcall DS hr2 (pa_cons (pe_fld (pv 0) rfl) (pa_cons (pv 2) pa_nil))))))).pt (pss_one (ps_raise OE (by rfl))) (pss_nil))
      (pss_cons (ps_set (i := 3) nd rfl (Or.inl rfl) (pe_op op_mul pe_int (pcall DN hr1 (pa_cons (pe_fld (pv 0) rfl) pa_nil))))
      (pss_cons (ps_fld (pv 0) (pcall DP hr2 (pa_cons (pcall DP hr2 (pa_cons (pe_fld (pv 0) rfl) (pa_cons (pv 1) (pa_cons (pv 3) pa_nil)))) (pa_cons (pv 2) (pa_cons (pe_op op_add (pv 3) pe_int) pa_nil)))) rfl)
      (pss_one (ps_ret (pcall DBu hr6 (pa_cons (pe_fld (pv 0) rfl) pa_nil)))))), ?_⟩
    refine ⟨_, rfl, p, C, dx, _, _, rfl, hp, TP.cl, TP.nR, flds_r r, _, rfl, r, tu, ps, rs, n, a, x, rfl, R, D, by omega, hu, fun H1 s1 => ⟨_, rfl, ?_⟩⟩
    cases ha : okB rs n a x with
    | false => exact iteT (k2 (by rw [ha]; rfl) H1 s1)
    | true =>
      refine iteF ?_
      refine ⟨_, rfl, p, C, dx, _, _, rfl, s1 _ _ hp, TP.cl, TP.nR, flds_r r, _, rfl, r, tv, ps, rs, n, b, y, rfl, R.same s1, D, by omega, s1 _ _ hv, fun H2 s2 => ⟨_, rfl, ?_⟩⟩
      have s12 := s1.trans s2
      cases hb : okB rs n b y with
      | false => exact iteT (k2 (by rw [ha, hb]; rfl) H2 s12)
      | true =>
        refine iteF ?_
        have k1' := k1 (by rw [ha, hb]; rfl)
        obtain ⟨hx0, hx1⟩ := okB.sp ha
        obtain ⟨hy0, hy1⟩ := okB.sp hb
        have D2 := D.tieS hx1 hy1
        refine ⟨_, rfl, p, C, dx, _, _, rfl, s12 _ _ hp, TP.cl, TP.nR, flds_r r, r, ps, rs, n, rfl, R.same s12, D, by omega, fun H3 s3 => ⟨_, _, rfl, rfl, .inl ⟨by decide, by decide⟩, ?_⟩⟩
        have s13 := s12.trans s3
        dsimp only [gName]
        rw [show 2 * ((n / 2 : Nat) : Int) = (n : Int) by omega]
        refine ⟨_, rfl, p, C, dx, _, _, rfl, s13 _ _ hp, TP.cl, TP.nR, flds_r r, _, rfl, _, rfl, r, tu, ps, rs, a, x, n, rfl, R.same s13, by omega, (fun q hq => by have := hrow q hq; omega), hx0, s13 _ _ hu, fun r4 ps4 H4 R4 s4 f4 o4 => ?_⟩
        have s14 := s13.trans s4
        refine ⟨_, rfl, _, rfl, _, _, rfl, rfl, r4, tv, ps4, _, b, y, (n : Int) + 1, rfl, R4, (by rw [putSp_length]; omega), (fun q hq => by have := putSp_rows hrow q hq; omega), hy0, s14 _ _ hv, fun r5 ps5 H5 R5 s5 f5 o5 => ?_⟩
        have s15 := s14.trans s5
        have hp5 := s15 _ _ hp
        refine ⟨_, rfl, p, C, dx, _, rfl, hp5, TP.cl, TP.nR, flds_len r, ?_⟩
        rw [flds_put]
        have R6 := R5.but (o := .ins C dx (flds r5)) hp5
        have hp6 := upd_same (H := H5) (a := p) (o := .ins C dx (flds r5))
        have sB : SameB p H (L2.upd H5 p (.ins C dx (flds r5))) := put_sameB s15
        generalize L2.upd H5 p (.ins C dx (flds r5)) = H6 at R6 hp6 sB ⊢
        have el : (tieS rs n (toSp a x) (toSp b y)).length = rs.length := by unfold tieS; rw [putSp_length, putSp_length]
        refine ⟨_, rfl, p, C, dx, _, _, rfl, hp6, TP.cl, TP.nR, flds_r r5, r5, ps5, _, n + 2, rfl, R6, D2, by omega, (by rw [show (putSp (putSp rs (toSp a x) n) (toSp b y) ((n : Int) + 1)).length = rs.length from el]; omega), fun fs gs t H7 hF hG hT hT7 s7 => ?_⟩
        have hT0 : H t = none := by
          cases e : H t with
          | none => rfl
          | some o =>
            exfalso
            by_cases z : t = p
            · rw [z, hp6] at hT; cases hT
            · rw [sB t o e z] at hT; cases hT
        refine k1' fs gs t r5 ps5 H7 hF ?_ hT0 hT7 ⟨⟨dx, s7 _ _ hp6⟩, R6.same s7⟩ ⟨.inr (s14.free f5), fun q hq => ?_⟩ (fun c o e hc => s7 _ _ (sB c o e hc))
        rotate_left
        · rcases o5 q hq with z | z
          · rcases o4 q z with z | z
            · exact .inl z
            · exact .inr (s13.free z)
          · exact .inr (s14.free z)
        have hG' : Grp (lab (tieS rs n (toSp a x) (toSp b y)) (n + 2)) (tieS rs n (toSp a x) (toSp b y)).length (tieS rs n (toSp a x) (toSp b y)).length gs := hG
        rw [el] at hG'
        exact hG'
theorem scLook : FnScope ["self"] ["self"] (defScope sLook) := ⟨rfl, rfl, rfl, by decide +kernel, rfl, by decide +kernel, by decide +kernel⟩
theorem ok_look {f C : Addr} {fd : FuncData} (F : Fun K "look" "Paper.look" sLook f fd) (T : Txt mg) (TP : TxtP K C) : FnOk P w K mg base CX0 1 f fd ["self"] (spLook C) := by
  refine F.ok scLook (fun vs H Q E h => ?_) (fun cdv A outer s H vs Q E hr h => ?_)
  · obtain ⟨p, r, ps, rs, rfl, _⟩ := h
    rfl
  · obtain ⟨p, r, ps, rs, rfl, pa, hrs, k⟩ := h
    have hs : sizeLine = 16777216 := sizeLine_eq
    obtain ⟨dx, hp⟩ := pa.ob
    have R := pa.rows
    refine ⟨_, pss_one (ps_ret (pe_comp (te := _) rfl (Blk.plain rfl (by decide +kernel) (by decide +kernel)) (pi_list (pe_fld (pv 0) rfl)) (fun _ _ _ _ => pts_nil) (fun _ _ _ _ => (pe_callTy (r := rLof K) call_list_of (by rfl) T.list PyProof.Rows.boot_list (pa_cons (pv 0) pa_nil))))), ?_⟩
    refine ⟨_, rfl, p, C, dx, _, _, rfl, hp, TP.cl, TP.nR, flds_r r, r, rfl, ⟨_, .of R.out⟩, fun D hD => comp_list (xs := ps.map V.ref) (fun i H2 => ∃ qs, Sh H H2 D ps qs (rs.take i) i ∧ ∀ q ∈ qs, H q = none) ⟨[], Sh.nil hD, fun q hq => by cases hq⟩ (fun i H2 _ ⟨_, sh, _⟩ => .of (sh.same _ _ R.out)) ?_ ?_⟩
    · rintro i y H2 hi ⟨qs, sh, fr⟩
      obtain ⟨q, hq, rfl⟩ := ref_at hi
      obtain ⟨z, hz, hH⟩ := R.at hq
      have hlen : qs.length ≤ 1000 := by rw [sh.rows.len, List.length_take]; omega
      refine yes_go ⟨_, rfl, q, _, rfl, .inl (.of (sh.same _ _ hH)), fun l hl => ?_⟩
      obtain ⟨o4, sh4⟩ := sh.step (l := l) (g := z) R.nd hq hH hD (.inr hl) upd_same ((Same.refl H2).put hl)
      refine ⟨_, o4, by rw [List.length_map]; omega, qs ++ [l], ?_, fun c hc => ?_⟩
      · rw [take_at hz]
        exact sh4
      · rcases List.mem_append.mp hc with z | z
        · exact fr c z
        · have : c = l := by simpa using z
          rw [this]
          exact sh.same.free hl
    · rintro H2 ⟨qs, sh, fr⟩
      rw [List.length_map, R.len, List.take_length] at sh
      exact k D qs H2 sh.rows sh.same hD fr
end
end Ink
namespace Ink
open PySem L2
inductive Deed where
  | pt
  | look
  | tie (a : Bool) (x : Int) (b : Bool) (y : Int)
def DeedAt (H : Hp) (v : V) : Deed → Prop
  | .pt => ∃ t, v = .ref t ∧ H t = some (.tup [.str "point"])
  | .look => ∃ t, v = .ref t ∧ H t = some (.tup [.str "look"])
  | .tie a x b y => ∃ t u w, v = .ref t ∧ H t = some (.tup [.str "tie", u, w]) ∧ SpotAt H u a x ∧ SpotAt H w b y
theorem DeedAt.same {H H' : Hp} {v : V} {d : Deed} (h : DeedAt H v d) (s : Same H H') : DeedAt H' v d := by
  cases d with
  | pt => obtain ⟨t, e, q⟩ := h; exact ⟨t, e, s _ _ q⟩
  | look => obtain ⟨t, e, q⟩ := h; exact ⟨t, e, s _ _ q⟩
  | tie a x b y => obtain ⟨t, u, w, e, q, h1, h2⟩ := h; exact ⟨t, u, w, e, s _ _ q, h1.same s, h2.same s⟩
theorem SpotAt.sameB {H H' : Hp} {C dx p : Addr} {fs : List (Str × V)} {v : V} {a : Bool} {x : Int} (hp : H p = some (.ins C dx fs)) (h : SpotAt H v a x) (s : SameB p H H') : SpotAt H' v a x := let ⟨t, e, q⟩ := h; ⟨t, e, s _ _ q fun z => by rw [z, hp] at q; cases q⟩
theorem DeedAt.sameB {H H' : Hp} {C dx p : Addr} {fs : List (Str × V)} {v : V} {d : Deed} (hp : H p = some (.ins C dx fs)) (h : DeedAt H v d) (s : SameB p H H') : DeedAt H' v d := by
  cases d with
  | pt => obtain ⟨t, e, q⟩ := h; exact ⟨t, e, s _ _ q fun z => by rw [z, hp] at q; cases q⟩
  | look => obtain ⟨t, e, q⟩ := h; exact ⟨t, e, s _ _ q fun z => by rw [z, hp] at q; cases q⟩
  | tie a x b y => obtain ⟨t, u, w, e, q, h1, h2⟩ := h; exact ⟨t, u, w, e, s _ _ q (fun z => by rw [z, hp] at q; cases q), h1.sameB hp s, h2.sameB hp s⟩
def canT (rs : Rs) (n : Nat) (a : Bool) (x : Int) (b : Bool) (y : Int) : Bool := okB rs n a x && okB rs n b y
def tied (rs : Rs) (n : Nat) (a : Bool) (x : Int) (b : Bool) (y : Int) : Rs := tieS rs n (toSp a x) (toSp b y)
def nxtD (s : Rs × Nat) : Deed → Rs × Nat
  | .pt => (s.1 ++ [[]], s.2)
  | .look => s
  | .tie a x b y => if canT s.1 s.2 a x b y = true then (tied s.1 s.2 a x b y, s.2 + 2) else s
def Told (H : Hp) (v : V) (rs : Rs) (n : Nat) : Prop := ∃ t F C, v = .ref t ∧ Cts rs n F C ∧ H t = some (.tup [.int (C : Nat), .int ((F + aln rs : Nat) : Int), .int (hnd rs n (F + aln rs) C)])
def AnsAt (H : Hp) (v : V) (s : Rs × Nat) : Deed → Prop
  | .pt => v = .int (s.1.length : Nat)
  | .look => ∃ p ps, v = .ref p ∧ Rows H p ps s.1
  | .tie a x b y => (canT s.1 s.2 a x b y = true ∧ Told H v (tied s.1 s.2 a x b y) (s.2 + 2)) ∨ (canT s.1 s.2 a x b y = false ∧ v = .str "no end")
def HandAt (H : Hp) (v : V) (s : Rs × Nat) : Deed → Prop
  | .pt => v = .int (s.1.length : Nat)
  | .look => ∃ p ps, v = .ref p ∧ Rows H p ps s.1
  | .tie a x b y => (canT s.1 s.2 a x b y = true ∧ Told H v (tied s.1 s.2 a x b y) (s.2 + 2)) ∨ (canT s.1 s.2 a x b y = false ∧ ∃ t, v = .ref t ∧ H t = some (.tup [.str "refused", .str "no end"]))
theorem Told.same {H H' : Hp} {v : V} {rs : Rs} {n : Nat} (h : Told H v rs n) (s : Same H H') : Told H' v rs n := let ⟨t, F, C, e, c, q⟩ := h; ⟨t, F, C, e, c, s _ _ q⟩
theorem Told.sameB {H H' : Hp} {C dx p : Addr} {fs : List (Str × V)} {v : V} {rs : Rs} {n : Nat} (hp : H p = some (.ins C dx fs)) (h : Told H v rs n) (s : SameB p H H') : Told H' v rs n := let ⟨t, F, C, e, c, q⟩ := h; ⟨t, F, C, e, c, s _ _ q fun z => by rw [z, hp] at q; cases q⟩
theorem AnsAt.same {H H' : Hp} {v : V} {st : Rs × Nat} {d : Deed} (h : AnsAt H v st d) (s : Same H H') : AnsAt H' v st d := by
  cases d with
  | pt => exact h
  | look => obtain ⟨p, ps, e, R⟩ := h; exact ⟨p, ps, e, R.same s⟩
  | tie a x b y =>
    rcases h with ⟨h1, h2⟩ | h
    · exact .inl ⟨h1, h2.same s⟩
    · exact .inr h
theorem AnsAt.sameB {H H' : Hp} {C dx p : Addr} {fs : List (Str × V)} {v : V} {st : Rs × Nat} {d : Deed} (hp : H p = some (.ins C dx fs)) (h : AnsAt H v st d) (s : SameB p H H') : AnsAt H' v st d := by
  cases d with
  | pt => exact h
  | look => obtain ⟨q, ps, e, R⟩ := h; exact ⟨q, ps, e, R.sameB hp s⟩
  | tie a x b y =>
    rcases h with ⟨h1, h2⟩ | h
    · exact .inl ⟨h1, h2.sameB hp s⟩
    · exact .inr h
theorem HandAt.same {H H' : Hp} {v : V} {st : Rs × Nat} {d : Deed} (h : HandAt H v st d) (s : Same H H') : HandAt H' v st d := by
  cases d with
  | pt => exact h
  | look => obtain ⟨p, ps, e, R⟩ := h; exact ⟨p, ps, e, R.same s⟩
  | tie a x b y =>
    rcases h with ⟨h1, h2⟩ | ⟨h1, t, e, q⟩
    · exact .inl ⟨h1, h2.same s⟩
    · exact .inr ⟨h1, t, e, s _ _ q⟩
theorem HandAt.sameB {H H' : Hp} {C dx p : Addr} {fs : List (Str × V)} {v : V} {st : Rs × Nat} {d : Deed} (hp : H p = some (.ins C dx fs)) (h : HandAt H v st d) (s : SameB p H H') : HandAt H' v st d := by
  cases d with
  | pt => exact h
  | look => obtain ⟨q, ps, e, R⟩ := h; exact ⟨q, ps, e, R.sameB hp s⟩
  | tie a x b y =>
    rcases h with ⟨h1, h2⟩ | ⟨h1, t, e, q⟩
    · exact .inl ⟨h1, h2.sameB hp s⟩
    · exact .inr ⟨h1, t, e, s _ _ q fun z => by rw [z, hp] at q; cases q⟩
def stD (ds : List Deed) (i : Nat) : Rs × Nat := (ds.take i).foldl nxtD ([], 0)
theorem stD_succ {ds : List Deed} {i : Nat} {d : Deed} (h : ds[i]? = some d) : stD ds (i + 1) = nxtD (stD ds i) d := by
  unfold stD
  rw [take_at h, List.foldl_append]
  rfl
theorem canT.sp {rs : Rs} {n : Nat} {a b : Bool} {x y : Int} (h : canT rs n a x b y = true) : isSp rs n (toSp a x) ∧ isSp rs n (toSp b y) ∧ 0 ≤ x ∧ 0 ≤ y := by
  unfold canT at h
  rw [Bool.and_eq_true] at h
  exact ⟨(okB.sp h.1).2, (okB.sp h.2).2, (okB.sp h.1).1, (okB.sp h.2).1⟩
theorem tied_len (rs : Rs) (n : Nat) (a : Bool) (x : Int) (b : Bool) (y : Int) : (tied rs n a x b y).length = rs.length := by unfold tied tieS; rw [putSp_length, putSp_length]
theorem nxtD_dr {s : Rs × Nat} (D : Dr s.1 s.2) (d : Deed) : Dr (nxtD s d).1 (nxtD s d).2 := by
  cases d with
  | pt => exact D.alone
  | look => exact D
  | tie a x b y =>
    show Dr (if canT s.1 s.2 a x b y = true then (tied s.1 s.2 a x b y, s.2 + 2) else s).1 (if canT s.1 s.2 a x b y = true then (tied s.1 s.2 a x b y, s.2 + 2) else s).2
    split
    · next h => exact D.tieS (canT.sp h).1 (canT.sp h).2.1
    · exact D
theorem nxtD_le (s : Rs × Nat) (d : Deed) : (nxtD s d).1.length ≤ s.1.length + 1 ∧ (nxtD s d).2 ≤ s.2 + 2 := by
  cases d with
  | pt => exact ⟨by show (s.1 ++ [[]]).length ≤ _; rw [List.length_append]; exact Nat.le_refl _, Nat.le_add_right _ _⟩
  | look => exact ⟨Nat.le_succ _, Nat.le_add_right _ _⟩
  | tie a x b y =>
    show (if canT s.1 s.2 a x b y = true then (tied s.1 s.2 a x b y, s.2 + 2) else s).1.length ≤ _ ∧ (if canT s.1 s.2 a x b y = true then (tied s.1 s.2 a x b y, s.2 + 2) else s).2 ≤ _
    split
    · exact ⟨by show (tied s.1 s.2 a x b y).length ≤ _; rw [tied_len]; omega, Nat.le_refl _⟩
    · exact ⟨Nat.le_succ _, Nat.le_add_right _ _⟩
theorem Dr.nil0 : Dr [] 0 := ⟨List.nodup_nil, fun z => ⟨fun h => absurd h (by simp), fun h => by omega⟩, rfl, rfl⟩
theorem stD_ok (ds : List Deed) : ∀ i, i ≤ ds.length → Dr (stD ds i).1 (stD ds i).2 ∧ (stD ds i).1.length ≤ i ∧ (stD ds i).2 ≤ 2 * i
  | 0, _ => ⟨Dr.nil0, Nat.le_refl _, Nat.le_refl _⟩
  | i + 1, h => by
    obtain ⟨h1, h2, h3⟩ := stD_ok ds i (by omega)
    rw [stD_succ (List.getElem?_eq_getElem (by omega : i < ds.length))]
    have h4 := nxtD_dr h1 (ds[i]'(by omega))
    have h5 := nxtD_le (stD ds i) (ds[i]'(by omega))
    exact ⟨h4, by omega, by omega⟩
def DeedsAt (H : Hp) (vs : List V) (ds : List Deed) : Prop := vs.length = ds.length ∧ ∀ (i : Nat) (v : V) (d : Deed), vs[i]? = some v → ds[i]? = some d → DeedAt H v d
theorem DeedsAt.same {H H' : Hp} {vs : List V} {ds : List Deed} (h : DeedsAt H vs ds) (s : Same H H') : DeedsAt H' vs ds := ⟨h.1, fun i v d e1 e2 => (h.2 i v d e1 e2).same s⟩
def newIn (H H' : Hp) : Hp := fun b => match H b with
  | none => H' b
  | some _ => none
theorem newIn_at {H H' : Hp} {b : Addr} {o : HO} (h : H b = none) (h' : H' b = some o) : newIn H H' b = some o := by
  unfold newIn
  rw [h]
  exact h'
theorem newIn_of {H H' : Hp} {b : Addr} {o : HO} (h : newIn H H' b = some o) : H b = none ∧ H' b = some o := by
  unfold newIn at h
  cases e : H b with
  | none => rw [e] at h; exact ⟨rfl, h⟩
  | some u => rw [e] at h; cases h
def wo (l : Addr) (H : Hp) : Hp := fun b => if b = l then none else H b
theorem wo_at {l b : Addr} {H : Hp} (h : b ≠ l) : wo l H b = H b := by unfold wo; rw [if_neg h]
theorem wo_of {l b : Addr} {H : Hp} {o : HO} (h : wo l H b = some o) : b ≠ l ∧ H b = some o := by
  unfold wo at h
  split at h
  · cases h
  · next z => exact ⟨z, h⟩
theorem wo_same {l : Addr} {H : Hp} : Same (wo l H) H := fun b o e => (wo_of e).2
theorem wo_upd {l : Addr} {H : Hp} {o : HO} : wo l (L2.upd H l o) = wo l H := by
  funext b
  unfold wo
  split
  · rfl
  · next z => rw [upd_ne z]
theorem new_wo {l : Addr} {H H' : Hp} {o : HO} (h : H l = some o) : Same (newIn H H') (wo l H') := fun b u e => by
  obtain ⟨h1, h2⟩ := newIn_of e
  rw [wo_at fun z => by rw [z, h] at h1; cases h1]
  exact h2
theorem _root_.L2.Rows.new {H H' : Hp} {p : Addr} {ps : List Addr} {rs : Rs} (R : Rows H' p ps rs) (hp : H p = none) (hq : ∀ q ∈ ps, H q = none) : Rows (newIn H H') p ps rs :=
  ⟨newIn_at hp R.out, R.nd, R.len, fun i q r e1 e2 => newIn_at (hq q (List.mem_of_getElem? e1)) (R.row i q r e1 e2)⟩
theorem _root_.L2.Rows.woL {H : Hp} {l p : Addr} {ps : List Addr} {rs : Rs} {o : HO} (R : Rows H p ps rs) (hp : p ≠ l) (hq : l ∉ ps) : Rows (L2.upd H l o) p ps rs :=
  ⟨by rw [upd_ne hp]; exact R.out, R.nd, R.len, fun i q r e1 e2 => by rw [upd_ne (show q ≠ l from fun z => hq (z ▸ List.mem_of_getElem? e1))]; exact R.row i q r e1 e2⟩
def spAnsTo (C : Addr) : Sp := fun vs H Q _ => ∃ (p r : Addr) (ps : List Addr) (v : V) (rs : Rs) (n : Nat) (d : Deed), vs = [.ref p, v] ∧ PaperAt C H p r ps rs ∧ Dr rs n ∧ n + 2 < 64 ∧ rs.length < 64 ∧ DeedAt H v d ∧
  ∀ (u : V) (r' : Addr) (ps' : List Addr) (H' : Hp), AnsAt (newIn H H') u (rs, n) d → PaperAt C H' p r' ps' (nxtD (rs, n) d).1 → Own H r ps r' ps' → SameB p H H' → Q u H'
def spAnswers (K : PySem.W.Frag) : Sp := fun vs H Q _ => ∃ (a : Addr) (zs : List V) (ds : List Deed), vs = [.ref a] ∧ SqL K H a zs ∧ DeedsAt H zs ds ∧ ds.length ≤ 20 ∧
  ∀ (l : Addr) (ws : List V) (H' : Hp), H l = none → H' l = some (.lst ws) → ws.length = ds.length → (∀ (i : Nat) (d : Deed) (u : V), ds[i]? = some d → ws[i]? = some u → AnsAt H' u (stD ds i) d) → Same H H' → Q (.ref l) H'
theorem told_of {rs fs gs : Rs} {n : Nat} (D : Dr rs n) (hF : Fcs (stp rs) n fs) (hG : Grp (lab rs n) rs.length rs.length gs) : Cts rs n fs.length gs.length := ⟨⟨fs, D.faces hF, rfl⟩, Grp.dc D hG⟩
section
variable {P : Program} {w : World} {K : PySem.W.Frag} {mg : Str → Option Value} {base : Heap}
theorem ne_lp : ("look" : Str) ≠ "point" := by decide +kernel
theorem ne_tp : ("tie" : Str) ≠ "point" := by decide +kernel
theorem ne_tl : ("tie" : Str) ≠ "look" := by decide +kernel
theorem scAnsTo : FnScope ["paper", "deed"] ["paper", "deed"] (defScope sAnswerTo) := ⟨rfl, rfl, rfl, by decide +kernel, rfl, by decide +kernel, by decide +kernel⟩
theorem ok_ansTo {f C CE : Addr} {fd : FuncData} (F : Fun K "answer_to" "answer_to" sAnswerTo f fd) (TP : TxtP K C) (OE : ExcC K mg "NoEnd" CE) (m1 : PySem.W.exmOne K (.ref CE) (.ref CE) = some true) (MP : MDef P w K mg base C "put_point" 1 ["self"] (spPoint C))
    (ML : MDef P w K mg base C "look" 1 ["self"] (spLook C)) (MT : MDef1 P w K mg base C "tie" 7 ["self", "one", "other"] (spTie C CE)) : FnOk P w K mg base CX0 8 f fd ["paper", "deed"] (spAnsTo C) := by
  refine F.ok scAnsTo (fun vs H Q E h => ?_) (fun cdv A outer s H vs Q E hr7 h => ?_)
  · obtain ⟨p, r, ps, v, rs, n, d, rfl, _⟩ := h
    rfl
  · obtain ⟨p, r, ps, v, rs, n, d, rfl, pa, D, hn, hrs, hd, k⟩ := h
    have hs : sizeLine = 16777216 := sizeLine_eq
    have nd := scAnsTo.nd
    have hr1 : Room 1 _ := hr7.mono (by decide)
    obtain ⟨dx, hp⟩ := pa.ob
    refine ⟨_, pss_cons (ps_if (pt_cmpR op_eq (pe_ix (r := rIxT K) ix_tup (pv 1) pe_int (fun _ _ => rfl)) pe_str (nomark _)) (pss_one (ps_ret (pmeth0 MP TP.cl hr1 (pv 0)))) (pss_nil))
      (pss_cons (ps_if (pt_cmpR op_eq (pe_ix (r := rIxT K) ix_tup (pv 1) pe_int (fun _ _ => rfl)) pe_str (nomark _)) (pss_one (ps_ret (pmeth0 ML TP.cl hr1 (pv 0)))) (pss_nil))
      (pss_one (ps_try (fun pn xe E1 σ1 hx => pss_one (ps_ret (pmethX MT TP.cl hr7 hx (pv 0) (pa_cons (pe_ix (r := rIxT K) ix_tup (pv 1) pe_int (fun _ _ => rfl)) (pa_cons (pe_ix (r := rIxT K) ix_tup (pv 1) pe_int (fun _ _ => rfl)) pa_nil))))) OE.mgx rfl (fun a => pss_one (ps_ret pe_str)) rfl rfl rfl))), ?_⟩
    cases d with
    | pt =>
      obtain ⟨t, rfl, ht⟩ := hd
      refine ⟨_, rfl, t, _, _, _, rfl, rfl, .of ht, atI_nat (j := 0) rfl, rfl, _, rfl, ?_⟩
      rw [seq_t rfl]
      refine iteT ⟨_, rfl, p, dx, _, rfl, hp, flds_no r (by decide +kernel), p, r, ps, rs, rfl, pa, by omega, fun r' ps' H1 pa1 ow s1 => ?_⟩
      exact k _ r' ps' H1 rfl pa1 ow s1
    | look =>
      obtain ⟨t, rfl, ht⟩ := hd
      refine ⟨_, rfl, t, _, _, _, rfl, rfl, .of ht, atI_nat (j := 0) rfl, rfl, _, rfl, ?_⟩
      rw [seq_f ne_lp]
      refine iteF ⟨_, rfl, t, _, _, _, rfl, rfl, .of ht, atI_nat (j := 0) rfl, rfl, _, rfl, ?_⟩
      rw [seq_t rfl]
      refine iteT ⟨_, rfl, p, dx, _, rfl, hp, flds_no r (by decide +kernel), p, r, ps, rs, rfl, pa, by omega, fun p' ps' H1 R1 s1 f1 f2 => ?_⟩
      exact k _ r ps H1 ⟨p', ps', rfl, R1.new f1 f2⟩ (pa.same s1) .refl (.of s1)
    | tie a x b y =>
      obtain ⟨t, u, v, rfl, ht, hu, hv⟩ := hd
      refine ⟨_, rfl, t, _, _, _, rfl, rfl, .of ht, atI_nat (j := 0) rfl, rfl, _, rfl, ?_⟩
      rw [seq_f ne_tp]
      refine iteF ⟨_, rfl, t, _, _, _, rfl, rfl, .of ht, atI_nat (j := 0) rfl, rfl, _, rfl, ?_⟩
      rw [seq_f ne_tl]
      refine iteF ?_
      refine ⟨rfl, _, rfl, p, dx, _, rfl, hp, flds_no r (by decide +kernel), _, rfl, t, _, _, _, rfl, rfl, .of ht, atI_nat (j := 1) rfl, _, rfl, t, _, _, _, rfl, rfl, .of ht, atI_nat (j := 2) rfl, p, r, ps, u, v, rs, n, a, b, x, y, rfl, pa, D, hn, hrs, hu, hv, fun hc fs gs t7 r7 ps7 H7 hF hG fT hT pa7 ow s7 => ?_, fun hc H7 s7 z hz => ⟨m1, ?_⟩⟩
      · have hc' : canT rs n a x b y = true := hc
        have D2 : Dr (tied rs n a x b y) (n + 2) := D.tieS (canT.sp hc').1 (canT.sp hc').2.1
        refine k _ r7 ps7 H7 (.inl ⟨hc', t7, _, _, rfl, told_of D2 hF (by rw [tied_len]; exact hG), newIn_at fT hT⟩) ?_ ow s7
        show PaperAt C H7 p r7 ps7 (if canT rs n a x b y = true then (tied rs n a x b y, n + 2) else (rs, n)).1
        rw [if_pos hc']
        exact pa7
      · have hc' : canT rs n a x b y = false := hc
        have s8 := s7.put (s7.free hz) (o := excO z (.ref CE))
        refine k _ r ps _ (.inr ⟨hc', rfl⟩) ?_ .refl (.of s8)
        show PaperAt C _ p r ps (if canT rs n a x b y = true then (tied rs n a x b y, n + 2) else (rs, n)).1
        rw [if_neg (by rw [hc']; decide)]
        exact pa.same s8
theorem scAnswers : FnScope ["deeds", "paper", "told", "deed"] ["deeds"] (defScope sAnswers) := ⟨rfl, rfl, rfl, by decide +kernel, rfl, by decide +kernel, by decide +kernel⟩
theorem ok_answers {f C : Addr} {fd : FuncData} (F : Fun K "answers" "answers" sAnswers f fd) (MK : MkDef P w K mg base "Paper" C 1 ["self"] (spInit C)) (DA : Def P w K mg base "answer_to" 8 ["paper", "deed"] (spAnsTo C)) : FnOk P w K mg base CX0 9 f fd ["deeds"] (spAnswers K) := by
  refine F.ok scAnswers (fun vs H Q E h => ?_) (fun cdv A outer s H vs Q E hr8 h => ?_)
  · obtain ⟨a, zs, ds, rfl, _⟩ := h
    rfl
  · obtain ⟨a, zs, ds, rfl, hS, hds, hl, k⟩ := h
    have hs : sizeLine = 16777216 := sizeLine_eq
    have nd := scAnswers.nd
    have hr2 : Room (1 + 1) _ := hr8.mono (by decide)
    refine ⟨_, pss_cons (ps_set (i := 1) nd rfl (Or.inl rfl) (pmake0 MK hr2))
      (pss_cons (ps_set (i := 2) nd rfl (Or.inl rfl) (pe_lst pa_nil))
      (pss_cons (ps_for PassesOwn.never rfl (pi_list (pv 0)) (pg_name (i := 3) nd rfl (Or.inl rfl)) (pss_one (ps_expr (pe_bm PySem.F.plainAttrs_list PySem.F.slot_list_append PySem.F.type_list_append mt_append (pv 2) (pa_cons (pcall DA hr8 (pa_cons (pv 1) (pa_cons (pv 3) pa_nil))) pa_nil)))))
      (pss_one (ps_ret (pv 2))))), ?_⟩
    intro x dx nx ndx nex
    refine ⟨x, dx, rfl, upd_same, fun r1 H1 fr1 pa1 kp => ⟨rfl, ?_⟩⟩
    have s0 : Same H (L2.upd (L2.upd H dx (.own x)) x (.ins C dx [])) := fun b o e => by
      rw [upd_ne (ne_of_none e nx), upd_ne (ne_of_none e ndx)]
      exact e
    have s1 : Same H H1 := fun b o e => kp b o (s0 b o e) (ne_of_none e nx)
    refine ⟨Nat.zero_le _, fun l hl1 => ?_⟩
    have hl0 := s1.free hl1
    have s2 : Same H1 (L2.upd H1 l (.lst [])) := (Same.refl H1).put hl1
    have g2 := upd_same (H := H1) (a := l) (o := .lst [])
    have nr1 : r1 ≠ l := fun z => by
      have := pa1.rows.out
      rw [z, hl1] at this
      cases this
    generalize L2.upd H1 l (.lst []) = H2 at s2 g2 ⊢
    refine ⟨_, rfl, a, rfl, ⟨_, (s1.trans s2).seq hS⟩, for_list (K := K) (a := a) (xs := zs) (fun i σ H3 => ∃ (v : Option V) (ws : List V) (r : Addr) (ps : List Addr), σ = [some (.ref a), some (.ref x), some (.ref l), v] ∧ Same H H3 ∧ PaperAt C H3 x r ps (stD ds i).1 ∧ r ≠ l ∧ l ∉ ps ∧ H3 l = some (.lst ws) ∧ ws.length = i ∧ (∀ (j : Nat) (d : Deed) (u : V), ds[j]? = some d → ws[j]? = some u → AnsAt (wo l H3) u (stD ds j) d))
      ⟨none, [], r1, [], rfl, s1.trans s2, pa1.same s2, nr1, by simp, g2, rfl, fun j d u _ e => by simp at e⟩ (fun i σ H3 _ ⟨_, _, _, _, _, s3, _⟩ => s3.seq hS) ?_ ?_⟩
    · rintro i y σ H3 hi ⟨v, ws, r, ps, rfl, s3, pa3, nr, nps, g3, hw, hA⟩
      have hil := (List.getElem?_eq_some_iff.mp hi).1
      have hil' : i < ds.length := by rw [← hds.1]; exact hil
      have hdi := List.getElem?_eq_getElem hil'
      obtain ⟨h1, h2, h3⟩ := stD_ok ds i (by omega)
      obtain ⟨dy, hx3⟩ := pa3.ob
      refine ⟨_, rfl, .inl ⟨rfl, _, .of g3⟩, _, rfl, _, rfl, x, r, ps, y, _, (stD ds i).2, ds[i], rfl, pa3, h1, by omega, by omega, (hds.2 i y _ hi hdi).same s3, fun u r' ps' H4 an pa4 ow s4 => ?_⟩
      have g4 : H4 l = some (.lst ws) := s4 _ _ g3 (ins_ne_lst hx3 g3)
      refine ⟨l, ws, u, rfl, rfl, g4, by omega, ?_⟩
      obtain ⟨dz, hx4⟩ := pa4.ob
      have nlx : x ≠ l := (ins_ne_lst hx4 g4).symm
      have sH4 : Same H H4 := fun b o e => s4 b o (s3 b o e) (ne_of_none e nx)
      have nr' : r' ≠ l := fun z => by
        rcases ow.out with y | y
        · exact nr (y ▸ z)
        · rw [z, g3] at y; cases y
      have nps' : l ∉ ps' := fun z => by
        rcases ow.row l z with y | y
        · exact nps y
        · rw [g3] at y; cases y
      refine ⟨_, ws ++ [u], r', ps', rfl, sH4.put hl0, ⟨⟨dz, by rw [upd_ne nlx]; exact hx4⟩, ?_⟩, nr', nps', upd_same, by rw [List.length_append, hw]; rfl, fun j d u' e1 e2 => ?_⟩
      · rw [stD_succ hdi]
        exact pa4.rows.woL nr' nps'
      · rw [wo_upd]
        by_cases hj : j < ws.length
        · rw [List.getElem?_append_left hj] at e2
          have hwx : wo l H3 x = some (.ins C dy (flds r)) := by rw [wo_at nlx]; exact hx3
          refine (hA j d u' e1 e2).sameB hwx fun b o e n => ?_
          obtain ⟨q1, q2⟩ := wo_of e
          rw [wo_at q1]
          exact s4 b o q2 n
        · have hjl := (List.getElem?_eq_some_iff.mp e2).1
          rw [List.length_append] at hjl
          have hji : j = i := by have : [u].length = 1 := rfl; omega
          subst hji
          rw [List.getElem?_append_right (by omega), hw, Nat.sub_self] at e2
          cases e2
          rw [hdi] at e1
          cases e1
          exact an.same (new_wo g3)
    · rintro σ H3 ⟨v, ws, r, ps, rfl, s3, pa3, nr, nps, g3, hw, hA⟩
      exact ⟨_, rfl, k l ws H3 hl0 g3 (by rw [hw]; exact hds.1) (fun j d u e1 e2 => (hA j d u e1 e2).same wo_same) s3⟩
end
end Ink
namespace Ink
open PySem L2
def FAt (rs : Rs) (a : Bool) (x : Int) (s : Str) (m : Int) : Prop := (a = true ∧ s = "face" ∧ ∃ row, IsFace (stp rs) (nextIn rs x) row ∧ m ∈ row ∧ ∀ z ∈ row, m ≤ z) ∨ (a = false ∧ s = "point" ∧ m = x)
theorem fne : ("face" : Str) ≠ "point" := by decide +kernel
theorem FAt.same {rs : Rs} {n : Nat} {a b : Bool} {x y m m' : Int} {s s' : Str} (D : Dr rs n) (ha : okB rs n a x = true) (hb : okB rs n b y = true) (h : FAt rs a x s m) (h' : FAt rs b y s' m') : (s = s' ∧ m = m') ↔ sameSp rs (toSp a x) (toSp b y) := by
  obtain ⟨hx0, hx1⟩ := okB.sp ha
  obtain ⟨hy0, hy1⟩ := okB.sp hb
  rcases h with ⟨rfl, rfl, row, hf, hm, hm'⟩ | ⟨rfl, rfl, rfl⟩
  · rcases h' with ⟨rfl, rfl, row', hf', hn, hn'⟩ | ⟨rfl, rfl, rfl⟩
    · show _ ↔ SameFace rs x y
      rw [← SameFace.least D hx1 hy1 hf hf' hm hm' hn hn']
      exact ⟨fun q => q.2, fun q => ⟨rfl, q⟩⟩
    · exact ⟨fun q => absurd q.1 fne, fun q => q.elim⟩
  · rcases h' with ⟨rfl, rfl, row', hf', hn, hn'⟩ | ⟨rfl, rfl, rfl⟩
    · exact ⟨fun q => absurd q.1.symm fne, fun q => q.elim⟩
    · show _ ↔ m.toNat = m'.toNat
      exact ⟨fun q => by rw [q.2], fun q => ⟨rfl, by omega⟩⟩
def spFaceAt : Sp := fun vs H Q _ => ∃ (p t : Addr) (ps : List Addr) (rs : Rs) (n : Nat) (a : Bool) (x : Int), vs = [.ref p, .ref t] ∧ Rows H p ps rs ∧ Dr rs n ∧ n ≤ 1000 ∧ H t = some (.tup [kd a, .int x]) ∧ okB rs n a x = true ∧
  ∀ (u : Addr) (s : Str) (m : Int) (H' : Hp), FAt rs a x s m → H' u = some (.tup [.str s, .int m]) → Same H H' → Q (.ref u) H'
def spTied : Sp := fun vs H Q _ => ∃ (p t u : Addr) (ps : List Addr) (rs : Rs) (n : Nat) (a b : Bool) (x y : Int), vs = [.ref p, .ref t, .ref u] ∧ Rows H p ps rs ∧ Dr rs n ∧ n ≤ 100 ∧ rs.length ≤ 100 ∧ H t = some (.tup [kd a, .int x]) ∧ H u = some (.tup [kd b, .int y]) ∧ canT rs n a x b y = true ∧
  ∀ (H' : Hp), Rows H' p ps (Ink.tied rs n a x b y) → (∀ c o, H c = some o → c ∉ ps → H' c = some o) → Q .non H'
section
variable {P : Program} {w : World} {K : PySem.W.Frag} {mg : Str → Option Value} {base : Heap}
theorem scCanBe : FnScope ["_law_rounds", "_law_spot"] ["_law_rounds", "_law_spot"] (defScope sCanBe) := ⟨rfl, rfl, rfl, by decide +kernel, rfl, by decide +kernel, by decide +kernel⟩
theorem ok_canBe {f : Addr} {fd : FuncData} (F : Fun K "_law_can_be" "_law_can_be" sCanBe f fd) (T : Txt mg) : FnOk P w K mg base CX0 1 f fd ["_law_rounds", "_law_spot"] spIsSpot := by
  refine F.ok scCanBe (fun vs H Q E h => ?_) (fun cdv A outer s H vs Q E hr h => ?_)
  · obtain ⟨p, t, ps, rs, n, a, x, rfl, _⟩ := h
    rfl
  · obtain ⟨p, t, ps, rs, n, a, x, rfl, R, D, hrs, ht, k⟩ := h
    have hs : sizeLine = 16777216 := sizeLine_eq
    have nd := scCanBe.nd
    have hu := hr.units
    refine ⟨_, pss_cons (ps_if (pt_cmpR op_eq (pe_ix (r := rIxT K) ix_tup (pv 1) pe_int (fun _ _ => rfl)) pe_str (nomark _)) (pss_one (ps_ret (pe_chain op_le op_lt pe_int (pe_ix (r := rIxT K) ix_tup (pv 1) pe_int (fun _ _ => rfl)) (pe_callB (call_sum rfl) (by rfl) T.sum PyProof.Rows.boot_sum (pa_cons (pe_comp (te := tLen K 0) rfl (Blk.plain rfl (by decide +kernel) (by decide +kernel)) (pi_list (pv 0)) (fun _ _ _ _ => pts_nil) (fun _ _ _ _ => (pe_callB call_len_seq (by rfl) T.len PySem.boot_len (pa_cons (pv 0) pa_nil)))) pa_nil))))) (pss_nil))
      (pss_one (ps_ret (pe_and (pe_chain op_le op_lt pe_int (pe_ix (r := rIxT K) ix_tup (pv 1) pe_int (fun _ _ => rfl)) (pe_callB call_len_seq (by rfl) T.len PySem.boot_len (pa_cons (pv 0) pa_nil))) (pe_one (pe_cmpR (op_eqD hu) (pe_ix (r := rIxL K) ix_list (pv 0) (pe_ix (r := rIxT K) ix_tup (pv 1) pe_int (fun _ _ => rfl)) (fun _ _ => rfl)) (pe_lst pa_nil) (nomark _)))))), ?_⟩
    refine ⟨_, rfl, t, _, _, _, rfl, rfl, .of ht, atI_nat (j := 0) rfl, rfl, _, rfl, ?_⟩
    cases a with
    | true =>
      refine iteT ?_
      refine ⟨_, rfl, t, _, _, _, rfl, rfl, .of ht, atI_nat (j := 1) rfl, _, _, rfl, rfl, _, rfl, ?_⟩
      refine ite2 (fun h0 => ?_) (fun h0 => ?_)
      · have h0' := of_decide_eq_true h0
        refine ⟨_, rfl, p, rfl, ⟨_, .of R.out⟩, fun D' hD => lens_comp R hD (by omega) fun H' s' hd => ?_⟩
        refine ⟨D', rs.map fun r => (r.length : Int), rfl, .of (by rw [hd, List.map_map]; rfl), _, _, rfl, rfl, ?_⟩
        have e : decide (x < (rs.map fun r => (r.length : Int)).sum) = okB rs n true x := by
          show _ = decide (0 ≤ x ∧ x < (n : Int))
          rw [lens_sum, D.len]
          simp [h0']
        have kk := k H' s'
        rw [← e] at kk
        exact kk
      · have h0' : ¬ 0 ≤ x := fun z => h0 (decide_eq_true z)
        have e : false = okB rs n true x := by
          show _ = decide (0 ≤ x ∧ x < (n : Int))
          simp [h0']
        have kk := k H (Same.refl H)
        rw [← e] at kk
        exact kk
    | false =>
      refine iteF ?_
      refine ⟨_, rfl, t, _, _, _, rfl, rfl, .of ht, atI_nat (j := 1) rfl, _, _, rfl, rfl, _, rfl, ?_⟩
      refine ite2 (fun h0 => ?_) (fun h0 => ?_)
      · have h0' := of_decide_eq_true h0
        refine ⟨_, rfl, p, _, rfl, .inl (.of R.out), _, _, rfl, rfl, _, rfl, ?_⟩
        refine ite2 (fun h1 => ?_) (fun h1 => ?_)
        · have h1' := of_decide_eq_true h1
          rw [List.length_map, R.len] at h1'
          obtain ⟨j, rfl⟩ : ∃ j : Nat, x = j := ⟨x.toNat, by omega⟩
          have hj : j < rs.length := by omega
          have hr' := List.getElem?_eq_getElem hj
          obtain ⟨q, hq, hH⟩ := R.get hr'
          refine ⟨_, rfl, _, rfl, t, _, _, _, rfl, rfl, .of ht, atI_nat (j := 1) rfl, p, _, _, _, rfl, rfl, .of R.out, atI_nat (j := j) (v := V.ref q) (by rw [List.getElem?_map, hq]; rfl), (by show 0 ≤ sizeLine; omega), fun z hz => ?_⟩
          have sz : Same H (L2.upd H z (.lst [])) := (Same.refl H).put hz
          refine ⟨intsD rs[j], .list [], .ints (.of (sz _ _ hH)), .lst (.of upd_same) .nil, lay_ints _, rfl, Nat.le_trans (depth_ints _) (by decide), ?_⟩
          have e : PyData.eqv (intsD rs[j]) (.list []) = okB rs n false (j : Int) := by
            show _ = decide (0 ≤ (j : Int) ∧ rs[((j : Int)).toNat]? = some [])
            rw [show PyData.list [] = intsD [] from rfl, eqv_ints, Int.toNat_natCast, hr']
            by_cases z : rs[j] = []
            · rw [decide_eq_true z, decide_eq_true ⟨by omega, by rw [z]⟩]
            · rw [decide_eq_false z, decide_eq_false fun y => z (Option.some.inj y.2)]
          have kk := k _ sz
          rw [← e] at kk
          exact kk
        · have h1' : ¬ x < (((ps.map V.ref).length : Nat) : Int) := fun z => h1 (decide_eq_true z)
          rw [List.length_map, R.len] at h1'
          have e : false = okB rs n false x := by
            show _ = decide (0 ≤ x ∧ rs[x.toNat]? = some [])
            rw [decide_eq_false fun y => ?_]
            have := (List.getElem?_eq_some_iff.mp y.2).1
            omega
          have kk := k H (Same.refl H)
          rw [← e] at kk
          exact kk
      · have h0' : ¬ 0 ≤ x := fun z => h0 (decide_eq_true z)
        have e : false = okB rs n false x := by
          show _ = decide (0 ≤ x ∧ rs[x.toNat]? = some [])
          rw [decide_eq_false fun y => h0' y.1]
        refine ⟨_, rfl, iteF ?_⟩
        have kk := k H (Same.refl H)
        rw [← e] at kk
        exact kk
theorem scFaceAt : FnScope ["_law_rounds", "_law_spot", "_law_row"] ["_law_rounds", "_law_spot"] (defScope sFaceAt) := ⟨rfl, rfl, rfl, by decide +kernel, rfl, by decide +kernel, by decide +kernel⟩
theorem ok_faceAt {f : Addr} {fd : FuncData} (F : Fun K "_law_face_at" "_law_face_at" sFaceAt f fd) (zmin : mg "min" = none) (DF : Def P w K mg base "_law_face_of" 2 ["_law_rounds", "_law_end"] spFaceOf) (DNx : Def P w K mg base "_law_next_in" 1 ["_law_rounds", "_law_end"] spNextIn) : FnOk P w K mg base CX0 3 f fd ["_law_rounds", "_law_spot"] spFaceAt := by
  refine F.ok scFaceAt (fun vs H Q E h => ?_) (fun cdv A outer s H vs Q E hr2 h => ?_)
  · obtain ⟨p, t, ps, rs, n, a, x, rfl, _⟩ := h
    rfl
  · obtain ⟨p, t, ps, rs, n, a, x, rfl, R, D, hn, ht, ha, k⟩ := h
    have hs : sizeLine = 16777216 := sizeLine_eq
    have nd := scFaceAt.nd
    have hr1 : Room 1 _ := hr2.mono (by decide)
    refine ⟨_, pss_cons (ps_if (pt_cmpR op_eq (pe_ix (r := rIxT K) ix_tup (pv 1) pe_int (fun _ _ => rfl)) pe_str (nomark _)) (pss_one (ps_ret (pe_tup (pa_cons pe_str (pa_cons (pe_ix (r := rIxT K) ix_tup (pv 1) pe_int (fun _ _ => rfl)) pa_nil))))) (pss_nil))
      (pss_cons (ps_set (i := 2) nd rfl (Or.inl rfl) (pcall DF hr2 (pa_cons (pv 0) (pa_cons (pcall DNx hr1 (pa_cons (pv 0) (pa_cons (pe_ix (r := rIxT K) ix_tup (pv 1) pe_int (fun _ _ => rfl)) pa_nil))) pa_nil))))
      (pss_one (ps_ret (pe_tup (pa_cons pe_str (pa_cons (pe_callB (call_min rfl) (by rfl) zmin PyProof.Rows.boot_min (pa_cons (pv 2) pa_nil)) pa_nil)))))), ?_⟩
    refine ⟨_, rfl, t, _, _, _, rfl, rfl, .of ht, atI_nat (j := 0) rfl, rfl, _, rfl, ?_⟩
    cases a with
    | true =>
      refine iteF ?_
      have hx := (okB.sp ha).2
      have hx' : 0 ≤ x ∧ x < (n : Int) := hx
      have ah := acr_lt D.even hx'.1 hx'.2
      have bn : 0 ≤ nextIn rs x ∧ nextIn rs x < n := by
        have := D.stp_mem ah.1 ah.2
        rw [show stp rs (acr x) = nextIn rs x by show nextIn rs (acr (acr x)) = _; rw [acr_acr]] at this
        exact this
      refine ⟨_, rfl, _, rfl, _, rfl, t, _, _, _, rfl, rfl, .of ht, atI_nat (j := 1) rfl, p, ps, rs, x, rfl, R, p, ps, rs, n, nextIn rs x, rfl, R, D, hn, bn.1, bn.2, fun q row H1 hf hq hL s1 => ?_⟩
      refine ⟨_, rfl, q, row, rfl, .of hL, (fun z => by have := hf.pos; rw [z] at this; cases this), fun m hm hm' => ?_⟩
      refine ⟨(by show 2 ≤ sizeLine; omega), fun u hu => ?_⟩
      exact k u "face" m _ (.inl ⟨rfl, rfl, row, hf, hm, hm'⟩) upd_same (s1.put (s1.free hu))
    | false =>
      refine iteT ?_
      refine ⟨_, rfl, t, _, _, _, rfl, rfl, .of ht, atI_nat (j := 1) rfl, (by show 2 ≤ sizeLine; omega), fun u hu => ?_⟩
      exact k u "point" x _ (.inr ⟨rfl, rfl, rfl⟩) upd_same ((Same.refl H).put hu)
def tieK (rs : Rs) (n : Nat) (s t : Spot) : Nat → Rs
  | 0 => rs
  | 1 => putSp rs s n
  | _ => tieS rs n s t
theorem twice_put {rs : Rs} {n i : Nat} (D : Dr rs n) (h : rs[i]? = some []) : putIn (putSp rs (.p i) n) n ((n : Int) + 1) = putSp (putSp rs (.p i) n) (.p i) ((n : Int) + 1) := by
  have hi := (List.getElem?_eq_some_iff.mp h).1
  have e1 : putSp rs (.p i) n = rs.set i [(n : Int)] := by
    show rs.set i (rs.getD i [] ++ [(n : Int)]) = _
    rw [List.getD_eq_getElem?_getD, h]
    rfl
  have e2 : (rs.set i [(n : Int)]).getD i [] = [(n : Int)] := by rw [List.getD_eq_getElem?_getD, List.getElem?_set_self hi]; rfl
  rw [e1]
  show (rs.set i [(n : Int)]).map (putRow n ((n : Int) + 1)) = (rs.set i [(n : Int)]).set i ((rs.set i [(n : Int)]).getD i [] ++ [(n : Int) + 1])
  rw [e2, List.map_set, List.set_set]
  have e3 : putRow (n : Int) ((n : Int) + 1) [(n : Int)] = [(n : Int), (n : Int) + 1] := by
    unfold putRow insAt
    simp
  rw [e3]
  congr 1
  conv => rhs; rw [← List.map_id rs]
  exact List.map_congr_left fun r hr => putRow_no fun z => D.new (Int.le_refl _) (mem_flat hr z)
theorem scTied : FnScope ["_law_rounds", "_law_one", "_law_other", "_law_end", "_law_k", "_law_spot"] ["_law_rounds", "_law_one", "_law_other"] (defScope sTied) := ⟨rfl, rfl, rfl, by decide +kernel, rfl, by decide +kernel, by decide +kernel⟩
set_option maxHeartbeats 4000000 in
theorem ok_tied {f : Addr} {fd : FuncData} (F : Fun K "_law_tied" "_law_tied" sTied f fd) (T : Txt mg) (DPu : Def P w K mg base "_law_put" 1 ["_law_rounds", "_law_behind", "_law_end"] spPut) : FnOk P w K mg base CX0 2 f fd ["_law_rounds", "_law_one", "_law_other"] spTied := by
  refine F.ok scTied (fun vs H Q E h => ?_) (fun cdv A outer s H vs Q E hr1 h => ?_)
  · obtain ⟨p, t, u, ps, rs, n, a, b, x, y, rfl, _⟩ := h
    rfl
  · obtain ⟨p, t, u, ps, rs, n, a, b, x, y, rfl, R, D, hn, hrs, ht, hu', hc, k⟩ := h
    have hs : sizeLine = 16777216 := sizeLine_eq
    have nd := scTied.nd
    have hu := hr1.units
    obtain ⟨hx1, hy1, hx0, hy0⟩ := canT.sp hc
    have hrow : ∀ q ∈ rs, q.length ≤ 100 := fun q hq => by
      have := row_le D hq
      omega
    have notin : ∀ {z : Addr} {xs : List V}, H z = some (.tup xs) → z ∉ ps := fun h z => by
      obtain ⟨r, _, e⟩ := R.mem z
      rw [e] at h
      cases h
    refine ⟨_, pss_cons (ps_set (i := 3) nd rfl (Or.inl rfl) (pe_callB (call_sum rfl) (by rfl) T.sum PyProof.Rows.boot_sum (pa_cons (pe_comp (te := tLen K 0) rfl (Blk.plain rfl (by decide +kernel) (by decide +kernel)) (pi_list (pv 0)) (fun _ _ _ _ => pts_nil) (fun _ _ _ _ => (pe_callB call_len_seq (by rfl) T.len PySem.boot_len (pa_cons (pv 0) pa_nil)))) pa_nil)))
      (pss_one (ps_for PassesOwn.never rfl (pi_range1 (by rfl) T.range (pa_cons pe_int pa_nil)) (pg_name (i := 4) nd rfl (Or.inl rfl)) (pss_cons (ps_set (i := 5) nd rfl (Or.inl rfl) (pe_ix (r := rIxL K) ix_list (pe_lst (pa_cons (pv 1) (pa_cons (pv 2) pa_nil))) (pv 4) (fun _ _ => rfl)))
      (pss_one (ps_if (pt_cmpR op_eq (pe_ix (r := rIxT K) ix_tup (pv 5) pe_int (fun _ _ => rfl)) pe_str (nomark _)) (pss_one (ps_expr (pcall DPu hr1 (pa_cons (pv 0) (pa_cons (pe_ix (r := rIxT K) ix_tup (pv 5) pe_int (fun _ _ => rfl)) (pa_cons (pe_op op_add (pv 3) (pv 4)) pa_nil)))))) (pss_one (ps_if (pt_cmpR (op_eqD hu) (pe_ix (r := rIxL K) ix_list (pv 0) (pe_ix (r := rIxT K) ix_tup (pv 5) pe_int (fun _ _ => rfl)) (fun _ _ => rfl)) (pe_lst pa_nil) (nomark _)) (pss_one (ps_expr (pe_bm PySem.F.plainAttrs_list PySem.F.slot_list_append PySem.F.type_list_append mt_append (pe_ix (r := rIxL K) ix_list (pv 0) (pe_ix (r := rIxT K) ix_tup (pv 5) pe_int (fun _ _ => rfl)) (fun _ _ => rfl)) (pa_cons (pe_op op_add (pv 3) (pv 4)) pa_nil)))) (pss_one (ps_expr (pcall DPu hr1 (pa_cons (pv 0) (pa_cons (pv 3) (pa_cons (pe_op op_add (pv 3) pe_int) pa_nil))))))))))))), ?_⟩
    refine ⟨_, rfl, p, rfl, ⟨_, .of R.out⟩, fun D' hD => lens_comp R hD (by omega) fun H1 s1 hd => ?_⟩
    refine ⟨D', rs.map fun r => (r.length : Int), rfl, .of (by rw [hd, List.map_map]; rfl), ?_⟩
    have e : (rs.map fun r => (r.length : Int)).sum = (n : Int) := by rw [lens_sum, D.len]
    dsimp only [gName]
    rw [show (List.map (fun r => ((List.length r : Nat) : Int)) rs).sum = (n : Int) from e]
    refine ⟨2, rfl, by decide, by decide, for_range (n := 2) (fun i σ H2 => ∃ v4 v5, σ = [some (.ref p), some (.ref t), some (.ref u), some (.int (n : Nat)), v4, v5] ∧ Rows H2 p ps (tieK rs n (toSp a x) (toSp b y) i) ∧ ∀ c o, H c = some o → c ∉ ps → H2 c = some o)
      ⟨none, none, rfl, R.same s1, fun c o e _ => s1 c o e⟩ ?_ ?_⟩
    · rintro i σ H2 hi ⟨v4, v5, rfl, R2, fr⟩
      have hrowi : ∀ q ∈ tieK rs n (toSp a x) (toSp b y) i, q.length ≤ 1000 := fun q hq => by
        cases i with
        | zero => have := hrow q hq; omega
        | succ i =>
          cases i with
          | zero => have := putSp_rows hrow q hq; omega
          | succ i => omega
      have hleni : (tieK rs n (toSp a x) (toSp b y) i).length = rs.length := by rw [← R2.len, R.len]
      obtain ⟨ti, ai, xi, hat, hti, hx0i, hnext, hcase⟩ : ∃ (ti : Addr) (ai : Bool) (xi : Int), ([V.ref t, V.ref u] : List V)[i]? = some (.ref ti) ∧ H2 ti = some (.tup [kd ai, .int xi]) ∧ 0 ≤ xi ∧
          tieK rs n (toSp a x) (toSp b y) (i + 1) = putSp (tieK rs n (toSp a x) (toSp b y) i) (toSp ai xi) ((n : Int) + (i : Nat)) ∧
          (ai = false → (tieK rs n (toSp a x) (toSp b y) i)[xi.toNat]? = some [] ∨ ((∃ r, (tieK rs n (toSp a x) (toSp b y) i)[xi.toNat]? = some r ∧ r ≠ []) ∧ putIn (tieK rs n (toSp a x) (toSp b y) i) n ((n : Int) + 1) = tieK rs n (toSp a x) (toSp b y) (i + 1))) := by
        cases i with
        | zero =>
          refine ⟨t, a, x, rfl, fr _ _ ht (notin ht), hx0, ?_, fun ea => ?_⟩
          · show putSp rs (toSp a x) n = putSp rs (toSp a x) ((n : Int) + ((0 : Nat) : Int))
            rw [show (n : Int) + ((0 : Nat) : Int) = n by omega]
          · subst ea
            exact .inl hx1
        | succ i =>
          cases i with
          | succ i => omega
          | zero =>
            refine ⟨u, b, y, rfl, fr _ _ hu' (notin hu'), hy0, rfl, fun eb => ?_⟩
            subst eb
            have hy : rs[y.toNat]? = some [] := hy1
            cases a with
            | true =>
              left
              show (putIn rs x n)[y.toNat]? = some []
              rw [put_row hy, putRow_no (by simp)]
            | false =>
              have hx : rs[x.toNat]? = some [] := hx1
              have hxl := (List.getElem?_eq_some_iff.mp hx).1
              by_cases q : x.toNat = y.toNat
              · right
                refine ⟨⟨[(n : Int)], ?_, by simp⟩, ?_⟩
                · show (rs.set x.toNat (rs.getD x.toNat [] ++ [(n : Int)]))[y.toNat]? = _
                  rw [← q, List.getElem?_set_self hxl, List.getD_eq_getElem?_getD, hx]
                  rfl
                · show putIn (putSp rs (.p x.toNat) n) n ((n : Int) + 1) = putSp (putSp rs (.p x.toNat) n) (.p y.toNat) ((n : Int) + 1)
                  rw [← q]
                  exact twice_put D hx
              · left
                show (rs.set x.toNat (rs.getD x.toNat [] ++ [(n : Int)]))[y.toNat]? = _
                rw [List.getElem?_set_ne q]
                exact hy
      generalize tieK rs n (toSp a x) (toSp b y) (i + 1) = rsn at hnext hcase ⊢
      generalize tieK rs n (toSp a x) (toSp b y) i = rsi at hnext hcase R2 hrowi hleni
      refine ⟨_, rfl, _, rfl, (by show 2 ≤ sizeLine; omega), fun l hl => ?_⟩
      have s3 : Same H2 (L2.upd H2 l (.lst [.ref t, .ref u])) := (Same.refl H2).put hl
      have g3 := upd_same (H := H2) (a := l) (o := .lst [.ref t, .ref u])
      generalize L2.upd H2 l (.lst [.ref t, .ref u]) = H3 at s3 g3 ⊢
      have R3 := R2.same s3
      have fr3 : ∀ c o, H c = some o → c ∉ ps → H3 c = some o := fun c o e n1 => s3 _ _ (fr c o e n1)
      have hti3 := s3 _ _ hti
      refine ⟨_, rfl, l, _, _, _, rfl, rfl, .of g3, (by rw [Int.zero_add]; exact atI_nat hat), ?_⟩
      dsimp only [gName]
      refine ⟨_, rfl, ti, _, _, _, rfl, rfl, .of hti3, atI_nat (j := 0) rfl, rfl, _, rfl, ?_⟩
      cases ai with
      | true =>
        refine iteT ⟨_, rfl, _, rfl, ti, _, _, _, rfl, rfl, .of hti3, atI_nat (j := 1) rfl, _, rfl, _, rfl, _, _, rfl, rfl, p, ps, _, xi, _, rfl, R3, hrowi, fun H4 R4 fr4 => ⟨_, _, rfl, ?_, fun c o e n1 => fr4 _ _ (fr3 c o e n1) n1⟩⟩
        rw [Int.zero_add] at R4
        rw [hnext]
        exact R4
      | false =>
        refine iteF ?_
        obtain ⟨j, rfl⟩ : ∃ j : Nat, xi = j := ⟨xi.toNat, by omega⟩
        rw [Int.toNat_natCast] at hcase
        have hcase := hcase rfl
        obtain ⟨r, hr, hE⟩ : ∃ r, rsi[j]? = some r ∧ ((r = []) ∨ (r ≠ [] ∧ putIn rsi n ((n : Int) + 1) = rsn)) := by
          rcases hcase with z | ⟨⟨r, z1, z2⟩, z3⟩
          · exact ⟨[], z, .inl rfl⟩
          · exact ⟨r, z1, .inr ⟨z2, z3⟩⟩
        obtain ⟨q, hq, hH⟩ := R3.get hr
        refine ⟨_, rfl, _, rfl, ti, _, _, _, rfl, rfl, .of hti3, atI_nat (j := 1) rfl, p, _, _, _, rfl, rfl, .of R3.out, atI_nat (j := j) (v := V.ref q) (by rw [List.getElem?_map, hq]; rfl), Nat.zero_le _, fun z hz => ?_⟩
        have sz : Same H3 (L2.upd H3 z (.lst [])) := (Same.refl H3).put hz
        have gz := upd_same (H := H3) (a := z) (o := .lst [])
        generalize L2.upd H3 z (.lst []) = H4 at sz gz ⊢
        refine ⟨intsD r, .list [], .ints (.of (sz _ _ hH)), .lst (.of gz) .nil, lay_ints _, rfl, Nat.le_trans (depth_ints _) (by decide), _, rfl, ?_⟩
        rw [show PyData.list [] = intsD [] from rfl, eqv_ints]
        have R4 := R3.same sz
        have fr4 : ∀ c o, H c = some o → c ∉ ps → H4 c = some o := fun c o e n1 => sz _ _ (fr3 c o e n1)
        have hti4 := sz _ _ hti3
        rcases hE with rfl | ⟨hne, hput⟩
        · rw [decide_eq_true rfl]
          refine iteT ⟨_, rfl, _, rfl, ti, _, _, _, rfl, rfl, .of hti4, atI_nat (j := 1) rfl, p, _, _, _, rfl, rfl, .of R4.out, atI_nat (j := j) (v := V.ref q) (by rw [List.getElem?_map, hq]; rfl), .inl ⟨rfl, _, .of (sz _ _ hH)⟩, _, rfl, _, rfl, _, _, rfl, rfl, q, _, _, rfl, rfl, sz _ _ hH, (by show 0 < sizeLine; omega), _, _, rfl, ?_, fun c o e n1 => ?_⟩
          · have R5 := R4.set hq [(n : Int) + (i : Nat)]
            rw [Int.zero_add, hnext]
            have e5 : putSp rsi (toSp false (j : Int)) ((n : Int) + (i : Nat)) = rsi.set j [(n : Int) + (i : Nat)] := by
              show rsi.set ((j : Int)).toNat (rsi.getD ((j : Int)).toNat [] ++ [(n : Int) + (i : Nat)]) = _
              rw [Int.toNat_natCast, List.getD_eq_getElem?_getD, hr]
              rfl
            rw [e5]
            exact R5
          · rw [upd_ne (show c ≠ q from fun z' => n1 (z' ▸ List.mem_of_getElem? hq))]
            exact fr4 c o e n1
        · rw [decide_eq_false hne]
          refine iteF ⟨_, rfl, _, rfl, _, rfl, _, _, rfl, rfl, p, ps, _, n, _, rfl, R4, hrowi, fun H5 R5 fr5 => ⟨_, _, rfl, ?_, fun c o e n1 => fr5 _ _ (fr4 c o e n1) n1⟩⟩
          rw [hput] at R5
          exact R5
    · rintro σ H2 ⟨v4, v5, rfl, R2, fr⟩
      exact k H2 R2 fr
end
end Ink
namespace Ink
open PySem L2
structure ExT10 (K : PySem.W.Frag) (mg : Str → Option Value) (CE CI : Addr) : Prop where
  ek : ExK K CE
  ink : mg "InkError" = some (.ref CI)
  vE : mg "ValueError" = none
  m1 : PySem.W.exmOne K (.ref CE) (.ref CI) = some true
  m3 : PySem.W.kitOne K (.ref CE) (.ref CE) = some true
  m4 : PySem.W.kitOne K (.ref CE) (.type "ValueError") = some true
def spToldBy (C : Addr) : Sp := fun vs H Q _ => ∃ (p r : Addr) (ps : List Addr) (v : V) (rs : Rs) (n : Nat) (d : Deed), vs = [.ref p, v] ∧ PaperAt C H p r ps rs ∧ Dr rs n ∧ n + 2 < 64 ∧ rs.length < 64 ∧ DeedAt H v d ∧
  ∀ (u : V) (r' : Addr) (ps' : List Addr) (H' : Hp), HandAt (newIn H H') u (rs, n) d → PaperAt C H' p r' ps' (nxtD (rs, n) d).1 → Own H r ps r' ps' → SameB p H H' → Q u H'
def spDueOf : Sp := fun vs H Q _ => ∃ (p : Addr) (ps : List Addr) (v : V) (rs : Rs) (n : Nat) (d : Deed), vs = [.ref p, v] ∧ Rows H p ps rs ∧ Dr rs n ∧ n + 2 < 64 ∧ rs.length < 63 ∧ DeedAt H v d ∧
  ∀ (u : V) (ps' : List Addr) (H' : Hp), AnsAt H' u (rs, n) d → Rows H' p ps' (nxtD (rs, n) d).1 → (∀ q ∈ ps', q ∈ ps ∨ H q = none) → (∀ c o, H c = some o → c ≠ p → c ∉ ps → H' c = some o) → Q u H'
section
variable {P : Program} {w : World} {K : PySem.W.Frag} {mg : Str → Option Value} {base : Heap}
theorem scToldBy : FnScope ["_law_paper", "_law_deed", "_law_word", "e"] ["_law_paper", "_law_deed"] (defScope sToldBy) := ⟨rfl, rfl, rfl, by decide +kernel, rfl, by decide +kernel, by decide +kernel⟩
set_option maxHeartbeats 4000000 in
theorem ok_toldBy {f C CE CI : Addr} {fd : FuncData} (F : Fun K "_law_told_by" "_law_told_by" sToldBy f fd) (T : Txt mg) (TP : TxtP K C) (OE : ExcC K mg "NoEnd" CE) (TX : ExT10 K mg CE CI) (MP : MDef P w K mg base C "put_point" 1 ["self"] (spPoint C))
    (ML : MDef P w K mg base C "look" 1 ["self"] (spLook C)) (MT : MDef1 P w K mg base C "tie" 7 ["self", "one", "other"] (spTie C CE)) : FnOk P w K mg base CX0 8 f fd ["_law_paper", "_law_deed"] (spToldBy C) := by
  refine F.ok scToldBy (fun vs H Q E h => ?_) (fun cdv A outer s H vs Q E hr7 h => ?_)
  · obtain ⟨p, r, ps, v, rs, n, d, rfl, _⟩ := h
    rfl
  · obtain ⟨p, r, ps, v, rs, n, d, rfl, pa, D, hn, hrs, hd, k⟩ := h
    have hs : sizeLine = 16777216 := sizeLine_eq
    have nd := scToldBy.nd
    have hr1 : Room 1 _ := hr7.mono (by decide)
    obtain ⟨dx, hp⟩ := pa.ob
    refine ⟨_, pss_cons (ps_set (i := 2) nd rfl (Or.inl rfl) pe_str)
      (pss_cons (ps_tryAs (i := 3) (fun pn xe E1 σ1 hx => pss_one (ps_if (pt_cmpR op_eq (pe_ix (r := rIxT K) ix_tup (pv 1) pe_int (fun _ _ => rfl)) pe_str (nomark _)) (pss_one (ps_set (i := 2) nd rfl (Or.inl rfl) (pmeth0 MP TP.cl hr1 (pv 0)))) (pss_one (ps_if (pt_cmpR op_eq (pe_ix (r := rIxT K) ix_tup (pv 1) pe_int (fun _ _ => rfl)) pe_str (nomark _)) (pss_one (ps_set (i := 2) nd rfl (Or.inl rfl) (pmethX MT TP.cl hr7 hx (pv 0) (pa_cons (pe_ix (r := rIxT K) ix_tup (pv 1) pe_int (fun _ _ => rfl)) (pa_cons (pe_ix (r := rIxT K) ix_tup (pv 1) pe_int (fun _ _ => rfl)) pa_nil))))) (pss_one (ps_set (i := 2) nd rfl (Or.inl rfl) (pmeth0 ML TP.cl hr1 (pv 0)))))))) TX.ink rfl rfl nd rfl (fun a => pss_cons (ps_set (i := 2) nd rfl (Or.inl rfl) (pe_ix (r := rIxL K) ix_list (pe_lst (pa_cons pe_str (pa_cons pe_str pa_nil))) (pe_callTy call_int1 (by rfl) T.int PyProof.Rows.boot_int (pa_cons (pe_and (pe_callB (r := rIsx K) call_isx (by rfl) T.isi PyProof.Rows.boot_isinstance (pa_cons (pv 3) (pa_cons (pe_glob (v := .ref CE) (by rfl) OE.mgx rfl) pa_nil))) (pe_one (pe_callB (r := rIsx K) call_isx (by rfl) T.isi PyProof.Rows.boot_isinstance (pa_cons (pv 3) (pa_cons (pe_bltn (v := .ty "ValueError") (by rfl) TX.vE PyProof.Rows.Boot.«ValueError» rfl) pa_nil))))) pa_nil)) (fun _ _ => rfl)))
      (pss_one (ps_set (i := 2) nd rfl (Or.inl rfl) (pe_tup (pa_cons pe_str (pa_cons (pv 2) pa_nil)))))) rfl rfl rfl)
      (pss_one (ps_ret (pv 2)))), ?_⟩
    cases d with
    | pt =>
      obtain ⟨t, rfl, ht⟩ := hd
      refine ⟨_, rfl, t, _, _, _, rfl, rfl, .of ht, atI_nat (j := 0) rfl, rfl, _, rfl, ?_⟩
      rw [seq_t rfl]
      refine iteT ⟨_, rfl, p, dx, _, rfl, hp, flds_no r (by decide +kernel), p, r, ps, rs, rfl, pa, by omega, fun r' ps' H1 pa1 ow s1 => ?_⟩
      exact ⟨_, rfl, k _ r' ps' H1 rfl pa1 ow s1⟩
    | look =>
      obtain ⟨t, rfl, ht⟩ := hd
      refine ⟨_, rfl, t, _, _, _, rfl, rfl, .of ht, atI_nat (j := 0) rfl, rfl, _, rfl, ?_⟩
      rw [seq_f ne_lp]
      refine iteF ⟨_, rfl, t, _, _, _, rfl, rfl, .of ht, atI_nat (j := 0) rfl, rfl, _, rfl, ?_⟩
      rw [seq_f (Ne.symm ne_tl)]
      refine iteF ⟨_, rfl, p, dx, _, rfl, hp, flds_no r (by decide +kernel), p, r, ps, rs, rfl, pa, by omega, fun p' ps' H1 R1 s1 f1 f2 => ?_⟩
      exact ⟨_, rfl, k _ r ps H1 ⟨p', ps', rfl, R1.new f1 f2⟩ (pa.same s1) .refl (.of s1)⟩
    | tie a x b y =>
      obtain ⟨t, u, v, rfl, ht, hu, hv⟩ := hd
      refine ⟨_, rfl, t, _, _, _, rfl, rfl, .of ht, atI_nat (j := 0) rfl, rfl, _, rfl, ?_⟩
      rw [seq_f ne_tp]
      refine iteF ⟨_, rfl, t, _, _, _, rfl, rfl, .of ht, atI_nat (j := 0) rfl, rfl, _, rfl, ?_⟩
      rw [seq_t rfl]
      refine iteT ?_
      refine ⟨rfl, _, rfl, p, dx, _, rfl, hp, flds_no r (by decide +kernel), _, rfl, t, _, _, _, rfl, rfl, .of ht, atI_nat (j := 1) rfl, _, rfl, t, _, _, _, rfl, rfl, .of ht, atI_nat (j := 2) rfl, p, r, ps, u, v, rs, n, a, b, x, y, rfl, pa, D, hn, hrs, hu, hv, fun hc fs gs t7 r7 ps7 H7 hF hG fT hT pa7 ow s7 => ?_, fun hc H7 s7 z hz => ⟨TX.m1, ?_⟩⟩
      · have hc' : canT rs n a x b y = true := hc
        have D2 : Dr (tied rs n a x b y) (n + 2) := D.tieS (canT.sp hc').1 (canT.sp hc').2.1
        refine ⟨_, rfl, k _ r7 ps7 H7 (.inl ⟨hc', t7, _, _, rfl, told_of D2 hF (by rw [tied_len]; exact hG), newIn_at fT hT⟩) ?_ ow s7⟩
        show PaperAt C H7 p r7 ps7 (if canT rs n a x b y = true then (tied rs n a x b y, n + 2) else (rs, n)).1
        rw [if_pos hc']
        exact pa7
      · have hc' : canT rs n a x b y = false := hc
        have s8 := s7.put (s7.free hz) (o := excO z (.ref CE))
        have hX := upd_same (H := H7) (a := z) (o := excO z (.ref CE))
        generalize L2.upd H7 z (excO z (.ref CE)) = H8 at s8 hX ⊢
        refine ⟨(by show 2 ≤ sizeLine; omega), fun l hl => ?_⟩
        have s9 : Same H8 (L2.upd H8 l (.lst [.str "other", .str "no end"])) := (Same.refl H8).put hl
        have g9 := upd_same (H := H8) (a := l) (o := .lst [.str "other", .str "no end"])
        generalize L2.upd H8 l (.lst [.str "other", .str "no end"]) = H9 at s9 g9 ⊢
        refine ⟨_, rfl, z, CE, .ref CE, true, rfl, s9 _ _ hX, TX.ek, .inl ⟨(by intro z; cases z), TX.m3⟩, _, rfl, iteT ?_⟩
        refine ⟨_, rfl, z, CE, .ty "ValueError", true, rfl, s9 _ _ hX, TX.ek, .inl ⟨(by intro z; cases z), TX.m4⟩, .inr ⟨_, rfl, l, _, _, V.str "no end", rfl, rfl, .of g9, atI_nat (j := 1) rfl, ?_⟩⟩
        refine ⟨_, rfl, (by show 2 ≤ sizeLine; omega), fun t9 ht9 => ?_⟩
        have sA := s8.trans s9
        have sB := sA.put (sA.free ht9) (o := .tup [.str "refused", .str "no end"])
        refine ⟨_, rfl, k _ r ps _ (.inr ⟨hc', t9, rfl, newIn_at (sA.free ht9) upd_same⟩) ?_ .refl (.of sB)⟩
        show PaperAt C _ p r ps (if canT rs n a x b y = true then (tied rs n a x b y, n + 2) else (rs, n)).1
        rw [if_neg (by rw [hc']; decide)]
        exact pa.same sB
theorem so_face : PyData.strOk ("face" : Str) = true := by decide +kernel
theorem so_pt : PyData.strOk ("point" : Str) = true := by decide +kernel
theorem FAt.ok {rs : Rs} {a : Bool} {x m : Int} {s : Str} (h : FAt rs a x s m) : PyData.strOk s = true := by
  rcases h with ⟨_, rfl, _⟩ | ⟨_, rfl, _⟩
  · exact so_face
  · exact so_pt
theorem fat_lay {s : Str} (m : Int) (h : PyData.strOk s = true) : (PyData.tuple [.str s, .int m]).canLay0 = true := by simp [PyData.canLay0, PyData.canLayAll0, h]
theorem fat_depth (s : Str) (m : Int) : (PyData.tuple [.str s, .int m]).depth ≤ 64 := by simp [PyData.depth, PyData.depthAll]
theorem eqv_fat (s s' : Str) (m m' : Int) : PyData.eqv (.tuple [.str s, .int m]) (.tuple [.str s', .int m']) = decide (s = s' ∧ m = m') := by
  simp only [PyData.eqv, PyData.eqvAll, Bool.and_true]
  rw [Bool.eq_iff_iff]
  simp
theorem DatV.tup3 {H : Hp} {t : Addr} {a b c : Int} (h : H t = some (.tup [.int a, .int b, .int c])) : DatV K H (.ref t) (.tuple [.int a, .int b, .int c]) := .tup (.of h) (.cons (.int _) (.cons (.int _) (.cons (.int _) .nil)))
theorem tup3_lay (a b c : Int) : (PyData.tuple [.int a, .int b, .int c]).canLay0 = true := by simp [PyData.canLay0, PyData.canLayAll0]
theorem tup3_depth (a b c : Int) : (PyData.tuple [.int a, .int b, .int c]).depth ≤ 60 := by simp [PyData.depth, PyData.depthAll]
theorem eqv_tup3 (a b c a' b' c' : Int) : PyData.eqv (.tuple [.int a, .int b, .int c]) (.tuple [.int a', .int b', .int c']) = decide (a = a' ∧ b = b' ∧ c = c') := by
  simp only [PyData.eqv, PyData.eqvAll, Bool.and_true]
  rw [Bool.eq_iff_iff]
  simp
theorem tie_steps {rs : Rs} {n F C F' C' : Nat} {a b : Bool} {x y : Int} (D : Dr rs n) (hc : canT rs n a x b y = true) (c : Cts rs n F C) (c' : Cts (Ink.tied rs n a x b y) (n + 2) F' C') :
    (sameSp rs (toSp a x) (toSp b y) ∧ (C' : Int) - C = 0 ∧ ((F' + aln (Ink.tied rs n a x b y) : Nat) : Int) - ((F + aln rs : Nat) : Int) = 1 ∧ hnd (Ink.tied rs n a x b y) (n + 2) (F' + aln (Ink.tied rs n a x b y)) C' - hnd rs n (F + aln rs) C = 0) ∨
    (¬ sameSp rs (toSp a x) (toSp b y) ∧ ((F' + aln (Ink.tied rs n a x b y) : Nat) : Int) - ((F + aln rs : Nat) : Int) = -1 ∧
      (((C' : Int) - C = 0 ∧ hnd (Ink.tied rs n a x b y) (n + 2) (F' + aln (Ink.tied rs n a x b y)) C' - hnd rs n (F + aln rs) C = 1) ∨ ((C' : Int) - C = -1 ∧ hnd (Ink.tied rs n a x b y) (n + 2) (F' + aln (Ink.tied rs n a x b y)) C' - hnd rs n (F + aln rs) C = 0))) := by
  obtain ⟨F2, C2, c2, h⟩ := Cts.tieS D (canT.sp hc).1 (canT.sp hc).2.1 c
  obtain ⟨rfl, rfl⟩ := c'.uniq c2
  have el : (Ink.tied rs n a x b y).length = rs.length := tied_len rs n a x b y
  have ea : aln (tieS rs n (toSp a x) (toSp b y)) = aln (Ink.tied rs n a x b y) := rfl
  rw [ea] at h
  unfold hnd
  rw [el]
  have hev := D.even
  rcases h with ⟨h1, h2, h3⟩ | ⟨h1, h2, h3⟩
  · refine .inl ⟨h1, by omega, by omega, ?_⟩
    omega
  · refine .inr ⟨h1, by omega, ?_⟩
    rcases h3 with h3 | h3
    · refine .inl ⟨by omega, ?_⟩
      omega
    · refine .inr ⟨by omega, ?_⟩
      omega
theorem scDueOf : FnScope ["_law_rounds", "_law_deed", "_law_same", "_law_before", "_law_after", "_law_steps"] ["_law_rounds", "_law_deed"] (defScope sDueOf) := ⟨rfl, rfl, rfl, by decide +kernel, rfl, by decide +kernel, by decide +kernel⟩
set_option maxHeartbeats 4000000 in
theorem ok_dueOf {f : Addr} {fd : FuncData} (F : Fun K "_law_due_of" "_law_due_of" sDueOf f fd) (T : Txt mg) (DC : Def P w K mg base "_law_copies" 1 ["_law_rounds"] spCopies) (DCb : Def P w K mg base "_law_can_be" 1 ["_law_rounds", "_law_spot"] spIsSpot)
    (DFa : Def P w K mg base "_law_face_at" 3 ["_law_rounds", "_law_spot"] spFaceAt) (DBs : Def P w K mg base "_law_built_so" 3 ["_law_rounds"] spBuiltSo) (DTi : Def P w K mg base "_law_tied" 2 ["_law_rounds", "_law_one", "_law_other"] spTied) : FnOk P w K mg base CX0 4 f fd ["_law_rounds", "_law_deed"] spDueOf := by
  refine F.ok scDueOf (fun vs H Q E h => ?_) (fun cdv A outer s H vs Q E hr3 h => ?_)
  · obtain ⟨p, ps, v, rs, n, d, rfl, _⟩ := h
    rfl
  · obtain ⟨p, ps, v, rs, n, d, rfl, R, D, hn, hrs, hd, k⟩ := h
    have hs : sizeLine = 16777216 := sizeLine_eq
    have nd := scDueOf.nd
    have hu := hr3.units
    have hr1 : Room 1 _ := hr3.mono (by decide)
    have hr2 : Room 2 _ := hr3.mono (by decide)
    refine ⟨_, pss_cons (ps_if (pt_cmpR op_eq (pe_ix (r := rIxT K) ix_tup (pv 1) pe_int (fun _ _ => rfl)) pe_str (nomark _)) (pss_cons (ps_expr (pe_bm PySem.F.plainAttrs_list PySem.F.slot_list_append PySem.F.type_list_append mt_append (pv 0) (pa_cons (pe_lst pa_nil) pa_nil)))
      (pss_one (ps_ret (pe_op op_sub (pe_callB call_len_seq (by rfl) T.len PySem.boot_len (pa_cons (pv 0) pa_nil)) pe_int)))) (pss_nil))
      (pss_cons (ps_if (pt_cmpR op_eq (pe_ix (r := rIxT K) ix_tup (pv 1) pe_int (fun _ _ => rfl)) pe_str (nomark _)) (pss_one (ps_ret (pcall DC hr1 (pa_cons (pv 0) pa_nil)))) (pss_nil))
      (pss_cons (ps_if (pw_or (pt_not (pt_val (pcall DCb hr1 (pa_cons (pv 0) (pa_cons (pe_ix (r := rIxT K) ix_tup (pv 1) pe_int (fun _ _ => rfl)) pa_nil))))) (pw_or1 (pt_not (pt_val (pcall DCb hr1 (pa_cons (pv 0) (pa_cons (pe_ix (r := rIxT K) ix_tup (pv 1) pe_int (fun _ _ => rfl)) pa_nil))))))).pt (pss_one (ps_ret pe_str)) (pss_nil))
      (pss_cons (ps_set (i := 2) nd rfl (Or.inl rfl) (pe_cmpR (op_eqD hu) (pcall DFa hr3 (pa_cons (pv 0) (pa_cons (pe_ix (r := rIxT K) ix_tup (pv 1) pe_int (fun _ _ => rfl)) pa_nil))) (pcall DFa hr3 (pa_cons (pv 0) (pa_cons (pe_ix (r := rIxT K) ix_tup (pv 1) pe_int (fun _ _ => rfl)) pa_nil))) (nomark _)))
      (pss_cons (ps_set (i := 3) nd rfl (Or.inl rfl) (pcall DBs hr3 (pa_cons (pv 0) pa_nil)))
      (pss_cons (ps_expr (pcall DTi hr2 (pa_cons (pv 0) (pa_cons (pe_ix (r := rIxT K) ix_tup (pv 1) pe_int (fun _ _ => rfl)) (pa_cons (pe_ix (r := rIxT K) ix_tup (pv 1) pe_int (fun _ _ => rfl)) pa_nil)))))
      (pss_cons (ps_set (i := 4) nd rfl (Or.inl rfl) (pcall DBs hr3 (pa_cons (pv 0) pa_nil)))
      (pss_cons (ps_set (i := 5) nd rfl (Or.inl rfl) (pe_tup (pa_cons (pe_op op_sub (pe_ix (r := rIxT K) ix_tup (pv 4) pe_int (fun _ _ => rfl)) (pe_ix (r := rIxT K) ix_tup (pv 3) pe_int (fun _ _ => rfl))) (pa_cons (pe_op op_sub (pe_ix (r := rIxT K) ix_tup (pv 4) pe_int (fun _ _ => rfl)) (pe_ix (r := rIxT K) ix_tup (pv 3) pe_int (fun _ _ => rfl))) (pa_cons (pe_op op_sub (pe_ix (r := rIxT K) ix_tup (pv 4) pe_int (fun _ _ => rfl)) (pe_ix (r := rIxT K) ix_tup (pv 3) pe_int (fun _ _ => rfl))) pa_nil)))))
      (pss_cons (ps_if (pw_and (pt_val (pv 2)) (pw_and1 (pt_cmpR (op_neD hu) (pv 5) (pe_tup (pa_cons pe_int (pa_cons pe_int (pa_cons pe_int pa_nil)))) (nomark _)))).pt (pss_one (ps_ret pe_str)) (pss_nil))
      (pss_cons (ps_if (pw_and (pt_not (pt_val (pv 2))) (pw_and1 (pt_cmpR (op_notInD hu) (pv 5) (pe_lst (pa_cons (pe_tup (pa_cons pe_int (pa_cons (pe_un un_neg pe_int) (pa_cons pe_int pa_nil)))) (pa_cons (pe_tup (pa_cons (pe_un un_neg pe_int) (pa_cons (pe_un un_neg pe_int) (pa_cons pe_int pa_nil)))) pa_nil))) rfl))).pt (pss_one (ps_ret pe_str)) (pss_nil))
      (pss_one (ps_ret (pv 4)))))))))))), ?_⟩
    cases d with
    | pt =>
      obtain ⟨t, rfl, ht⟩ := hd
      refine ⟨_, rfl, t, _, _, _, rfl, rfl, .of ht, atI_nat (j := 0) rfl, rfl, _, rfl, ?_⟩
      rw [seq_t rfl]
      refine iteT ⟨_, rfl, .inl ⟨rfl, _, .of R.out⟩, Nat.zero_le _, fun l hl => ?_⟩
      have s1 : Same H (L2.upd H l (.lst [])) := (Same.refl H).put hl
      have g1 := upd_same (H := H) (a := l) (o := .lst [])
      generalize L2.upd H l (.lst []) = H1 at s1 g1 ⊢
      have R1 := R.same s1
      have nlp : l ≠ p := (ne_of_none R.out hl).symm
      refine ⟨p, _, _, rfl, rfl, R1.out, by rw [List.length_map, R.len]; omega, ?_⟩
      have R2 := R1.snoc (r := []) g1 (mem_ne R hl) nlp
      have fr : ∀ c o, H c = some o → c ≠ p → c ∉ ps → L2.upd H1 p (.lst (ps.map V.ref ++ [.ref l])) c = some o := fun c o e n1 _ => by rw [upd_ne n1]; exact s1 c o e
      generalize L2.upd H1 p (.lst (ps.map V.ref ++ [.ref l])) = H2 at R2 fr ⊢
      refine ⟨_, rfl, p, _, rfl, .inl (.of R2.out), _, _, rfl, rfl, ?_⟩
      have e : (((ps ++ [l]).map V.ref).length : Int) - 1 = ((rs.length : Nat) : Int) := by
        have := R.len
        rw [List.length_map, List.length_append]
        show ((ps.length + 1 : Nat) : Int) - 1 = _
        omega
      show Q (V.int ((((ps ++ [l]).map V.ref).length : Int) - 1)) H2
      rw [e]
      refine k _ (ps ++ [l]) H2 rfl R2 (fun q hq => ?_) fr
      rcases List.mem_append.mp hq with z | z
      · exact .inl z
      · have : q = l := by simpa using z
        rw [this]
        exact .inr hl
    | look =>
      obtain ⟨t, rfl, ht⟩ := hd
      refine ⟨_, rfl, t, _, _, _, rfl, rfl, .of ht, atI_nat (j := 0) rfl, rfl, _, rfl, ?_⟩
      rw [seq_f ne_lp]
      refine iteF ⟨_, rfl, t, _, _, _, rfl, rfl, .of ht, atI_nat (j := 0) rfl, rfl, _, rfl, ?_⟩
      rw [seq_t rfl]
      refine iteT ⟨_, rfl, p, ps, rs, rfl, R, by omega, fun p' ps' H1 R1 s1 f1 f2 => ?_⟩
      exact k _ ps H1 ⟨p', ps', rfl, R1⟩ (R.same s1) (fun q hq => .inl hq) (fun c o e _ _ => s1 c o e)
    | tie a x b y =>
      obtain ⟨t, u, v, rfl, ht, ⟨tu, rfl, hu'⟩, ⟨tv, rfl, hv'⟩⟩ := hd
      refine ⟨_, rfl, t, _, _, _, rfl, rfl, .of ht, atI_nat (j := 0) rfl, rfl, _, rfl, ?_⟩
      rw [seq_f ne_tp]
      refine iteF ⟨_, rfl, t, _, _, _, rfl, rfl, .of ht, atI_nat (j := 0) rfl, rfl, _, rfl, ?_⟩
      rw [seq_f ne_tl]
      refine iteF ?_
      have nxtF : canT rs n a x b y = false → (nxtD (rs, n) (.tie a x b y)).1 = rs := fun hc => by
        show (if canT rs n a x b y = true then (Ink.tied rs n a x b y, n + 2) else (rs, n)).1 = rs
        rw [if_neg (by rw [hc]; decide)]
      refine ⟨_, rfl, _, rfl, t, _, _, _, rfl, rfl, .of ht, atI_nat (j := 1) rfl, p, tu, ps, rs, n, a, x, rfl, R, D, by omega, hu', fun H1 s1 => ⟨_, rfl, ?_⟩⟩
      cases ha : okB rs n a x with
      | false =>
        have hc : canT rs n a x b y = false := by unfold canT; rw [ha]; rfl
        exact iteT (k _ ps H1 (.inr ⟨hc, rfl⟩) (by rw [nxtF hc]; exact R.same s1) (fun q hq => .inl hq) (fun c o e _ _ => s1 c o e))
      | true =>
        refine iteF ?_
        refine ⟨_, rfl, _, rfl, t, _, _, _, rfl, rfl, .of (s1 _ _ ht), atI_nat (j := 2) rfl, p, tv, ps, rs, n, b, y, rfl, R.same s1, D, by omega, s1 _ _ hv', fun H2 s2 => ⟨_, rfl, ?_⟩⟩
        have s12 := s1.trans s2
        cases hb : okB rs n b y with
        | false =>
          have hc : canT rs n a x b y = false := by unfold canT; rw [ha, hb]; rfl
          exact iteT (k _ ps H2 (.inr ⟨hc, rfl⟩) (by rw [nxtF hc]; exact R.same s12) (fun q hq => .inl hq) (fun c o e _ _ => s12 c o e))
        | true =>
          have hc : canT rs n a x b y = true := by unfold canT; rw [ha, hb]; rfl
          refine iteF ?_
          have notin : ∀ {z : Addr} {xs : List V} {G : Hp}, Rows G p ps rs → G z = some (.tup xs) → z ∉ ps := fun RG h z => by
            obtain ⟨r, _, e⟩ := RG.mem z
            rw [e] at h
            cases h
          have D2 : Dr (Ink.tied rs n a x b y) (n + 2) := D.tieS (canT.sp hc).1 (canT.sp hc).2.1
          have el := tied_len rs n a x b y
          refine ⟨_, rfl, _, rfl, t, _, _, _, rfl, rfl, .of (s12 _ _ ht), atI_nat (j := 1) rfl, p, tu, ps, rs, n, a, x, rfl, R.same s12, D, by omega, s12 _ _ hu', ha, fun u3 z3 m3 H3 f3 g3 s3 => ?_⟩
          have s13 := s12.trans s3
          refine ⟨_, rfl, _, rfl, t, _, _, _, rfl, rfl, .of (s13 _ _ ht), atI_nat (j := 2) rfl, p, tv, ps, rs, n, b, y, rfl, R.same s13, D, by omega, s13 _ _ hv', hb, fun u4 z4 m4 H4 f4 g4 s4 => ?_⟩
          refine ⟨.tuple [.str z3, .int m3], .tuple [.str z4, .int m4], .tup (.of (s4 _ _ g3)) (.cons (.str _) (.cons (.int _) .nil)), .tup (.of g4) (.cons (.str _) (.cons (.int _) .nil)), fat_lay _ f3.ok, fat_lay _ f4.ok, fat_depth _ _, ?_⟩
          have hsame : PyData.eqv (.tuple [.str z3, .int m3]) (.tuple [.str z4, .int m4]) = true ↔ sameSp rs (toSp a x) (toSp b y) := by
            rw [eqv_fat, decide_eq_true_iff]
            exact FAt.same D ha hb f3 f4
          generalize PyData.eqv (.tuple [.str z3, .int m3]) (.tuple [.str z4, .int m4]) = sm at hsame ⊢
          have s14 := s13.trans s4
          dsimp only [gName]
          refine ⟨_, rfl, p, ps, rs, n, rfl, R.same s14, D, by omega, by omega, fun fs C5 t5 H5 hF hC f5 g5 s5 => ?_⟩
          have s15 := s14.trans s5
          have R5 := R.same s15
          refine ⟨_, rfl, _, rfl, t, _, _, _, rfl, rfl, .of (s15 _ _ ht), atI_nat (j := 1) rfl, _, rfl, t, _, _, _, rfl, rfl, .of (s15 _ _ ht), atI_nat (j := 2) rfl, p, tu, tv, ps, rs, n, a, b, x, y, rfl, R5, D, by omega, by omega, s15 _ _ hu', s15 _ _ hv', hc, fun H6 R6 fr6 => ?_⟩
          have g6 := fr6 _ _ g5 (notin R5 g5)
          have fr : ∀ c o, H c = some o → c ≠ p → c ∉ ps → H6 c = some o := fun c o e _ n2 => fr6 c o (s15 c o e) n2
          refine ⟨_, rfl, p, ps, _, n + 2, rfl, R6, D2, by omega, by rw [el]; omega, fun fs' C7 t7 H7 hF' hC' f7 g7 s7 => ?_⟩
          have st := tie_steps D hc ⟨⟨fs, D.faces hF, rfl⟩, hC⟩ ⟨⟨fs', D2.faces hF', rfl⟩, hC'⟩
          refine ⟨_, rfl, t7, _, _, _, rfl, rfl, .of g7, atI_nat (j := 0) rfl, _, rfl, t5, _, _, _, rfl, rfl, .of (s7 _ _ g6), atI_nat (j := 0) rfl, _, _, rfl, rfl, _, rfl, t7, _, _, _, rfl, rfl, .of g7, atI_nat (j := 1) rfl, _, rfl, t5, _, _, _, rfl, rfl, .of (s7 _ _ g6), atI_nat (j := 1) rfl, _, _, rfl, rfl,
            _, rfl, t7, _, _, _, rfl, rfl, .of g7, atI_nat (j := 2) rfl, _, rfl, t5, _, _, _, rfl, rfl, .of (s7 _ _ g6), atI_nat (j := 2) rfl, _, _, rfl, rfl, (by show 3 ≤ sizeLine; omega), fun t8 h8 => ?_⟩
          dsimp only [gName]
          have nxtT : (nxtD (rs, n) (.tie a x b y)).1 = Ink.tied rs n a x b y := by
            show (if canT rs n a x b y = true then (Ink.tied rs n a x b y, n + 2) else (rs, n)).1 = _
            rw [if_pos hc]
          have fin : ∀ H9, Same H7 H9 → Q (.ref t7) H9 := fun H9 s9 => by
            refine k _ ps H9 (.inl ⟨hc, t7, _, _, rfl, ⟨⟨fs', D2.faces hF', rfl⟩, hC'⟩, s9 _ _ g7⟩) ?_ (fun q hq => .inl hq) fun c o e n1 n2 => s9 _ _ (s7 _ _ (fr c o e n1 n2))
            rw [nxtT]
            exact (R6.same s7).same s9
          generalize (C7 : Int) - C5 = d0 at st ⊢
          generalize ((fs'.length + aln (Ink.tied rs n a x b y) : Nat) : Int) - ((fs.length + aln rs : Nat) : Int) = d1 at st ⊢
          generalize hnd (Ink.tied rs n a x b y) (n + 2) (fs'.length + aln (Ink.tied rs n a x b y)) C7 - hnd rs n (fs.length + aln rs) C5 = d2 at st ⊢
          have s8 : Same H7 (L2.upd H7 t8 (.tup [.int d0, .int d1, .int d2])) := (Same.refl H7).put h8
          have g8 := upd_same (H := H7) (a := t8) (o := .tup [.int d0, .int d1, .int d2])
          generalize L2.upd H7 t8 (.tup [.int d0, .int d1, .int d2]) = H8 at s8 g8 ⊢
          refine ⟨_, rfl, _, rfl, ?_⟩
          cases sm with
          | true =>
            have hst := hsame.mp rfl
            rcases st with ⟨_, rfl, rfl, rfl⟩ | ⟨q, _⟩
            · refine iteT ⟨_, rfl, (by show 3 ≤ sizeLine; omega), fun t9 h9 => ?_⟩
              have s9 : Same H8 (L2.upd H8 t9 (.tup [.int 0, .int 1, .int 0])) := (Same.refl H8).put h9
              refine ⟨_, _, DatV.tup3 (s9 _ _ g8), DatV.tup3 upd_same, tup3_lay _ _ _, tup3_lay _ _ _, Nat.le_trans (tup3_depth _ _ _) (by decide), _, rfl, ?_⟩
              rw [eqv_tup3, decide_eq_true ⟨rfl, rfl, rfl⟩]
              refine iteF ⟨_, rfl, _, rfl, iteF ⟨_, rfl, fin _ (s8.trans s9)⟩⟩
            · exact absurd hst q
          | false =>
            have hst : ¬ sameSp rs (toSp a x) (toSp b y) := fun z => by have := hsame.mpr z; cases this
            rcases st with ⟨q, _⟩ | ⟨_, rfl, hst2⟩
            · exact absurd q hst
            · refine iteF ⟨_, rfl, _, rfl, iteT ⟨_, rfl, _, rfl, (by show 3 ≤ sizeLine; omega), fun t9 h9 => ?_⟩⟩
              have s9 : Same H8 (L2.upd H8 t9 (.tup [.int 0, .int (-1), .int 1])) := (Same.refl H8).put h9
              have g9 := upd_same (H := H8) (a := t9) (o := .tup [.int 0, .int (-1), .int 1])
              generalize L2.upd H8 t9 (.tup [.int 0, .int (-1), .int 1]) = H9 at s9 g9 ⊢
              refine ⟨_, rfl, _, rfl, (by show 3 ≤ sizeLine; omega), fun tA hA => ?_⟩
              have sA : Same H9 (L2.upd H9 tA (.tup [.int (-1), .int (-1), .int 0])) := (Same.refl H9).put hA
              have gA := upd_same (H := H9) (a := tA) (o := .tup [.int (-1), .int (-1), .int 0])
              generalize L2.upd H9 tA (.tup [.int (-1), .int (-1), .int 0]) = HA at sA gA ⊢
              refine ⟨(by show 2 ≤ sizeLine; omega), fun lB hB => ?_⟩
              have sB : Same HA (L2.upd HA lB (.lst [.ref t9, .ref tA])) := (Same.refl HA).put hB
              refine ⟨.tuple [.int d0, .int (-1), .int d2], [.tuple [.int 0, .int (-1), .int 1], .tuple [.int (-1), .int (-1), .int 0]], DatV.tup3 (sB _ _ (sA _ _ (s9 _ _ g8))), .lst (.of upd_same) (.cons (DatV.tup3 (sB _ _ (sA _ _ g9))) (.cons (DatV.tup3 (sB _ _ gA)) .nil)), tup3_lay _ _ _, ?_, Nat.le_trans (tup3_depth _ _ _) (by decide), _, rfl, ?_⟩
              · rw [PyData.canLayAll0, PyData.canLayAll0, tup3_lay, tup3_lay]; rfl
              have ey : ([PyData.tuple [.int 0, .int (-1), .int 1], .tuple [.int (-1), .int (-1), .int 0]].any fun y => PyData.eqv y (.tuple [.int d0, .int (-1), .int d2])) = true := by
                rw [List.any_cons, List.any_cons, eqv_tup3, eqv_tup3]
                rcases hst2 with ⟨rfl, rfl⟩ | ⟨rfl, rfl⟩ <;> rfl
              rw [ey]
              exact iteF ⟨_, rfl, fin _ (((s8.trans s9).trans sA).trans sB)⟩
end
end Ink
namespace Ink
open PySem L2
def spotD (a : Bool) (x : Int) : PyData := .tuple [.str (if a then "end" else "point"), .int x]
def deedD : Deed → PyData
  | .pt => .tuple [.str "point"]
  | .look => .tuple [.str "look"]
  | .tie a x b y => .tuple [.str "tie", spotD a x, spotD b y]
theorem SpotAt.dat {K : PySem.W.Frag} {H : Hp} {v : V} {a : Bool} {x : Int} (h : SpotAt H v a x) : DatV K H v (spotD a x) := by
  obtain ⟨t, rfl, q⟩ := h
  exact .tup (.of q) (.cons (.str _) (.cons (.int _) .nil))
theorem DeedAt.dat {K : PySem.W.Frag} {H : Hp} {v : V} {d : Deed} (h : DeedAt H v d) : DatV K H v (deedD d) := by
  cases d with
  | pt => obtain ⟨t, rfl, q⟩ := h; exact .tup (.of q) (.cons (.str _) .nil)
  | look => obtain ⟨t, rfl, q⟩ := h; exact .tup (.of q) (.cons (.str _) .nil)
  | tie a x b y => obtain ⟨t, u, w, rfl, q, h1, h2⟩ := h; exact .tup (.of q) (.cons (.str _) (.cons h1.dat (.cons h2.dat .nil)))
theorem so_end : PyData.strOk ("end" : Str) = true := by decide +kernel
theorem so_point : PyData.strOk ("point" : Str) = true := by decide +kernel
theorem so_look : PyData.strOk ("look" : Str) = true := by decide +kernel
theorem so_tie : PyData.strOk ("tie" : Str) = true := by decide +kernel
theorem so_ref : PyData.strOk ("refused" : Str) = true := by decide +kernel
theorem so_no : PyData.strOk ("no end" : Str) = true := by decide +kernel
theorem so_kd (a : Bool) : PyData.strOk (if a then "end" else "point") = true := by cases a <;> first | exact so_end | exact so_point
theorem spotD_lay (a : Bool) (x : Int) : (spotD a x).canLay0 = true := by simp [spotD, PyData.canLay0, PyData.canLayAll0, so_kd]
theorem deedD_lay (d : Deed) : (deedD d).canLay0 = true := by cases d <;> simp [deedD, PyData.canLay0, PyData.canLayAll0, spotD_lay, so_point, so_look, so_tie]
theorem spotD_depth (a : Bool) (x : Int) : (spotD a x).depth ≤ 1 := by simp [spotD, PyData.depth, PyData.depthAll]
theorem deedD_depth (d : Deed) : (deedD d).depth ≤ 2 := by
  cases d with
  | pt => simp [deedD, PyData.depth, PyData.depthAll]
  | look => simp [deedD, PyData.depth, PyData.depthAll]
  | tie a x b y =>
    have h1 := spotD_depth a x
    have h2 := spotD_depth b y
    simp only [deedD, PyData.depth, PyData.depthAll]
    omega
inductive Alk (H : Hp) : V → V → PyData → Nat → Prop
  | int (z : Int) : Alk H (.int z) (.int z) (.int z) 1
  | str (z : Str) : PyData.strOk z = true → Alk H (.str z) (.str z) (.str z) 1
  | spot {v : V} {a : Bool} {x : Int} : SpotAt H v a x → Alk H v v (spotD a x) 3
  | deed {v : V} {d : Deed} : DeedAt H v d → Alk H v v (deedD d) 8
inductive Alks (H : Hp) : List V → List V → List PyData → Nat → Prop
  | nil : Alks H [] [] [] 0
  | top {p q : Addr} {zs : List V} {ds : List Deed} : H p = some (.lst zs) → H q = some (.lst zs) → DeedsAt H zs ds → ds.length ≤ 20 → Alks H [.ref p] [.ref q] [.list (ds.map deedD)] (1 + 8 * ds.length)
  | snoc {xs : List V} {ds : List PyData} {m : Nat} {x : V} {d : PyData} {k : Nat} : Alks H xs xs ds m → Alk H x x d k → Alks H (xs ++ [x]) (xs ++ [x]) (ds ++ [d]) (m + k)
theorem Alk.pos {H : Hp} {x y : V} {d : PyData} {k : Nat} (a : Alk H x y d k) : 1 ≤ k := by cases a <;> omega
theorem Alks.len {H : Hp} {xs ys : List V} {ds : List PyData} {m : Nat} (h : Alks H xs ys ds m) : xs.length ≤ m ∧ ys.length ≤ m ∧ ds.length = ys.length := by
  induction h with
  | nil => exact ⟨Nat.le_refl _, Nat.le_refl _, rfl⟩
  | top => exact ⟨by show 1 ≤ _; omega, by show 1 ≤ _; omega, rfl⟩
  | snoc _ a ih => have := a.pos; simp only [List.length_append, List.length_singleton]; omega
theorem Alks.deeds {H : Hp} : ∀ (ds : List Deed) {zs xs : List V} {es : List PyData} {m : Nat}, Alks H xs xs es m → zs.length = ds.length → (∀ (i : Nat) (v : V) (d : Deed), zs[i]? = some v → ds[i]? = some d → DeedAt H v d) → ∃ es', Alks H (xs ++ zs) (xs ++ zs) es' (m + 8 * ds.length)
  | [], [], xs, es, m, h, _, _ => ⟨es, by simpa using h⟩
  | d :: ds, z :: zs, xs, es, m, h, h1, h2 => by
    obtain ⟨es', h'⟩ := Alks.deeds ds (zs := zs) (h.snoc (.deed (h2 0 z d rfl rfl))) (by simpa using h1) (fun i v e e1 e2 => h2 (i + 1) v e (by simpa using e1) (by simpa using e2))
    refine ⟨es', ?_⟩
    rw [List.length_cons, show m + 8 * (ds.length + 1) = m + 8 + 8 * ds.length by omega]
    simpa using h'
theorem layAll_snoc : ∀ (ds : List PyData) (d : PyData), PyData.canLayAll0 ds = true → d.canLay0 = true → PyData.canLayAll0 (ds ++ [d]) = true
  | [], d, _, h => by show PyData.canLayAll0 [d] = true; rw [PyData.canLayAll0, h]; rfl
  | e :: ds, d, h1, h2 => by
    rw [PyData.canLayAll0, Bool.and_eq_true] at h1
    rw [List.cons_append, PyData.canLayAll0, h1.1, layAll_snoc ds d h1.2 h2]
    rfl
theorem depthAll_snoc : ∀ (ds : List PyData) (d : PyData), PyData.depthAll ds ≤ 3 → d.depth ≤ 3 → PyData.depthAll (ds ++ [d]) ≤ 3
  | [], d, _, h => by show PyData.depthAll [d] ≤ 3; rw [PyData.depthAll, PyData.depthAll]; omega
  | e :: ds, d, h1, h2 => by
    rw [PyData.depthAll] at h1
    rw [List.cons_append, PyData.depthAll]
    have := depthAll_snoc ds d (by omega) h2
    omega
theorem DatVs.snoc {K : PySem.W.Frag} {H : Hp} {d : PyData} {x : V} (hx : DatV K H x d) : ∀ {xs : List V} {ds : List PyData}, DatVs K H xs ds → DatVs K H (xs ++ [x]) (ds ++ [d])
  | _, _, .nil => .cons hx .nil
  | _, _, .cons h r => .cons h (DatVs.snoc hx r)
theorem deeds_dat {K : PySem.W.Frag} {H : Hp} : ∀ (ds : List Deed) {zs : List V}, zs.length = ds.length → (∀ (i : Nat) (v : V) (d : Deed), zs[i]? = some v → ds[i]? = some d → DeedAt H v d) → DatVs K H zs (ds.map deedD)
  | [], [], _, _ => .nil
  | d :: ds, z :: zs, h1, h2 => .cons (h2 0 z d rfl rfl).dat (deeds_dat ds (by simpa using h1) fun i v e e1 e2 => h2 (i + 1) v e (by simpa using e1) (by simpa using e2))
theorem deeds_lay : ∀ ds : List Deed, PyData.canLayAll0 (ds.map deedD) = true
  | [] => rfl
  | d :: ds => by rw [List.map_cons, PyData.canLayAll0, deedD_lay, deeds_lay ds]; rfl
theorem deeds_depth : ∀ ds : List Deed, PyData.depthAll (ds.map deedD) ≤ 2
  | [] => by show PyData.depthAll [] ≤ 2; rw [PyData.depthAll]; omega
  | d :: ds => by
    have h1 := deedD_depth d
    have h2 := deeds_depth ds
    rw [List.map_cons, PyData.depthAll]
    omega
theorem Alks.dat {K : PySem.W.Frag} {H H' : Hp} (s : Same H H') {xs ys : List V} {ds : List PyData} {m : Nat} (h : Alks H xs ys ds m) : DatVs K H' ys ds ∧ PyData.canLayAll0 ds = true ∧ PyData.depthAll ds ≤ 3 := by
  induction h with
  | nil => exact ⟨.nil, rfl, Nat.zero_le _⟩
  | @top p q zs ds h1 h2 h3 _ =>
    refine ⟨.cons (.lst (.of (s _ _ h2)) (deeds_dat _ h3.1 fun i v d e1 e2 => (h3.2 i v d e1 e2).same s)) .nil, ?_, ?_⟩
    · rw [PyData.canLayAll0, PyData.canLay0, deeds_lay]; rfl
    · have := deeds_depth ds
      rw [PyData.depthAll, PyData.depth, PyData.depthAll]
      omega
  | snoc _ a ih =>
    obtain ⟨i1, i2, i3⟩ := ih
    cases a with
    | int z => exact ⟨DatVs.snoc (.int z) i1, layAll_snoc _ _ i2 rfl, depthAll_snoc _ _ i3 (by show PyData.depth (.int z) ≤ 3; rw [PyData.depth]; exact Nat.zero_le _)⟩
    | str z hz => exact ⟨DatVs.snoc (.str z) i1, layAll_snoc _ _ i2 (by rw [PyData.canLay0]; exact hz), depthAll_snoc _ _ i3 (by show PyData.depth (.str z) ≤ 3; rw [PyData.depth]; exact Nat.zero_le _)⟩
    | spot h => exact ⟨DatVs.snoc (h.same s).dat i1, layAll_snoc _ _ i2 (spotD_lay _ _), depthAll_snoc _ _ i3 (Nat.le_trans (spotD_depth _ _) (by decide))⟩
    | deed h => exact ⟨DatVs.snoc (h.same s).dat i1, layAll_snoc _ _ i2 (deedD_lay _), depthAll_snoc _ _ i3 (Nat.le_trans (deedD_depth _) (by decide))⟩
theorem eqv_nil (ds : List PyData) : PyData.eqv (.list ds) (.list []) = decide (ds = []) := by
  rw [PyData.eqv]
  cases ds with
  | nil => simp [PyData.eqvAll]
  | cons a b => simp [PyData.eqvAll]
theorem datVs_ints {K : PySem.W.Frag} {H : Hp} : ∀ r : List Int, DatVs K H (r.map V.int) (r.map PyData.int)
  | [] => .nil
  | z :: r => .cons (.int z) (datVs_ints r)
theorem tints_lay (r : List Int) : (PyData.tuple (r.map .int)).canLay0 = true := by rw [PyData.canLay0]; exact lay_intsAll r
theorem tints_depth (r : List Int) : (PyData.tuple (r.map .int)).depth ≤ 64 := by rw [PyData.depth, depth_intsAll]; decide
theorem tints_eqv (r : List Int) : PyData.eqv (.tuple (r.map .int)) (.tuple (r.map .int)) = true := by
  rw [PyData.eqv, eqv_intsAll]
  exact decide_eq_true rfl
def spLike : Sp := fun vs H Q _ => ∃ (p q : Addr) (zs : List V) (ds : List Deed), vs = [.ref p, .ref q] ∧ H p = some (.lst zs) ∧ H q = some (.lst zs) ∧ DeedsAt H zs ds ∧ ds.length ≤ 20 ∧ ∀ H', Same H H' → Q (.bl true) H'
inductive Eqs (H : Hp) : V → V → Prop
  | str (s : Str) : Eqs H (.str s) (.str s)
  | int (i : Int) : Eqs H (.int i) (.int i)
  | rows {p q : Addr} {ps qs : List Addr} {rs : Rs} : Rows H p ps rs → Rows H q qs rs → rs.length ≤ 1000 → Eqs H (.ref p) (.ref q)
  | tup {t u : Addr} {r : List Int} : H t = some (.tup (r.map V.int)) → H u = some (.tup (r.map V.int)) → r.length ≤ 1000 → Eqs H (.ref t) (.ref u)
def spAlike : Sp := fun vs H Q _ => ∃ (x y : V), vs = [x, y] ∧ Eqs H x y ∧ ∀ H', Same H H' → Q (.bl true) H'
def spHandIs : Sp := fun vs H Q _ => ∃ (x y : V), vs = [x, y] ∧ ((∃ t, x = .ref t ∧ y = .str "no end" ∧ H t = some (.tup [.str "refused", .str "no end"])) ∨ (Eqs H x y ∧ ∀ s, y ≠ .str s)) ∧ ∀ H', Same H H' → Q (.bl true) H'
theorem upd_none' {H : Hp} {g t : Addr} {o : HO} (h : L2.upd H g o t = none) : t ≠ g ∧ H t = none := by
  by_cases e : t = g
  · subst e; rw [upd_same] at h; cases h
  · rw [upd_ne e] at h; exact ⟨e, h⟩
section
variable {P : Program} {w : World} {K : PySem.W.Frag} {mg : Str → Option Value} {base : Heap}
theorem scLike : FnScope ["_law_found", "_law_due", "_law_got_parts", "_law_due_parts", "_law_one", "_law_two"] ["_law_found", "_law_due"] (defScope sLike) := ⟨rfl, rfl, rfl, by decide +kernel, rfl, by decide +kernel, by decide +kernel⟩
set_option maxHeartbeats 4000000 in
theorem ok_like {f : Addr} {fd : FuncData} (F : Fun K "_law_like" "_law_like" sLike f fd) (T : Txt mg) (T3 : Txt3 mg) : FnOk P w K mg base CX0 1 f fd ["_law_found", "_law_due"] spLike := by
  refine F.ok scLike (fun vs H Q E h => ?_) (fun cdv A outer s H vs Q E hr h => ?_)
  · obtain ⟨p, q, zs, ds, rfl, _⟩ := h
    rfl
  · obtain ⟨p, q, zs, es, rfl, hp, hq, hd, hl1, k⟩ := h
    have hs : sizeLine = 16777216 := sizeLine_eq
    have nd := scLike.nd
    have hu := hr.units
    refine ⟨_, pss_cons (ps_set (i := 2) nd rfl (Or.inl rfl) (pe_lst (pa_cons (pv 0) pa_nil)))
      (pss_cons (ps_set (i := 3) nd rfl (Or.inl rfl) (pe_lst (pa_cons (pv 1) pa_nil)))
      (pss_cons (ps_while PassesOwn.never (pt_cmpR (op_neD hu) (pv 3) (pe_lst pa_nil) (nomark _)) (pss_cons (ps_set (i := 4) nd rfl (Or.inl rfl) (pe_bm0 PySem.F.plainAttrs_list PySem.F.slot_list_pop PySem.F.type_list_pop mt_pop (pv 2)))
      (pss_cons (ps_set (i := 5) nd rfl (Or.inl rfl) (pe_bm0 PySem.F.plainAttrs_list PySem.F.slot_list_pop PySem.F.type_list_pop mt_pop (pv 3)))
      (pss_one (ps_if (pt_val (pe_callB call_isi (by rfl) T.isi PyProof.Rows.boot_isinstance (pa_cons (pv 5) (pa_cons (pe_bltn (v := .ty "list") (by rfl) T.list PyProof.Rows.boot_list rfl) pa_nil)))) (pss_cons (ps_if (pw_or (pt_not (pt_val (pe_callB call_isi (by rfl) T.isi PyProof.Rows.boot_isinstance (pa_cons (pv 4) (pa_cons (pe_bltn (v := .ty "list") (by rfl) T.list PyProof.Rows.boot_list rfl) pa_nil))))) (pw_or1 (pt_cmpR op_ne (pe_callB call_len_seq (by rfl) T.len PySem.boot_len (pa_cons (pv 4) pa_nil)) (pe_callB call_len_seq (by rfl) T.len PySem.boot_len (pa_cons (pv 5) pa_nil)) (nomark _)))).pt (pss_one (ps_ret pe_bl)) (pss_nil))
      (pss_cons (ps_expr (pe_bm PySem.F.plainAttrs_list PySem.F.slot_list_extend PySem.F.type_list_extend mt_extend (pv 2) (pa_cons (pv 4) pa_nil)))
      (pss_one (ps_expr (pe_bm PySem.F.plainAttrs_list PySem.F.slot_list_extend PySem.F.type_list_extend mt_extend (pv 3) (pa_cons (pv 5) pa_nil)))))) (pss_one (ps_if (pt_val (pe_callB call_isi (by rfl) T.isi PyProof.Rows.boot_isinstance (pa_cons (pv 5) (pa_cons (pe_bltn (v := .ty "tuple") (by rfl) T3.tuple PyProof.Rows.boot_tuple rfl) pa_nil)))) (pss_cons (ps_if (pw_or (pt_not (pt_val (pe_callB call_isi (by rfl) T.isi PyProof.Rows.boot_isinstance (pa_cons (pv 4) (pa_cons (pe_bltn (v := .ty "tuple") (by rfl) T3.tuple PyProof.Rows.boot_tuple rfl) pa_nil))))) (pw_or1 (pt_cmpR op_ne (pe_callB call_len_seq (by rfl) T.len PySem.boot_len (pa_cons (pv 4) pa_nil)) (pe_callB call_len_seq (by rfl) T.len PySem.boot_len (pa_cons (pv 5) pa_nil)) (nomark _)))).pt (pss_one (ps_ret pe_bl)) (pss_nil))
      (pss_cons (ps_expr (pe_bm PySem.F.plainAttrs_list PySem.F.slot_list_extend PySem.F.type_list_extend mt_extend (pv 2) (pa_cons (pe_callTy (r := rLof K) call_list_of (by rfl) T.list PyProof.Rows.boot_list (pa_cons (pv 4) pa_nil)) pa_nil)))
      (pss_one (ps_expr (pe_bm PySem.F.plainAttrs_list PySem.F.slot_list_extend PySem.F.type_list_extend mt_extend (pv 3) (pa_cons (pe_callTy (r := rLof K) call_list_of (by rfl) T.list PyProof.Rows.boot_list (pa_cons (pv 5) pa_nil)) pa_nil)))))) (pss_one (ps_if (pt_val (pe_callB call_isi (by rfl) T.isi PyProof.Rows.boot_isinstance (pa_cons (pv 5) (pa_cons (pe_bltn (v := .ty "str") (by rfl) T3.str PyProof.Rows.boot_str rfl) pa_nil)))) (pss_one (ps_if (pw_or (pt_not (pt_val (pe_callB call_isi (by rfl) T.isi PyProof.Rows.boot_isinstance (pa_cons (pv 4) (pa_cons (pe_bltn (v := .ty "str") (by rfl) T3.str PyProof.Rows.boot_str rfl) pa_nil))))) (pw_or1 (pt_cmpR op_ne (pv 4) (pv 5) (nomark _)))).pt (pss_one (ps_ret pe_bl)) (pss_nil))) (pss_one (ps_if (pt_cmp (pc_isN (pv 5))) (pss_never) (pss_one (ps_if (pw_or (pt_not (pt_val (pe_callB call_isi (by rfl) T.isi PyProof.Rows.boot_isinstance (pa_cons (pv 4) (pa_cons (pe_bltn (v := .ty "int") (by rfl) T.int PyProof.Rows.boot_int rfl) pa_nil))))) (pw_or1 (pt_cmpR op_ne (pe_callB call_isi (by rfl) T.isi PyProof.Rows.boot_isinstance (pa_cons (pv 4) (pa_cons (pe_bltn (v := .ty "bool") (by rfl) T.bool PyProof.Rows.boot_bool rfl) pa_nil))) (pe_callB call_isi (by rfl) T.isi PyProof.Rows.boot_isinstance (pa_cons (pv 5) (pa_cons (pe_bltn (v := .ty "bool") (by rfl) T.bool PyProof.Rows.boot_bool rfl) pa_nil))) (nomark _)))).pt (pss_one (ps_ret pe_bl)) (pss_one (ps_if (pt_cmpR op_ne (pv 4) (pv 5) (nomark _)) (pss_one (ps_ret pe_bl)) (pss_nil))))))))))))))))
      (pss_one (ps_ret pe_bl)))), ?_⟩
    refine ⟨_, rfl, (by show 1 ≤ sizeLine; omega), fun g hg => ?_⟩
    refine ⟨_, rfl, (by show 1 ≤ sizeLine; omega), fun t ht => ?_⟩
    obtain ⟨ntg, ht'⟩ := upd_none' ht
    have s0 : Same H (L2.upd (L2.upd H g (.lst [.ref p])) t (.lst [.ref q])) := ((Same.refl H).put hg).put ht'
    refine ⟨fun m σ H2 => ∃ xs ys ds v4 v5, σ = [some (.ref p), some (.ref q), some (.ref g), some (.ref t), v4, v5] ∧ Same H H2 ∧ H2 g = some (.lst xs) ∧ H2 t = some (.lst ys) ∧ Alks H xs ys ds m ∧ m ≤ 1000,
      ⟨_, [.ref p], [.ref q], _, none, none, rfl, s0, by rw [upd_ne (Ne.symm ntg), upd_same], upd_same, Alks.top hp hq hd hl1, by omega⟩, ?_⟩
    rintro m σ H2 ⟨xs, ys, ds, v4, v5, rfl, s2, hG, hT, hA, hm⟩
    obtain ⟨hx1, hx2, hx3⟩ := hA.len
    refine ⟨_, rfl, (by show 0 ≤ sizeLine; omega), fun z hz => ?_⟩
    have s3 : Same H (L2.upd H2 z (.lst [])) := s2.put (s2.free hz)
    have hG3 : (L2.upd H2 z (.lst [])) g = some (.lst xs) := by rw [upd_ne (ne_of_none hG hz)]; exact hG
    have hT3 : (L2.upd H2 z (.lst [])) t = some (.lst ys) := by rw [upd_ne (ne_of_none hT hz)]; exact hT
    obtain ⟨a1, a2, a3⟩ := hA.dat (K := K) s3
    refine ⟨.list ds, .list [], .lst (.of hT3) a1, .lst (.of upd_same) .nil, (by rw [PyData.canLay0]; exact a2), rfl, (by rw [PyData.depth]; omega), _, rfl, ?_⟩
    rw [eqv_nil]
    generalize L2.upd H2 z (.lst []) = H3 at s3 hG3 hT3 a1
    clear hG hT hz
    cases hA with
    | nil => exact iteNS rfl (k H3 s3)
    | @top p' q' zs' es' c1' c2' c3' c4' =>
      rw [decide_eq_false (by simp)]
      refine iteT ⟨fun σ' H' => ∃ xs ys ds v4 v5, σ' = [some (.ref p), some (.ref q), some (.ref g), some (.ref t), v4, v5] ∧ Same H H' ∧ H' g = some (.lst xs) ∧ H' t = some (.lst ys) ∧ Alks H xs ys ds (8 * es'.length),
        fun σ' H' ⟨xs', ys', ds', w4, w5, b1, b2, b3, b4, b5⟩ => ⟨8 * es'.length, by omega, xs', ys', ds', w4, w5, b1, b2, b3, b4, b5, by omega⟩, ?_⟩
      refine ⟨_, rfl, .inl ⟨rfl, _, .of hG3⟩, g, _, .ref p', rfl, rfl, hG3, rfl, ?_⟩
      have hT4 : (L2.upd H3 g (.lst [])) t = some (.lst [.ref q']) := by rw [upd_ne ntg]; exact hT3
      refine ⟨_, rfl, .inl ⟨rfl, _, .of hT4⟩, t, _, .ref q', rfl, rfl, hT4, rfl, ?_⟩
      have s5 : Same H (L2.upd (L2.upd H3 g (.lst [])) t (.lst [])) := (s3.put hg).put ht'
      have hG5 : (L2.upd (L2.upd H3 g (.lst [])) t (.lst [])) g = some (.lst []) := by rw [upd_ne (Ne.symm ntg), upd_same]
      have hT5 : (L2.upd (L2.upd H3 g (.lst [])) t (.lst [])) t = some (.lst []) := upd_same
      show _
      dsimp only [List.dropLast]
      generalize L2.upd (L2.upd H3 g (.lst [])) t (.lst []) = H5 at s5 hG5 hT5 ⊢
      have c1 := s5 _ _ c1'
      have c2 := s5 _ _ c2'
      obtain ⟨es'', hA'⟩ := Alks.deeds es' (zs := zs') Alks.nil c3'.1 c3'.2
      refine ⟨_, rfl, _, _, _, rfl, .ll (.of c2), _, rfl, iteT ?_⟩
      refine ⟨_, rfl, _, _, _, rfl, .ll (.of c1), _, rfl, iteF ?_⟩
      refine ⟨_, rfl, _, _, rfl, .inl (.of c1), _, rfl, _, _, rfl, .inl (.of c2), rfl, _, rfl, iteNS rfl ?_⟩
      refine ⟨_, rfl, .inl ⟨rfl, _, .of hG5⟩, _, rfl, g, _, _, _, rfl, rfl, hG5, c1, (by have := c3'.1; show 0 + zs'.length ≤ _; omega), ?_⟩
      have s6 : Same H (L2.upd H5 g (.lst ([] ++ zs'))) := s5.put hg
      have hT6 : (L2.upd H5 g (.lst ([] ++ zs'))) t = some (.lst []) := by rw [upd_ne ntg]; exact hT5
      refine ⟨_, rfl, .inl ⟨rfl, _, .of hT6⟩, _, rfl, t, _, _, _, rfl, rfl, hT6, s6 _ _ c2', (by have := c3'.1; show 0 + zs'.length ≤ _; omega), ?_⟩
      exact ⟨_, _, es'', _, _, rfl, s6.put ht', by rw [upd_ne (Ne.symm ntg), upd_same], upd_same, by rw [Nat.zero_add] at hA'; exact hA'⟩
    | snoc hA hx =>
      rename_i xs ds m0 x dd k0
      have hne : ¬ (ds ++ [dd] = []) := by simp
      rw [decide_eq_false hne]
      have hk0 := hx.pos
      obtain ⟨hy1, hy2, hy3⟩ := hA.len
      refine iteT ⟨fun σ' H' => ∃ xs ys ds v4 v5 k, σ' = [some (.ref p), some (.ref q), some (.ref g), some (.ref t), v4, v5] ∧ Same H H' ∧ H' g = some (.lst xs) ∧ H' t = some (.lst ys) ∧ Alks H xs ys ds k ∧ k < m0 + k0,
        fun σ' H' ⟨xs', ys', ds', w4, w5, k', b1, b2, b3, b4, b5, b6⟩ => ⟨k', b6, xs', ys', ds', w4, w5, b1, b2, b3, b4, b5, by omega⟩, ?_⟩
      refine ⟨_, rfl, .inl ⟨rfl, _, .of hG3⟩, g, _, x, rfl, rfl, hG3, by simp, ?_⟩
      rw [List.dropLast_concat]
      have hT4 : (L2.upd H3 g (.lst xs)) t = some (.lst (xs ++ [x])) := by rw [upd_ne ntg]; exact hT3
      refine ⟨_, rfl, .inl ⟨rfl, _, .of hT4⟩, t, _, x, rfl, rfl, hT4, by simp, ?_⟩
      rw [List.dropLast_concat]
      have s5 : Same H (L2.upd (L2.upd H3 g (.lst xs)) t (.lst xs)) := (s3.put hg).put ht'
      have hG5 : (L2.upd (L2.upd H3 g (.lst xs)) t (.lst xs)) g = some (.lst xs) := by rw [upd_ne (Ne.symm ntg), upd_same]
      have hT5 : (L2.upd (L2.upd H3 g (.lst xs)) t (.lst xs)) t = some (.lst xs) := upd_same
      generalize L2.upd (L2.upd H3 g (.lst xs)) t (.lst xs) = H5 at s5 hG5 hT5
      cases hx with
      | int z =>
        refine ⟨_, rfl, _, _, _, rfl, .il z, _, rfl, iteF ?_⟩
        refine ⟨_, rfl, _, _, _, rfl, .it z, _, rfl, iteF ?_⟩
        refine ⟨_, rfl, _, _, _, rfl, .is z, _, rfl, iteF ?_⟩
        refine ⟨_, rfl, _, rfl, iteF ?_⟩
        refine ⟨_, rfl, _, _, _, rfl, .ii z, _, rfl, iteF ?_⟩
        refine ⟨_, rfl, _, _, _, rfl, .ib z, _, rfl, _, _, _, rfl, .ib z, rfl, _, rfl, iteNS rfl ?_⟩
        refine ⟨_, rfl, _, rfl, rfl, _, rfl, iteNS rfl ?_⟩
        exact ⟨xs, xs, ds, _, _, m0, rfl, s5, hG5, hT5, hA, by omega⟩
      | str z hz0 =>
        refine ⟨_, rfl, _, _, _, rfl, .sl z, _, rfl, iteF ?_⟩
        refine ⟨_, rfl, _, _, _, rfl, .st z, _, rfl, iteF ?_⟩
        refine ⟨_, rfl, _, _, _, rfl, .ss z, _, rfl, iteT ?_⟩
        refine ⟨_, rfl, _, _, _, rfl, .ss z, _, rfl, iteF ?_⟩
        refine ⟨_, rfl, _, rfl, rfl, _, rfl, iteNS rfl ?_⟩
        exact ⟨xs, xs, ds, _, _, m0, rfl, s5, hG5, hT5, hA, by omega⟩
      | spot h =>
        rename_i a x0
        obtain ⟨t0, rfl, c0⟩ := h
        have c1 := s5 _ _ c0
        obtain ⟨its, hits⟩ : ∃ its : List V, its = [kd a, .int x0] := ⟨_, rfl⟩
        have hil : its.length ≤ 3 := by rw [hits]; simp
        have hK := (hA.snoc (.str (if a then "end" else "point") (so_kd a))).snoc (.int x0)
        rw [← hits] at c0 c1
        obtain ⟨dk, hK⟩ : ∃ dk, Alks H (xs ++ its) (xs ++ its) dk (m0 + 1 + 1) := ⟨_, by rw [hits]; simpa [kd] using hK⟩
        refine ⟨_, rfl, _, _, _, rfl, .tl (.of c1), _, rfl, iteF ?_⟩
        refine ⟨_, rfl, _, _, _, rfl, .tt (.of c1), _, rfl, iteT ?_⟩
        refine ⟨_, rfl, _, _, _, rfl, .tt (.of c1), _, rfl, iteF ?_⟩
        refine ⟨_, rfl, t0, _, rfl, .inr (.of c1), _, rfl, t0, _, rfl, .inr (.of c1), rfl, _, rfl, iteNS rfl ?_⟩
        refine ⟨_, rfl, .inl ⟨rfl, _, .of hG5⟩, _, rfl, t0, _, rfl, .inr (.of c1), fun l1 h1 => ?_⟩
        have b1 : Same H5 (L2.upd H5 l1 (.lst its)) := (Same.refl H5).put h1
        have d1 := upd_same (H := H5) (a := l1) (o := .lst its)
        generalize L2.upd H5 l1 (.lst its) = H6 at b1 d1 ⊢
        refine ⟨g, l1, _, _, rfl, rfl, b1 _ _ hG5, d1, (by show xs.length + its.length ≤ _; omega), ?_⟩
        have s6 : Same H (L2.upd H6 g (.lst (xs ++ its))) := (s5.trans b1).put hg
        have hT6 : (L2.upd H6 g (.lst (xs ++ its))) t = some (.lst xs) := by rw [upd_ne ntg]; exact b1 _ _ hT5
        have hG6 := upd_same (H := H6) (a := g) (o := .lst (xs ++ its))
        generalize L2.upd H6 g (.lst (xs ++ its)) = H7 at s6 hT6 hG6 ⊢
        refine ⟨_, rfl, .inl ⟨rfl, _, .of hT6⟩, _, rfl, t0, _, rfl, .inr (.of (s6 _ _ c0)), fun l2 h2 => ?_⟩
        have b2 : Same H7 (L2.upd H7 l2 (.lst its)) := (Same.refl H7).put h2
        have d2 := upd_same (H := H7) (a := l2) (o := .lst its)
        generalize L2.upd H7 l2 (.lst its) = H8 at b2 d2 ⊢
        refine ⟨t, l2, _, _, rfl, rfl, b2 _ _ hT6, d2, (by show xs.length + its.length ≤ _; omega), ?_⟩
        exact ⟨_, _, _, _, _, _, rfl, (s6.trans b2).put ht', by rw [upd_ne (Ne.symm ntg)]; exact b2 _ _ hG6, upd_same, hK, by omega⟩
      | deed h =>
        rename_i d
        cases d with
        | pt =>
          obtain ⟨t0, rfl, c0⟩ := h
          have c1 := s5 _ _ c0
          obtain ⟨its, hits⟩ : ∃ its : List V, its = [.str "point"] := ⟨_, rfl⟩
          have hil : its.length ≤ 3 := by rw [hits]; simp
          have hK := hA.snoc (.str "point" so_point)
          rw [← hits] at c0 c1
          obtain ⟨dk, hK⟩ : ∃ dk, Alks H (xs ++ its) (xs ++ its) dk (m0 + 1) := ⟨_, by rw [hits]; exact hK⟩
          refine ⟨_, rfl, _, _, _, rfl, .tl (.of c1), _, rfl, iteF ?_⟩
          refine ⟨_, rfl, _, _, _, rfl, .tt (.of c1), _, rfl, iteT ?_⟩
          refine ⟨_, rfl, _, _, _, rfl, .tt (.of c1), _, rfl, iteF ?_⟩
          refine ⟨_, rfl, t0, _, rfl, .inr (.of c1), _, rfl, t0, _, rfl, .inr (.of c1), rfl, _, rfl, iteNS rfl ?_⟩
          refine ⟨_, rfl, .inl ⟨rfl, _, .of hG5⟩, _, rfl, t0, _, rfl, .inr (.of c1), fun l1 h1 => ?_⟩
          have b1 : Same H5 (L2.upd H5 l1 (.lst its)) := (Same.refl H5).put h1
          have d1 := upd_same (H := H5) (a := l1) (o := .lst its)
          generalize L2.upd H5 l1 (.lst its) = H6 at b1 d1 ⊢
          refine ⟨g, l1, _, _, rfl, rfl, b1 _ _ hG5, d1, (by show xs.length + its.length ≤ _; omega), ?_⟩
          have s6 : Same H (L2.upd H6 g (.lst (xs ++ its))) := (s5.trans b1).put hg
          have hT6 : (L2.upd H6 g (.lst (xs ++ its))) t = some (.lst xs) := by rw [upd_ne ntg]; exact b1 _ _ hT5
          have hG6 := upd_same (H := H6) (a := g) (o := .lst (xs ++ its))
          generalize L2.upd H6 g (.lst (xs ++ its)) = H7 at s6 hT6 hG6 ⊢
          refine ⟨_, rfl, .inl ⟨rfl, _, .of hT6⟩, _, rfl, t0, _, rfl, .inr (.of (s6 _ _ c0)), fun l2 h2 => ?_⟩
          have b2 : Same H7 (L2.upd H7 l2 (.lst its)) := (Same.refl H7).put h2
          have d2 := upd_same (H := H7) (a := l2) (o := .lst its)
          generalize L2.upd H7 l2 (.lst its) = H8 at b2 d2 ⊢
          refine ⟨t, l2, _, _, rfl, rfl, b2 _ _ hT6, d2, (by show xs.length + its.length ≤ _; omega), ?_⟩
          exact ⟨_, _, _, _, _, _, rfl, (s6.trans b2).put ht', by rw [upd_ne (Ne.symm ntg)]; exact b2 _ _ hG6, upd_same, hK, by omega⟩
        | look =>
          obtain ⟨t0, rfl, c0⟩ := h
          have c1 := s5 _ _ c0
          obtain ⟨its, hits⟩ : ∃ its : List V, its = [.str "look"] := ⟨_, rfl⟩
          have hil : its.length ≤ 3 := by rw [hits]; simp
          have hK := hA.snoc (.str "look" so_look)
          rw [← hits] at c0 c1
          obtain ⟨dk, hK⟩ : ∃ dk, Alks H (xs ++ its) (xs ++ its) dk (m0 + 1) := ⟨_, by rw [hits]; exact hK⟩
          refine ⟨_, rfl, _, _, _, rfl, .tl (.of c1), _, rfl, iteF ?_⟩
          refine ⟨_, rfl, _, _, _, rfl, .tt (.of c1), _, rfl, iteT ?_⟩
          refine ⟨_, rfl, _, _, _, rfl, .tt (.of c1), _, rfl, iteF ?_⟩
          refine ⟨_, rfl, t0, _, rfl, .inr (.of c1), _, rfl, t0, _, rfl, .inr (.of c1), rfl, _, rfl, iteNS rfl ?_⟩
          refine ⟨_, rfl, .inl ⟨rfl, _, .of hG5⟩, _, rfl, t0, _, rfl, .inr (.of c1), fun l1 h1 => ?_⟩
          have b1 : Same H5 (L2.upd H5 l1 (.lst its)) := (Same.refl H5).put h1
          have d1 := upd_same (H := H5) (a := l1) (o := .lst its)
          generalize L2.upd H5 l1 (.lst its) = H6 at b1 d1 ⊢
          refine ⟨g, l1, _, _, rfl, rfl, b1 _ _ hG5, d1, (by show xs.length + its.length ≤ _; omega), ?_⟩
          have s6 : Same H (L2.upd H6 g (.lst (xs ++ its))) := (s5.trans b1).put hg
          have hT6 : (L2.upd H6 g (.lst (xs ++ its))) t = some (.lst xs) := by rw [upd_ne ntg]; exact b1 _ _ hT5
          have hG6 := upd_same (H := H6) (a := g) (o := .lst (xs ++ its))
          generalize L2.upd H6 g (.lst (xs ++ its)) = H7 at s6 hT6 hG6 ⊢
          refine ⟨_, rfl, .inl ⟨rfl, _, .of hT6⟩, _, rfl, t0, _, rfl, .inr (.of (s6 _ _ c0)), fun l2 h2 => ?_⟩
          have b2 : Same H7 (L2.upd H7 l2 (.lst its)) := (Same.refl H7).put h2
          have d2 := upd_same (H := H7) (a := l2) (o := .lst its)
          generalize L2.upd H7 l2 (.lst its) = H8 at b2 d2 ⊢
          refine ⟨t, l2, _, _, rfl, rfl, b2 _ _ hT6, d2, (by show xs.length + its.length ≤ _; omega), ?_⟩
          exact ⟨_, _, _, _, _, _, rfl, (s6.trans b2).put ht', by rw [upd_ne (Ne.symm ntg)]; exact b2 _ _ hG6, upd_same, hK, by omega⟩
        | tie a x b y =>
          obtain ⟨t0, u, v, rfl, c0, h1, h2⟩ := h
          have c1 := s5 _ _ c0
          obtain ⟨its, hits⟩ : ∃ its : List V, its = [.str "tie", u, v] := ⟨_, rfl⟩
          have hil : its.length ≤ 3 := by rw [hits]; simp
          have hK := ((hA.snoc (.str "tie" so_tie)).snoc (.spot h1)).snoc (.spot h2)
          rw [← hits] at c0 c1
          obtain ⟨dk, hK⟩ : ∃ dk, Alks H (xs ++ its) (xs ++ its) dk (m0 + 1 + 3 + 3) := ⟨_, by rw [hits]; simpa using hK⟩
          refine ⟨_, rfl, _, _, _, rfl, .tl (.of c1), _, rfl, iteF ?_⟩
          refine ⟨_, rfl, _, _, _, rfl, .tt (.of c1), _, rfl, iteT ?_⟩
          refine ⟨_, rfl, _, _, _, rfl, .tt (.of c1), _, rfl, iteF ?_⟩
          refine ⟨_, rfl, t0, _, rfl, .inr (.of c1), _, rfl, t0, _, rfl, .inr (.of c1), rfl, _, rfl, iteNS rfl ?_⟩
          refine ⟨_, rfl, .inl ⟨rfl, _, .of hG5⟩, _, rfl, t0, _, rfl, .inr (.of c1), fun l1 h1 => ?_⟩
          have b1 : Same H5 (L2.upd H5 l1 (.lst its)) := (Same.refl H5).put h1
          have d1 := upd_same (H := H5) (a := l1) (o := .lst its)
          generalize L2.upd H5 l1 (.lst its) = H6 at b1 d1 ⊢
          refine ⟨g, l1, _, _, rfl, rfl, b1 _ _ hG5, d1, (by show xs.length + its.length ≤ _; omega), ?_⟩
          have s6 : Same H (L2.upd H6 g (.lst (xs ++ its))) := (s5.trans b1).put hg
          have hT6 : (L2.upd H6 g (.lst (xs ++ its))) t = some (.lst xs) := by rw [upd_ne ntg]; exact b1 _ _ hT5
          have hG6 := upd_same (H := H6) (a := g) (o := .lst (xs ++ its))
          generalize L2.upd H6 g (.lst (xs ++ its)) = H7 at s6 hT6 hG6 ⊢
          refine ⟨_, rfl, .inl ⟨rfl, _, .of hT6⟩, _, rfl, t0, _, rfl, .inr (.of (s6 _ _ c0)), fun l2 h2 => ?_⟩
          have b2 : Same H7 (L2.upd H7 l2 (.lst its)) := (Same.refl H7).put h2
          have d2 := upd_same (H := H7) (a := l2) (o := .lst its)
          generalize L2.upd H7 l2 (.lst its) = H8 at b2 d2 ⊢
          refine ⟨t, l2, _, _, rfl, rfl, b2 _ _ hT6, d2, (by show xs.length + its.length ≤ _; omega), ?_⟩
          exact ⟨_, _, _, _, _, _, rfl, (s6.trans b2).put ht', by rw [upd_ne (Ne.symm ntg)]; exact b2 _ _ hG6, upd_same, hK, by omega⟩
theorem scAlike : FnScope ["_law_found", "_law_due"] ["_law_found", "_law_due"] (defScope sAlike) := ⟨rfl, rfl, rfl, by decide +kernel, rfl, by decide +kernel, by decide +kernel⟩
theorem ok_alike {f : Addr} {fd : FuncData} (F : Fun K "_law_alike" "_law_alike" sAlike f fd) (T : Txt mg) (T3 : Txt3 mg) (DR : Def P w K mg base "_law_are_rows" 2 ["_law_found"] spAreRows) (DW : Def P w K mg base "_law_whole" 1 ["_law_found"] spWhole) : FnOk P w K mg base CX0 3 f fd ["_law_found", "_law_due"] spAlike := by
  refine F.ok scAlike (fun vs H Q E h => ?_) (fun cdv A outer s H vs Q E hr2 h => ?_)
  · obtain ⟨x, y, rfl, _⟩ := h
    rfl
  · obtain ⟨x, y, rfl, hE, k⟩ := h
    have hs : sizeLine = 16777216 := sizeLine_eq
    have nd := scAlike.nd
    have hu := hr2.units
    have hr1 : Room 1 _ := hr2.mono (by decide)
    refine ⟨_, pss_cons (ps_if (pt_val (pe_callB call_isi (by rfl) T.isi PyProof.Rows.boot_isinstance (pa_cons (pv 1) (pa_cons (pe_bltn (v := .ty "str") (by rfl) T3.str PyProof.Rows.boot_str rfl) pa_nil)))) (pss_one (ps_ret (pe_and (pe_callB call_isi (by rfl) T.isi PyProof.Rows.boot_isinstance (pa_cons (pv 0) (pa_cons (pe_bltn (v := .ty "str") (by rfl) T3.str PyProof.Rows.boot_str rfl) pa_nil))) (pe_one (pe_cmpR op_eq (pv 0) (pv 1) (nomark _)))))) (pss_nil))
      (pss_cons (ps_if (pt_val (pe_callB call_isi (by rfl) T.isi PyProof.Rows.boot_isinstance (pa_cons (pv 1) (pa_cons (pe_bltn (v := .ty "list") (by rfl) T.list PyProof.Rows.boot_list rfl) pa_nil)))) (pss_one (ps_ret (pe_and (pcall DR hr2 (pa_cons (pv 0) pa_nil)) (pe_one (pe_cmpR (op_eqD hu) (pv 0) (pv 1) (nomark _)))))) (pss_nil))
      (pss_cons (ps_if (pt_val (pe_callB call_isi (by rfl) T.isi PyProof.Rows.boot_isinstance (pa_cons (pv 1) (pa_cons (pe_bltn (v := .ty "tuple") (by rfl) T3.tuple PyProof.Rows.boot_tuple rfl) pa_nil)))) (pss_one (ps_ret (pe_and (pe_callB call_isi (by rfl) T.isi PyProof.Rows.boot_isinstance (pa_cons (pv 0) (pa_cons (pe_bltn (v := .ty "tuple") (by rfl) T3.tuple PyProof.Rows.boot_tuple rfl) pa_nil))) (pe_and (pcall DR hr2 (pa_cons (pe_lst (pa_cons (pe_callTy (r := rLof K) call_list_of (by rfl) T.list PyProof.Rows.boot_list (pa_cons (pv 0) pa_nil)) pa_nil)) pa_nil)) (pe_one (pe_cmpR (op_eqD hu) (pv 0) (pv 1) (nomark _))))))) (pss_nil))
      (pss_one (ps_ret (pe_and (pcall DW hr1 (pa_cons (pv 0) pa_nil)) (pe_one (pe_cmpR op_eq (pv 0) (pv 1) (nomark _)))))))), ?_⟩
    cases hE with
    | str z =>
      refine ⟨_, rfl, _, _, _, rfl, .ss z, _, rfl, iteT ?_⟩
      refine ⟨_, rfl, _, _, _, rfl, .ss z, _, rfl, iteT ⟨_, rfl, _, rfl, rfl, ?_⟩⟩
      rw [seq_t rfl]
      exact k H (Same.refl H)
    | int z =>
      refine ⟨_, rfl, _, _, _, rfl, .is z, _, rfl, iteF ?_⟩
      refine ⟨_, rfl, _, _, _, rfl, .il z, _, rfl, iteF ?_⟩
      refine ⟨_, rfl, _, _, _, rfl, .it z, _, rfl, iteF ?_⟩
      refine ⟨_, rfl, z, rfl, _, rfl, iteT ⟨_, rfl, _, rfl, rfl, ?_⟩⟩
      rw [decide_eq_true rfl]
      exact k H (Same.refl H)
    | rows R1 R2 hl =>
      refine ⟨_, rfl, _, _, _, rfl, .ls (.of R2.out), _, rfl, iteF ?_⟩
      refine ⟨_, rfl, _, _, _, rfl, .ll (.of R2.out), _, rfl, iteT ?_⟩
      refine ⟨_, rfl, _, _, _, rfl, R1, _, rfl, iteT ⟨_, rfl, _, rfl, _, _, R1.dat, R2.dat, lay_rows _, lay_rows _, Nat.le_trans (depth_rows _) (by decide), ?_⟩⟩
      rw [eqv_rows, decide_eq_true rfl]
      exact k H (Same.refl H)
    | tup h1 h2 hl =>
      rename_i t u r
      refine ⟨_, rfl, _, _, _, rfl, .ts (.of h2), _, rfl, iteF ?_⟩
      refine ⟨_, rfl, _, _, _, rfl, .tl (.of h2), _, rfl, iteF ?_⟩
      refine ⟨_, rfl, _, _, _, rfl, .tt (.of h2), _, rfl, iteT ?_⟩
      refine ⟨_, rfl, _, _, _, rfl, .tt (.of h1), _, rfl, iteT ?_⟩
      refine ⟨_, rfl, t, _, rfl, .inr (.of h1), fun l hl' => ?_⟩
      have s1 : Same H (L2.upd H l (.lst (r.map V.int))) := (Same.refl H).put hl'
      have g1 := upd_same (H := H) (a := l) (o := .lst (r.map V.int))
      generalize L2.upd H l (.lst (r.map V.int)) = H1 at s1 g1 ⊢
      refine ⟨(by show 1 ≤ sizeLine; omega), fun m hm => ?_⟩
      have s2 : Same H1 (L2.upd H1 m (.lst [.ref l])) := (Same.refl H1).put hm
      have g2 := upd_same (H := H1) (a := m) (o := .lst [.ref l])
      generalize L2.upd H1 m (.lst [.ref l]) = H2 at s2 g2 ⊢
      have s12 := s1.trans s2
      have R : Rows H2 m [l] [r] := ⟨g2, by simp, rfl, fun i q z e1 e2 => by
        cases i with
        | zero => cases e1; cases e2; exact s2 _ _ g1
        | succ i => simp at e1⟩
      refine ⟨m, [l], [r], rfl, R, _, rfl, iteT ⟨_, rfl, _, rfl, .tuple (r.map .int), .tuple (r.map .int), .tup (.of (s12 _ _ h1)) (datVs_ints r), .tup (.of (s12 _ _ h2)) (datVs_ints r), tints_lay r, tints_lay r, tints_depth r, ?_⟩⟩
      rw [tints_eqv]
      exact k H2 s12
theorem scHandIs : FnScope ["_law_told", "_law_due"] ["_law_told", "_law_due"] (defScope sHandIs) := ⟨rfl, rfl, rfl, by decide +kernel, rfl, by decide +kernel, by decide +kernel⟩
theorem ok_handIs {f : Addr} {fd : FuncData} (F : Fun K "_law_hand_is" "_law_hand_is" sHandIs f fd) (T : Txt mg) (T3 : Txt3 mg) (DK : Def P w K mg base "_law_alike" 3 ["_law_found", "_law_due"] spAlike) : FnOk P w K mg base CX0 4 f fd ["_law_told", "_law_due"] spHandIs := by
  refine F.ok scHandIs (fun vs H Q E h => ?_) (fun cdv A outer s H vs Q E hr3 h => ?_)
  · obtain ⟨x, y, rfl, _⟩ := h
    rfl
  · obtain ⟨x, y, rfl, hE, k⟩ := h
    have hs : sizeLine = 16777216 := sizeLine_eq
    have nd := scHandIs.nd
    have hu := hr3.units
    refine ⟨_, pss_cons (ps_if (pt_val (pe_callB call_isi (by rfl) T.isi PyProof.Rows.boot_isinstance (pa_cons (pv 1) (pa_cons (pe_bltn (v := .ty "str") (by rfl) T3.str PyProof.Rows.boot_str rfl) pa_nil)))) (pss_one (ps_ret (pe_and (pe_callB call_isi (by rfl) T.isi PyProof.Rows.boot_isinstance (pa_cons (pv 0) (pa_cons (pe_bltn (v := .ty "tuple") (by rfl) T3.tuple PyProof.Rows.boot_tuple rfl) pa_nil))) (pe_one (pe_cmpR (op_eqD hu) (pv 0) (pe_tup (pa_cons pe_str (pa_cons (pv 1) pa_nil))) (nomark _)))))) (pss_nil))
      (pss_one (ps_ret (pcall DK hr3 (pa_cons (pv 0) (pa_cons (pv 1) pa_nil))))), ?_⟩
    rcases hE with ⟨t, rfl, rfl, ht⟩ | ⟨hE, hno⟩
    · refine ⟨_, rfl, _, _, _, rfl, .ss _, _, rfl, iteT ?_⟩
      refine ⟨_, rfl, _, _, _, rfl, .tt (.of ht), _, rfl, iteT ⟨_, rfl, _, rfl, (by show 2 ≤ sizeLine; omega), fun u hu' => ?_⟩⟩
      have s1 : Same H (L2.upd H u (.tup [.str "refused", .str "no end"])) := (Same.refl H).put hu'
      refine ⟨.tuple [.str "refused", .str "no end"], .tuple [.str "refused", .str "no end"], .tup (.of (s1 _ _ ht)) (.cons (.str _) (.cons (.str _) .nil)), .tup (.of upd_same) (.cons (.str _) (.cons (.str _) .nil)), (by simp [PyData.canLay0, PyData.canLayAll0, so_ref, so_no]), (by simp [PyData.canLay0, PyData.canLayAll0, so_ref, so_no]), (by simp [PyData.depth, PyData.depthAll]), ?_⟩
      rw [show PyData.eqv (.tuple [.str "refused", .str "no end"]) (.tuple [.str "refused", .str "no end"]) = true by simp [PyData.eqv, PyData.eqvAll]]
      exact k _ s1
    · have no : IsiV K H y "str" false := by
        cases hE with
        | str z => exact absurd rfl (hno z)
        | int z => exact .is z
        | rows R1 R2 _ => exact .ls (.of R2.out)
        | tup h1 h2 _ => exact .ts (.of h2)
      refine ⟨_, rfl, _, _, _, rfl, no, _, rfl, iteF ?_⟩
      exact ⟨_, rfl, _, rfl, x, y, rfl, hE, k⟩
end
end Ink
namespace Ink
open PySem L2
def spSpotBy : Sp := fun vs H Q _ => ∃ (c m : Int) (e p : Nat), vs = [.int c, .int m, .int (e : Nat), .int (p : Nat)] ∧ ∀ (t : Addr) (a : Bool) (x : Int) (H' : Hp), H' t = some (.tup [kd a, .int x]) → Same H H' → Q (.ref t) H'
def spDeeds (K : PySem.W.Frag) : Sp := fun vs H Q _ => ∃ (a : Addr) (cs : List Int), vs = [.ref a] ∧ SqL K H a (cs.map V.int) ∧ cs.length ≤ 48 ∧ ∀ (l : Addr) (zs : List V) (ds : List Deed) (H' : Hp), H l = none → H' l = some (.lst zs) → DeedsAt H' zs ds → ds.length ≤ 17 → Same H H' → Q (.ref l) H'
theorem SpotAt.upd {H : Hp} {l : Addr} {xs : List V} {o : HO} {v : V} {a : Bool} {x : Int} (hl : H l = some (.lst xs)) (h : SpotAt H v a x) : SpotAt (L2.upd H l o) v a x := let ⟨t, e, q⟩ := h; ⟨t, e, by rw [upd_ne fun z => by rw [z, hl] at q; cases q]; exact q⟩
theorem DeedAt.upd {H : Hp} {l : Addr} {xs : List V} {o : HO} {v : V} {d : Deed} (hl : H l = some (.lst xs)) (h : DeedAt H v d) : DeedAt (L2.upd H l o) v d := by
  cases d with
  | pt => obtain ⟨t, e, q⟩ := h; exact ⟨t, e, by rw [upd_ne fun z => by rw [z, hl] at q; cases q]; exact q⟩
  | look => obtain ⟨t, e, q⟩ := h; exact ⟨t, e, by rw [upd_ne fun z => by rw [z, hl] at q; cases q]; exact q⟩
  | tie a x b y => obtain ⟨t, u, w, e, q, h1, h2⟩ := h; exact ⟨t, u, w, e, (by rw [upd_ne fun z => by rw [z, hl] at q; cases q]; exact q), h1.upd hl, h2.upd hl⟩
theorem DeedsAt.snoc {H : Hp} {l : Addr} {zs : List V} {ds : List Deed} {v : V} {d : Deed} {o : HO} (hl : H l = some (.lst zs)) (h : DeedsAt H zs ds) (hd : DeedAt H v d) : DeedsAt (L2.upd H l o) (zs ++ [v]) (ds ++ [d]) := by
  refine ⟨by rw [List.length_append, List.length_append, h.1]; rfl, fun i u f e1 e2 => ?_⟩
  by_cases hi : i < zs.length
  · rw [List.getElem?_append_left hi] at e1
    rw [List.getElem?_append_left (by rw [← h.1]; exact hi)] at e2
    exact (h.2 i u f e1 e2).upd hl
  · have hj := (List.getElem?_eq_some_iff.mp e1).1
    rw [List.length_append] at hj
    have : i = zs.length := by have : [v].length = 1 := rfl; omega
    subst this
    rw [List.getElem?_append_right (Nat.le_refl _), Nat.sub_self] at e1
    rw [h.1, List.getElem?_append_right (Nat.le_refl _), Nat.sub_self] at e2
    cases e1
    cases e2
    exact hd.upd hl
theorem seq_join {t1 t2 : TS} {D : Ends} {σ : St} {H : Hp} (J : St → Hp → Prop) (h2 : ∀ σ' H', J σ' H' → t2 D σ' H') (h1 : (∀ σ' H', J σ' H' → t2 D σ' H') → t1 { D with nx := t2 D } σ H) : tSeq t1 t2 D σ H := h1 h2
theorem upd_id {H : Hp} {a : Addr} {o : HO} (h : H a = some o) : L2.upd H a o = H := by
  funext b
  unfold L2.upd
  split
  · next e => rw [e, h]
  · rfl
section
variable {P : Program} {w : World} {K : PySem.W.Frag} {mg : Str → Option Value} {base : Heap}
theorem at_mod {zs : List Int} {c : Int} {k : Nat} (hk : 0 < k) (h : zs.length = k) : atI (zs.map V.int) (c % (k : Int)) = some (V.int (zs.getD (c % (k : Int)).toNat 0)) := by
  have h1 := Int.emod_nonneg c (by omega : (k : Int) ≠ 0)
  have h2 := Int.emod_lt_of_pos c (by omega : (0 : Int) < k)
  exact int_at (by omega) (by omega)
theorem scSpotBy : FnScope ["_law_cell", "_law_more", "_law_ends", "_law_points"] ["_law_cell", "_law_more", "_law_ends", "_law_points"] (defScope sSpotBy) := ⟨rfl, rfl, rfl, by decide +kernel, rfl, by decide +kernel, by decide +kernel⟩
set_option maxHeartbeats 4000000 in
theorem ok_spotBy {f : Addr} {fd : FuncData} (F : Fun K "_law_spot_by" "_law_spot_by" sSpotBy f fd) (T : Txt mg) : FnOk P w K mg base CX0 1 f fd ["_law_cell", "_law_more", "_law_ends", "_law_points"] spSpotBy := by
  refine F.ok scSpotBy (fun vs H Q E h => ?_) (fun cdv A outer s H vs Q E hr h => ?_)
  · obtain ⟨c, m, e, p, rfl, _⟩ := h
    rfl
  · obtain ⟨c, m, e, p, rfl, k⟩ := h
    have hs : sizeLine = 16777216 := sizeLine_eq
    have nd := scSpotBy.nd
    refine ⟨_, pss_cons (ps_if (pw_and (pt_cmpR op_gt (pv 2) pe_int (nomark _)) (pw_and1 (pt_cmpR op_gt (pe_op op_mod (pv 0) pe_int) pe_int (nomark _)))).pt (pss_cons (ps_if (pt_cmpR op_eq (pe_op op_mod (pv 1) pe_int) pe_int (nomark _)) (pss_one (ps_ret (pe_tup (pa_cons pe_str (pa_cons (pe_ix (r := rIxL K) ix_list (pe_lst (pa_cons (pe_un un_neg pe_int) (pa_cons (pv 2) (pa_cons (pe_un un_neg pe_int) (pa_cons (pe_op op_pow pe_int pe_int) pa_nil))))) (pe_op op_mod (pv 0) pe_int) (fun _ _ => rfl)) pa_nil))))) (pss_nil))
      (pss_one (ps_ret (pe_tup (pa_cons pe_str (pa_cons (pe_op op_mod (pv 1) (pv 2)) pa_nil)))))) (pss_nil))
      (pss_cons (ps_if (pt_cmpR op_eq (pe_op op_mod (pv 1) pe_int) pe_int (nomark _)) (pss_one (ps_ret (pe_tup (pa_cons pe_str (pa_cons (pe_ix (r := rIxL K) ix_list (pe_lst (pa_cons (pe_un un_neg pe_int) (pa_cons (pe_op op_pow pe_int pe_int) (pa_cons (pe_un un_neg (pe_op op_pow pe_int pe_int)) pa_nil)))) (pe_op op_mod (pv 0) pe_int) (fun _ _ => rfl)) pa_nil))))) (pss_nil))
      (pss_one (ps_ret (pe_tup (pa_cons pe_str (pa_cons (pe_op op_sub (pe_op op_mod (pv 1) (pe_op op_add (pv 3) pe_int)) (pe_callTy call_int1 (by rfl) T.int PyProof.Rows.boot_int (pa_cons (pe_cmpR op_eq (pe_op op_mod (pv 1) pe_int) pe_int (nomark _)) pa_nil))) pa_nil)))))), ?_⟩
    have fin : ∀ (a : Bool) (x : Int) (H1 : Hp), Same H H1 → 2 ≤ sizeLine ∧ ∀ t, H1 t = none → Q (.ref t) (L2.upd H1 t (.tup [kd a, .int x])) := fun a x H1 s1 => ⟨by omega, fun t ht => k t a x _ upd_same (s1.put (s1.free ht))⟩
    refine seq_join (fun σ' H' => σ' = [some (.int c), some (.int m), some (.int (e : Nat)), some (.int (p : Nat))] ∧ H' = H) ?_ fun rest => ?_
    · rintro σ' H' ⟨rfl, rfl⟩
      refine ⟨_, rfl, _, _, rfl, rfl, (by show (0 : Int) < 11; decide), rfl, _, rfl, ?_⟩
      refine ite2 (fun h2 => ?_) (fun h2 => ?_)
      · refine ⟨_, rfl, _, _, rfl, rfl, ⟨by decide, by decide, by decide⟩, _, _, rfl, rfl, ⟨by decide, by decide, by decide⟩, _, rfl, (by show 3 ≤ sizeLine; omega), fun l hl => ?_⟩
        have s1 : Same H' _ := (Same.refl H').put hl (o := .lst [.int (-2), .int (10 ^ (20 : Int).toNat), .int (-(10 ^ (20 : Int).toNat))])
        refine ⟨_, rfl, _, _, rfl, rfl, (by show (0 : Int) < 3; decide), l, _, _, _, rfl, rfl, .of upd_same, at_mod (zs := [-2, 10 ^ (20 : Int).toNat, -(10 ^ (20 : Int).toNat)]) (k := 3) (by decide) rfl, ?_⟩
        exact fin false _ _ s1
      · refine ⟨_, rfl, _, rfl, _, _, rfl, rfl, _, _, rfl, rfl, (by show (0 : Int) < (p : Int) + 2; omega), _, rfl, _, _, rfl, rfl, (by show (0 : Int) < 7; decide), rfl, .inr ⟨_, rfl, _, _, rfl, rfl, ?_⟩⟩
        exact fin false _ _ (Same.refl H')
    refine ⟨_, rfl, _, _, rfl, rfl, _, rfl, ?_⟩
    refine ite2 (fun h0 => ?_) (fun h0 => ?_)
    · have h0' := of_decide_eq_true h0
      refine ⟨_, rfl, _, _, rfl, rfl, (by show (0 : Int) < 3; decide), _, _, rfl, rfl, _, rfl, ?_⟩
      refine ite2 (fun h1 => ?_) (fun h1 => rest _ _ ⟨rfl, rfl⟩)
      refine ⟨_, rfl, _, _, rfl, rfl, (by show (0 : Int) < 7; decide), rfl, _, rfl, ?_⟩
      refine ite2 (fun h2 => ?_) (fun h2 => ?_)
      · refine ⟨_, rfl, _, rfl, _, rfl, _, _, rfl, rfl, ⟨by decide, by decide, by decide⟩, (by show 4 ≤ sizeLine; omega), fun l hl => ?_⟩
        have s1 : Same H _ := (Same.refl H).put hl (o := .lst [.int (-1), .int (e : Nat), .int (-2), .int (10 ^ (20 : Int).toNat)])
        refine ⟨_, rfl, _, _, rfl, rfl, (by show (0 : Int) < 4; decide), l, _, _, _, rfl, rfl, .of upd_same, at_mod (zs := [-1, (e : Nat), -2, 10 ^ (20 : Int).toNat]) (k := 4) (by decide) rfl, ?_⟩
        exact fin true _ _ s1
      · refine ⟨_, rfl, _, rfl, _, _, rfl, rfl, (by show (0 : Int) < (e : Int); omega), ?_⟩
        exact fin true _ _ (Same.refl H)
    · exact rest _ _ ⟨rfl, rfl⟩
theorem scDeeds : FnScope ["_law_cells", "_law_asked", "_law_ends", "_law_points", "_law_k", "_law_way", "_law_one", "_law_more", "_law_other"] ["_law_cells"] (defScope sDeeds) := ⟨rfl, rfl, rfl, by decide +kernel, rfl, by decide +kernel, by decide +kernel⟩
set_option maxHeartbeats 4000000 in
theorem ok_deeds {f : Addr} {fd : FuncData} (F : Fun K "_law_deeds" "_law_deeds" sDeeds f fd) (T : Txt mg) (DS : Def P w K mg base "_law_spot_by" 1 ["_law_cell", "_law_more", "_law_ends", "_law_points"] spSpotBy) : FnOk P w K mg base CX0 2 f fd ["_law_cells"] (spDeeds K) := by
  refine F.ok scDeeds (fun vs H Q E h => ?_) (fun cdv A outer s H vs Q E hr1 h => ?_)
  · obtain ⟨a, cs, rfl, _⟩ := h
    rfl
  · obtain ⟨a, cs, rfl, hS, hcs, k⟩ := h
    have hs : sizeLine = 16777216 := sizeLine_eq
    have nd := scDeeds.nd
    refine ⟨_, pss_cons (ps_set (i := 1) nd rfl (Or.inl rfl) (pe_lst pa_nil))
      (pss_cons (ps_set (i := 2) nd rfl (Or.inl rfl) pe_int)
      (pss_cons (ps_set (i := 3) nd rfl (Or.inl rfl) pe_int)
      (pss_cons (ps_for PassesOwn.never rfl (pi_range3 (by rfl) T.range (pa_cons pe_int (pa_cons (pe_op op_sub (pe_callB call_len_seq (by rfl) T.len PySem.boot_len (pa_cons (pv 0) pa_nil)) pe_int) (pa_cons pe_int pa_nil)))) (pg_name (i := 4) nd rfl (Or.inl rfl)) (pss_cons (ps_set (i := 5) nd rfl (Or.inl rfl) (pe_op op_mod (pe_ix ix_list (pv 0) (pv 4) (fun _ _ => rfl)) pe_int))
      (pss_one (ps_if (pw_or (pt_cmpR op_lt (pv 5) pe_int (nomark _)) (pw_or1 (pt_cmpR op_eq (pv 3) pe_int (nomark _)))).pt (pss_cons (ps_expr (pe_bm PySem.F.plainAttrs_list PySem.F.slot_list_append PySem.F.type_list_append mt_append (pv 1) (pa_cons (pe_tup (pa_cons pe_str pa_nil)) pa_nil)))
      (pss_one (ps_set (i := 3) nd rfl (Or.inl rfl) (pe_op op_add (pv 3) pe_int)))) (pss_one (ps_if (pt_cmpR op_lt (pv 5) pe_int (nomark _)) (pss_cons (ps_set (i := 6) nd rfl (Or.inl rfl) (pcall DS hr1 (pa_cons (pe_ix ix_list (pv 0) (pe_op op_add (pv 4) pe_int) (fun _ _ => rfl)) (pa_cons (pe_op op_add (pe_ix ix_list (pv 0) (pe_op op_add (pv 4) pe_int) (fun _ _ => rfl)) (pv 4)) (pa_cons (pv 2) (pa_cons (pv 3) pa_nil))))))
      (pss_cons (ps_set (i := 7) nd rfl (Or.inl rfl) (pe_op op_add (pe_ix ix_list (pv 0) (pe_op op_add (pv 4) pe_int) (fun _ _ => rfl)) (pe_ix ix_list (pv 0) (pv 4) (fun _ _ => rfl))))
      (pss_cons (ps_set (i := 8) nd rfl (Or.inl rfl) (pcall DS hr1 (pa_cons (pe_ix ix_list (pv 0) (pe_op op_add (pv 4) pe_int) (fun _ _ => rfl)) (pa_cons (pv 7) (pa_cons (pv 2) (pa_cons (pv 3) pa_nil))))))
      (pss_cons (ps_if (pt_cmpR op_eq (pe_op op_mod (pe_ix ix_list (pv 0) (pv 4) (fun _ _ => rfl)) pe_int) pe_int (nomark _)) (pss_one (ps_set (i := 6) nd rfl (Or.inl rfl) (pe_tup (pa_cons pe_str (pa_cons (pe_op op_sub (pv 3) pe_int) pa_nil))))) (pss_nil))
      (pss_cons (ps_if (pt_cmpR op_eq (pe_op op_mod (pe_ix ix_list (pv 0) (pv 4) (fun _ _ => rfl)) pe_int) pe_int (nomark _)) (pss_one (ps_set (i := 8) nd rfl (Or.inl rfl) (pv 6))) (pss_nil))
      (pss_cons (ps_expr (pe_bm PySem.F.plainAttrs_list PySem.F.slot_list_append PySem.F.type_list_append mt_append (pv 1) (pa_cons (pe_tup (pa_cons pe_str (pa_cons (pv 6) (pa_cons (pv 8) pa_nil)))) pa_nil)))
      (pss_one (ps_set (i := 2) nd rfl (Or.inl rfl) (pe_op op_add (pv 2) (pe_op op_mul pe_int (pe_callTy call_int1 (by rfl) T.int PyProof.Rows.boot_int (pa_cons (pe_and (pe_cmpR op_ge (pe_ix (r := rIxT K) ix_tup (pv 6) pe_int (fun _ _ => rfl)) pe_int (nomark _)) (pe_one (pe_cmpR op_ge (pe_ix (r := rIxT K) ix_tup (pv 8) pe_int (fun _ _ => rfl)) pe_int (nomark _)))) pa_nil)))))))))))) (pss_one (ps_expr (pe_bm PySem.F.plainAttrs_list PySem.F.slot_list_append PySem.F.type_list_append mt_append (pv 1) (pa_cons (pe_tup (pa_cons pe_str pa_nil)) pa_nil))))))))))
      (pss_one (ps_ret (pe_op op_cat (pv 1) (pe_lst (pa_cons (pe_tup (pa_cons pe_str pa_nil)) pa_nil)))))))), ?_⟩
    refine ⟨Nat.zero_le _, fun l hl => ?_⟩
    have s0 : Same H (L2.upd H l (.lst [])) := (Same.refl H).put hl
    have g0 := upd_same (H := H) (a := l) (o := .lst [])
    generalize L2.upd H l (.lst []) = H0 at s0 g0 ⊢
    refine ⟨_, rfl, a, _, rfl, .inl (s0.seq hS), _, _, rfl, rfl, _, _, _, rfl, ⟨by decide, by decide, by rw [List.length_map]; omega, by rw [List.length_map]; omega, by decide, by decide⟩,
      for_rangeS (fun i σ H2 => ∃ (zs : List V) (ds : List Deed) (e p : Nat) (v4 v5 v6 v7 v8 : Option V), σ = [some (.ref a), some (.ref l), some (.int (e : Nat)), some (.int (p : Nat)), v4, v5, v6, v7, v8] ∧ Same H H2 ∧ H2 l = some (.lst zs) ∧ DeedsAt H2 zs ds ∧ ds.length ≤ i) ⟨[], [], 0, 0, none, none, none, none, none, rfl, s0, g0, ⟨rfl, fun i v d e => by simp at e⟩, Nat.le_refl _⟩ ?_ ?_⟩
    · rintro i σ H2 hi ⟨zs, ds, e, p, v4, v5, v6, v7, v8, rfl, s2, g2l, hd, hdl⟩
      have hi3 : 3 * i + 2 < cs.length := by
        rw [List.length_map] at hi
        unfold Builtin.Range.rangeSize at hi
        split at hi <;> split at hi <;> omega
      have hS2 : SqL K H2 a (cs.map V.int) := s2.seq hS
      have hzl : zs.length < 100 := by rw [hd.1]; omega
      refine ⟨_, rfl, _, rfl, a, _, _, _, rfl, rfl, hS2, int_at (i := 3 * i) (by omega) (by omega), _, _, rfl, rfl, (by show (0 : Int) < 8; decide), ?_⟩
      dsimp only [gName]
      -- an answer more
      have more : ∀ {H3 : Hp} {t : Addr} {d : Deed}, Same H H3 → H3 l = some (.lst zs) → DeedsAt H3 zs ds → DeedAt H3 (.ref t) d → ∀ (e' p' : Nat) (w4 w5 w6 w7 w8 : Option V), ∃ (zs' : List V) (ds' : List Deed) (e p : Nat) (v4 v5 v6 v7 v8 : Option V), ([some (.ref a), some (.ref l), some (.int (e' : Nat)), some (.int (p' : Nat)), w4, w5, w6, w7, w8] : St) = [some (.ref a), some (.ref l), some (.int (e : Nat)), some (.int (p : Nat)), v4, v5, v6, v7, v8] ∧
          Same H (L2.upd H3 l (.lst (zs ++ [.ref t]))) ∧ L2.upd H3 l (.lst (zs ++ [.ref t])) l = some (.lst zs') ∧ DeedsAt (L2.upd H3 l (.lst (zs ++ [.ref t]))) zs' ds' ∧ ds'.length ≤ i + 1 := fun {H3 t d} s3 g3 h3 hd3 e' p' w4 w5 w6 w7 w8 =>
        ⟨zs ++ [.ref t], ds ++ [d], e', p', w4, w5, w6, w7, w8, rfl, s3.put hl, upd_same, h3.snoc g3 hd3, by rw [List.length_append]; show ds.length + 1 ≤ _; omega⟩
      -- a deed of one word
      have word : ∀ (x : Str) (d : Deed), (∀ (H3 : Hp) (t : Addr), H3 t = some (.tup [.str x]) → DeedAt H3 (.ref t) d) → ∀ (t : Addr), H2 t = none → Same H (L2.upd H2 t (.tup [.str x])) ∧ (L2.upd H2 t (.tup [.str x])) l = some (.lst zs) ∧ DeedsAt (L2.upd H2 t (.tup [.str x])) zs ds ∧ DeedAt (L2.upd H2 t (.tup [.str x])) (.ref t) d := fun x d mk t ht => by
        have st : Same H2 (L2.upd H2 t (.tup [.str x])) := (Same.refl H2).put ht
        exact ⟨s2.trans st, st _ _ g2l, hd.same st, mk _ _ upd_same⟩
      refine ⟨_, rfl, _, _, rfl, rfl, _, rfl, ?_⟩
      have pway : ∀ t, H2 t = none → _ := word "point" .pt (fun H3 t q => ⟨t, rfl, q⟩)
      refine ite2 (fun h0 => ?_) (fun h0 => ?_)
      · refine iteT ?_
        refine ⟨_, rfl, .inl ⟨rfl, _, .of g2l⟩, (by show 1 ≤ sizeLine; omega), fun t ht => ?_⟩
        obtain ⟨w1, w2, w3, w4⟩ := pway t ht
        refine ⟨l, zs, _, rfl, rfl, w2, by omega, _, rfl, _, _, rfl, rfl, ?_⟩
        exact more w1 w2 w3 w4 e (p + 1) _ _ _ _ _
      · refine ⟨_, rfl, rfl, _, rfl, ?_⟩
        refine ite2 (fun h1 => ?_) (fun h1 => ?_)
        · refine ⟨_, rfl, .inl ⟨rfl, _, .of g2l⟩, (by show 1 ≤ sizeLine; omega), fun t ht => ?_⟩
          obtain ⟨w1, w2, w3, w4⟩ := pway t ht
          refine ⟨l, zs, _, rfl, rfl, w2, by omega, _, rfl, _, _, rfl, rfl, ?_⟩
          exact more w1 w2 w3 w4 e (p + 1) _ _ _ _ _
        · refine ⟨_, rfl, _, _, rfl, rfl, _, rfl, ?_⟩
          refine ite2 (fun h2 => ?_) (fun h2 => ?_)
          · refine ⟨_, rfl, _, rfl, _, _, rfl, rfl, a, _, _, _, rfl, rfl, hS2, int_at (i := 3 * i + 1) (by omega) (by omega), _, rfl, _, rfl, _, _, rfl, rfl, a, _, _, _, rfl, rfl, hS2, int_at (i := 3 * i + 2) (by omega) (by omega), _, rfl, _, _, rfl, rfl, _, rfl, _, rfl, _, _, e, p, rfl, fun t1 a1 x1 H3 g1 s3 => ?_⟩
            have hS3 := (s2.trans s3).seq hS
            refine ⟨_, rfl, _, rfl, _, _, rfl, rfl, a, _, _, _, rfl, rfl, hS3, int_at (i := 3 * i + 1) (by omega) (by omega), _, rfl, _, rfl, a, _, _, _, rfl, rfl, hS3, int_at (i := 3 * i) (by omega) (by omega), _, _, rfl, rfl, ?_⟩
            refine ⟨_, rfl, _, rfl, _, _, rfl, rfl, a, _, _, _, rfl, rfl, hS3, int_at (i := 3 * i + 2) (by omega) (by omega), _, rfl, _, rfl, _, rfl, _, _, e, p, rfl, fun t2 a2 x2 H4 g2 s4 => ?_⟩
            have s34 := s3.trans s4
            have s24 := s2.trans s34
            have hS4 := s24.seq hS
            have gl4 := s34 _ _ g2l
            have hd4 := hd.same s34
            dsimp only [gName]
            refine seq_join (fun σ' H' => ∃ (t1 : Addr) (a1 : Bool) (x1 : Int) (mm : Option V), σ' = [some (.ref a), some (.ref l), some (.int (e : Nat)), some (.int (p : Nat)), some (.int (0 + (i : Int) * 3)), some (.int (cs.getD (3 * i) 0 % 8)), some (.ref t1), mm, some (.ref t2)] ∧ H' t1 = some (.tup [kd a1, .int x1]) ∧ Same H4 H') ?_ fun rest => ?_
            · rintro σ' H5 ⟨t1, a1, x1, mm, rfl, g1, s5⟩
              have hS5 := s5.seq hS4
              refine seq_join (fun σ' H' => ∃ (t2 : Addr) (a2 : Bool) (x2 : Int) (mm : Option V), σ' = [some (.ref a), some (.ref l), some (.int (e : Nat)), some (.int (p : Nat)), some (.int (0 + (i : Int) * 3)), some (.int (cs.getD (3 * i) 0 % 8)), some (.ref t1), mm, some (.ref t2)] ∧ H' t2 = some (.tup [kd a2, .int x2]) ∧ H' = H5) ?_ fun rest => ?_
              · rintro σ' H6 ⟨t2, a2, x2, mm, rfl, g2, rfl⟩
                refine ⟨_, rfl, .inl ⟨rfl, _, .of (s5 _ _ gl4)⟩, _, rfl, _, rfl, (by show 3 ≤ sizeLine; omega), fun t ht => ?_⟩
                have s7 : Same H6 (L2.upd H6 t (.tup [.str "tie", .ref t1, .ref t2])) := (Same.refl H6).put ht
                have g7 := upd_same (H := H6) (a := t) (o := .tup [.str "tie", .ref t1, .ref t2])
                generalize L2.upd H6 t (.tup [.str "tie", .ref t1, .ref t2]) = H7 at s7 g7 ⊢
                have gl7 := s7 _ _ (s5 _ _ gl4)
                refine ⟨l, zs, _, rfl, rfl, gl7, by omega, ?_⟩
                have fin := fun (e' : Nat) (w4 w5 w6 w7 w8 : Option V) => more ((s24.trans s5).trans s7) gl7 ((hd4.same s5).same s7) (t := t) (d := .tie a1 x1 a2 x2) ⟨t, _, _, rfl, g7, ⟨t1, rfl, s7 _ _ g1⟩, ⟨t2, rfl, s7 _ _ g2⟩⟩ e' p w4 w5 w6 w7 w8
                have n1 : t1 ≠ l := fun z => by have := s7 _ _ g1; rw [z, gl7] at this; cases this
                have n2 : t2 ≠ l := fun z => by have := s7 _ _ g2; rw [z, gl7] at this; cases this
                have q1 : (L2.upd H7 l (.lst (zs ++ [.ref t]))) t1 = some (.tup [kd a1, .int x1]) := by rw [upd_ne n1]; exact s7 _ _ g1
                have q2 : (L2.upd H7 l (.lst (zs ++ [.ref t]))) t2 = some (.tup [kd a2, .int x2]) := by rw [upd_ne n2]; exact s7 _ _ g2
                generalize L2.upd H7 l (.lst (zs ++ [.ref t])) = H8 at fin q1 q2 ⊢
                refine ⟨_, rfl, _, rfl, t1, _, _, _, rfl, rfl, .of q1, atI_nat (j := 1) rfl, _, _, rfl, rfl, _, rfl, ?_⟩
                refine ite2 (fun _ => ?_) (fun _ => ?_)
                · refine ⟨_, rfl, t2, _, _, _, rfl, rfl, .of q2, atI_nat (j := 1) rfl, _, _, rfl, rfl, .inr ⟨_, rfl, _, _, rfl, rfl, .inl ⟨by decide, by decide⟩, _, _, rfl, rfl, ?_⟩⟩
                  cases decide ((0 : Int) ≤ x2) with
                  | true => exact fin (e + 2) _ _ _ _ _
                  | false => exact fin e _ _ _ _ _
                · refine .inr ⟨_, rfl, _, _, rfl, rfl, .inl ⟨by decide, by decide⟩, _, _, rfl, rfl, ?_⟩
                  exact fin e _ _ _ _ _
              · refine ⟨_, rfl, _, rfl, a, _, _, _, rfl, rfl, hS5, int_at (i := 3 * i) (by omega) (by omega), _, _, rfl, rfl, (by show (0 : Int) < 5; decide), rfl, _, rfl, ?_⟩
                refine ite2 (fun _ => ?_) (fun _ => ?_)
                · exact ⟨_, rfl, rest _ _ ⟨t1, a1, x1, _, rfl, g1, rfl⟩⟩
                · exact rest _ _ ⟨t2, a2, x2, _, rfl, s5 _ _ g2, rfl⟩
            · refine ⟨_, rfl, _, rfl, a, _, _, _, rfl, rfl, hS4, int_at (i := 3 * i) (by omega) (by omega), _, _, rfl, rfl, (by show (0 : Int) < 5; decide), rfl, _, rfl, ?_⟩
              refine ite2 (fun _ => ?_) (fun _ => ?_)
              · refine ⟨_, rfl, _, _, rfl, rfl, (by show 2 ≤ sizeLine; omega), fun t ht => ?_⟩
                exact rest _ _ ⟨t, false, _, _, rfl, upd_same, (Same.refl H4).put ht⟩
              · exact rest _ _ ⟨t1, a1, x1, _, rfl, s4 _ _ g1, Same.refl H4⟩
          · refine ⟨_, rfl, .inl ⟨rfl, _, .of g2l⟩, (by show 1 ≤ sizeLine; omega), fun t ht => ?_⟩
            obtain ⟨w1, w2, w3, w4⟩ := word "look" .look (fun H3 t q => ⟨t, rfl, q⟩) t ht
            refine ⟨l, zs, _, rfl, rfl, w2, by omega, ?_⟩
            exact more w1 w2 w3 w4 e p _ _ _ _ _
    · rintro σ H2 ⟨zs, ds, e, p, v4, v5, v6, v7, v8, rfl, s2, g2, hd, hdl⟩
      have hN : 3 * (Builtin.Range.rangeSize 0 (((cs.map V.int).length : Int) - 2) 3).toNat ≤ cs.length := by
        rw [List.length_map]
        unfold Builtin.Range.rangeSize
        split <;> split <;> omega
      refine ⟨_, rfl, (by show 1 ≤ sizeLine; omega), fun t ht => ?_⟩
      have st : Same H2 (L2.upd H2 t (.tup [.str "look"])) := (Same.refl H2).put ht
      have gt := upd_same (H := H2) (a := t) (o := .tup [.str "look"])
      generalize L2.upd H2 t (.tup [.str "look"]) = H3 at st gt ⊢
      refine ⟨(by show 1 ≤ sizeLine; omega), fun u hu => ?_⟩
      have su : Same H3 (L2.upd H3 u (.lst [.ref t])) := (Same.refl H3).put hu
      have gu := upd_same (H := H3) (a := u) (o := .lst [.ref t])
      generalize L2.upd H3 u (.lst [.ref t]) = H4 at su gu ⊢
      have s4 := (s2.trans st).trans su
      have g4 := su _ _ (st _ _ g2)
      refine ⟨l, u, _, _, rfl, rfl, g4, gu, (by show zs.length + 1 ≤ _; have := hd.1; omega), fun m hm => ?_⟩
      have sm : Same H4 (L2.upd H4 m (.lst (zs ++ [.ref t]))) := (Same.refl H4).put hm
      have h5 := (((hd.same st).same su).same sm).snoc (o := .lst zs) (sm _ _ g4) (v := .ref t) (d := .look) ⟨t, rfl, sm _ _ (su _ _ gt)⟩
      rw [upd_id (sm _ _ g4)] at h5
      exact k m _ _ _ (s4.free hm) upd_same h5 (by rw [List.length_append]; show ds.length + 1 ≤ _; omega) (s4.put (s4.free hm))
end
end Ink
namespace Ink
open PySem L2
def spLaw (K : PySem.W.Frag) : Sp := fun vs H Q _ => ∃ (a : Addr) (ns : List Int), vs = [.ref a] ∧ SqL K H a (ns.map V.int) ∧ ns.length ≤ 63 ∧ ∀ H', Q (.bl true) H'
theorem cut_intsK (ns : List Int) (k : Nat) : cutV (ns.map V.int) none (some (k : Int)) = (ns.take k).map V.int := by
  unfold cutV
  rw [HT.sIx_nat, HT.sIx_none, List.length_map, Nat.sub_zero, List.drop_zero, ← List.map_take]
  by_cases h : k ≤ ns.length
  · rw [Nat.min_eq_left h]
  · rw [Nat.min_eq_right (by omega), List.take_of_length_le (Nat.le_refl _), List.take_of_length_le (by omega)]
theorem Told.eqs {H : Hp} {u v : V} {rs : Rs} {n : Nat} (h : Told H u rs n) (h' : Told H v rs n) : Eqs H u v := by
  obtain ⟨t, F, C, rfl, c, q⟩ := h
  obtain ⟨t', F', C', rfl, c', q'⟩ := h'
  obtain ⟨rfl, rfl⟩ := c.uniq c'
  exact .tup (r := [(C : Int), ((F + aln rs : Nat) : Int), hnd rs n (F + aln rs) C]) q q' (by show 3 ≤ 1000; decide)
theorem Told.noStr {H : Hp} {v : V} {rs : Rs} {n : Nat} (h : Told H v rs n) : ∀ s, v ≠ .str s := by
  obtain ⟨t, F, C, rfl, c, q⟩ := h
  intro s z
  cases z
theorem AnsAt.eqs {H : Hp} {u v : V} {st : Rs × Nat} {d : Deed} (hl : st.1.length ≤ 1000) (h : AnsAt H u st d) (h' : AnsAt H v st d) : Eqs H u v := by
  cases d with
  | pt => rw [show u = _ from h, show v = _ from h']; exact .int _
  | look =>
    obtain ⟨p, ps, rfl, R⟩ := h
    obtain ⟨q, qs, rfl, R'⟩ := h'
    exact .rows R R' hl
  | tie a x b y =>
    rcases h with ⟨c, h⟩ | ⟨c, h⟩
    · rcases h' with ⟨_, h'⟩ | ⟨c', _⟩
      · exact h.eqs h'
      · rw [c] at c'; cases c'
    · rcases h' with ⟨c', _⟩ | ⟨_, h'⟩
      · rw [c] at c'; cases c'
      · rw [h, h']; exact .str _
theorem HandAt.eqs {H : Hp} {u v : V} {st : Rs × Nat} {d : Deed} (hl : st.1.length ≤ 1000) (h : HandAt H u st d) (h' : AnsAt H v st d) : (∃ t, u = .ref t ∧ v = .str "no end" ∧ H t = some (.tup [.str "refused", .str "no end"])) ∨ (Eqs H u v ∧ ∀ s, v ≠ .str s) := by
  cases d with
  | pt => rw [show u = _ from h, show v = _ from h']; exact .inr ⟨.int _, fun s z => by cases z⟩
  | look =>
    obtain ⟨p, ps, rfl, R⟩ := h
    obtain ⟨q, qs, rfl, R'⟩ := h'
    exact .inr ⟨.rows R R' hl, fun s z => by cases z⟩
  | tie a x b y =>
    rcases h with ⟨c, h⟩ | ⟨c, t, rfl, q⟩
    · rcases h' with ⟨_, h'⟩ | ⟨c', _⟩
      · exact .inr ⟨h.eqs h', h'.noStr⟩
      · rw [c] at c'; cases c'
    · rcases h' with ⟨c', _⟩ | ⟨_, h'⟩
      · rw [c] at c'; cases c'
      · exact .inl ⟨t, rfl, h', q⟩
theorem made_same {C x dx : Addr} {H H1 : Hp} (nx : H x = none) (ndx : H dx = none) (kp : SameB x (L2.upd (L2.upd H dx (.own x)) x (.ins C dx [])) H1) : Same H H1 := fun b o e => kp b o (by
  rw [upd_ne (ne_of_none e nx), upd_ne (ne_of_none e ndx)]
  exact e) (ne_of_none e nx)
theorem PaperAt.sameB {C x y r : Addr} {ps : List Addr} {rs : Rs} {H H' : Hp} {D dz : Addr} {fs : List (Str × V)} (h : PaperAt C H x r ps rs) (hy : H y = some (.ins D dz fs)) (n : x ≠ y) (s : SameB y H H') : PaperAt C H' x r ps rs :=
  ⟨let ⟨dx, e⟩ := h.ob; ⟨dx, s _ _ e n⟩, h.rows.sameB hy s⟩
section
variable {P : Program} {w : World} {K : PySem.W.Frag} {mg : Str → Option Value} {base : Heap}
theorem scLaw : FnScope ["_law_script", "_law_asked", "_law_handed", "_law_found", "_law_paper", "_law_second", "_law_rounds", "_law_told", "_law_k", "_law_due"] ["_law_script"] (defScope sLaw) := ⟨rfl, rfl, rfl, by decide +kernel, rfl, by decide +kernel, by decide +kernel⟩
set_option maxHeartbeats 8000000 in
theorem ok_law {f C : Addr} {fd : FuncData} (F : Fun K "law" "law" sLaw f fd) (T : Txt mg) (T3 : Txt3 mg) (TP : TxtP K C) (DU : Def P w K mg base "_law_upto" 1 ["_law_script", "_law_small", "_law_great"] (spUpto K)) (DD : Def P w K mg base "_law_deeds" 2 ["_law_cells"] (spDeeds K))
    (DA : Def P w K mg base "answers" 9 ["deeds"] (spAnswers K)) (MK : MkDef P w K mg base "Paper" C 1 ["self"] (spInit C)) (MP : MDef P w K mg base C "put_point" 1 ["self"] (spPoint C)) (ML : MDef P w K mg base C "look" 1 ["self"] (spLook C))
    (DK : Def P w K mg base "_law_alike" 3 ["_law_found", "_law_due"] spAlike) (DL : Def P w K mg base "_law_like" 1 ["_law_found", "_law_due"] spLike) (DT : Def P w K mg base "_law_told_by" 8 ["_law_paper", "_law_deed"] (spToldBy C))
    (DO : Def P w K mg base "_law_due_of" 4 ["_law_rounds", "_law_deed"] spDueOf) (DH : Def P w K mg base "_law_hand_is" 4 ["_law_told", "_law_due"] spHandIs) : FnOk P w K mg base CX0 10 f fd ["_law_script"] (spLaw K) := by
  refine F.ok scLaw (fun vs H Q E h => ?_) (fun cdv A outer s H vs Q E hr9 h => ?_)
  · obtain ⟨a, ns, rfl, _⟩ := h
    rfl
  · obtain ⟨a, ns, rfl, hS, hns, k⟩ := h
    have hs : sizeLine = 16777216 := sizeLine_eq
    have nd := scLaw.nd
    have hr1 : Room 1 _ := hr9.mono (by decide)
    have hr2 : Room 2 _ := hr9.mono (by decide)
    have hr3 : Room 3 _ := hr9.mono (by decide)
    have hr4 : Room 4 _ := hr9.mono (by decide)
    have hr8 : Room 8 _ := hr9.mono (by decide)
    refine ⟨_, pss_cons (ps_set (i := 0) nd rfl (Or.inl rfl) (pe_slice sl_list (pv 0) po_none (po_some pe_int)))
      (pss_cons (ps_set (i := 1) nd rfl (Or.inl rfl) (pcall DD hr2 (pa_cons (pe_slice sl_list (pv 0) po_none (po_some (pcall DU hr1 (pa_cons (pv 0) (pa_cons pe_int (pa_cons pe_int pa_nil)))))) pa_nil)))
      (pss_cons (ps_set (i := 2) nd rfl (Or.inl rfl) (pe_callTy (r := rLof K) call_list_of (by rfl) T.list PyProof.Rows.boot_list (pa_cons (pv 1) pa_nil)))
      (pss_cons (ps_set (i := 3) nd rfl (Or.inl rfl) (pcall DA hr9 (pa_cons (pv 2) pa_nil)))
      (pss_cons (ps_set (i := 4) nd rfl (Or.inr rfl) (pmake0 MK hr2))
      (pss_cons (ps_set (i := 5) nd rfl (Or.inl rfl) (pmake0 MK hr2))
      (pss_cons (ps_if (pt_not (pt_val (pcall DK hr3 (pa_cons (pmeth0 MP TP.cl hr1 (pv 5)) (pa_cons pe_int pa_nil))))) (pss_one (ps_ret pe_bl)) (pss_nil))
      (pss_cons (ps_set (i := 6) nd rfl (Or.inl rfl) (pe_lst pa_nil))
      (pss_cons (ps_if (pw_or (pt_not (pt_val (pcall DL hr1 (pa_cons (pv 2) (pa_cons (pv 1) pa_nil))))) (pw_or (pt_not (pt_val (pe_callB call_isi (by rfl) T.isi PyProof.Rows.boot_isinstance (pa_cons (pv 3) (pa_cons (pe_bltn (v := .ty "list") (by rfl) T.list PyProof.Rows.boot_list rfl) pa_nil))))) (pw_or1 (pt_cmpR op_ne (pe_callB call_len_seq (by rfl) T.len PySem.boot_len (pa_cons (pv 3) pa_nil)) (pe_callB call_len_seq (by rfl) T.len PySem.boot_len (pa_cons (pv 1) pa_nil)) (nomark _))))).pt (pss_one (ps_ret pe_bl)) (pss_nil))
      (pss_cons (ps_setComp (i0 := 7) (te := _) nd rfl (Or.inl rfl) rfl (Blk.captN (caps := [4]) ["_law_script", "_law_asked", "_law_handed", "_law_found", "_law_paper", "_law_second", "_law_rounds", "_law_told", "_law_k", "_law_due"] (defScope sLaw).names rfl rfl rfl (by decide +kernel) (by decide +kernel) (by decide +kernel)) (pi_list (pv 1)) (fun _ _ _ _ => pts_nil) (fun _ _ _ _ => (pcall DT hr8 (pa_cons (pv 1) (pa_cons (pv 0) pa_nil)))))
      (pss_cons (ps_for PassesOwn.never rfl (pi_range1 (by rfl) T.range (pa_cons (pe_callB call_len_seq (by rfl) T.len PySem.boot_len (pa_cons (pv 1) pa_nil)) pa_nil)) (pg_name (i := 8) nd rfl (Or.inl rfl)) (pss_cons (ps_set (i := 9) nd rfl (Or.inl rfl) (pcall DO hr4 (pa_cons (pv 6) (pa_cons (pe_ix ix_list (pv 1) (pv 8) (fun _ _ => rfl)) pa_nil))))
      (pss_one (ps_if (pw_or (pt_not (pt_val (pcall DK hr3 (pa_cons (pe_ix ix_list (pv 3) (pv 8) (fun _ _ => rfl)) (pa_cons (pv 9) pa_nil))))) (pw_or1 (pt_not (pt_val (pcall DH hr4 (pa_cons (pe_ix ix_list (pv 7) (pv 8) (fun _ _ => rfl)) (pa_cons (pv 9) pa_nil))))))).pt (pss_one (ps_ret pe_bl)) (pss_nil)))))
      (pss_one (ps_ret (pcall DK hr3 (pa_cons (pmeth0 ML TP.cl hr1 (pv 5)) (pa_cons (pe_lst (pa_cons (pe_lst pa_nil) pa_nil)) pa_nil))))))))))))))), ?_⟩
    refine ⟨_, rfl, _, rfl, a, _, rfl, hS, fun a1 h1 => ?_⟩
    rw [show cutV (ns.map V.int) none (some 100) = (ns.take 100).map V.int from cut_intsK ns 100]
    have s1 : Same H (L2.upd H a1 (.lst ((ns.take 100).map V.int))) := (Same.refl H).put h1
    have g1 := upd_same (H := H) (a := a1) (o := .lst ((ns.take 100).map V.int))
    have hm : (ns.take 100).length ≤ 63 := by rw [List.length_take]; omega
    generalize ns.take 100 = ms at s1 g1 hm ⊢
    generalize L2.upd H a1 (.lst (ms.map V.int)) = H1 at s1 g1 ⊢
    dsimp only [gName]
    refine ⟨_, rfl, _, rfl, a1, ms, 48, 100, rfl, .of g1, hm, _, rfl, a1, _, rfl, .of g1, fun a2 h2 => ?_⟩
    rw [show cutV (ms.map V.int) none (some 48) = (ms.take 48).map V.int from cut_intsK ms 48]
    have s2 : Same H1 (L2.upd H1 a2 (.lst ((ms.take 48).map V.int))) := (Same.refl H1).put h2
    have g2 := upd_same (H := H1) (a := a2) (o := .lst ((ms.take 48).map V.int))
    generalize L2.upd H1 a2 (.lst ((ms.take 48).map V.int)) = H2 at s2 g2 ⊢
    refine ⟨a2, ms.take 48, rfl, .of g2, by rw [List.length_take]; omega, fun l zs ds H3 fl gl hd hdl s3 => ?_⟩
    refine ⟨_, rfl, l, zs, rfl, .inl (.of gl), fun h hh => ?_⟩
    have s4 : Same H3 (L2.upd H3 h (.lst zs)) := (Same.refl H3).put hh
    have gh := upd_same (H := H3) (a := h) (o := .lst zs)
    generalize L2.upd H3 h (.lst zs) = H4 at s4 gh ⊢
    refine ⟨_, rfl, h, zs, ds, rfl, .of gh, hd.same s4, by omega, fun f5 ws H5 ff gf hwl hans s5 => ?_⟩
    have s45 := s4.trans s5
    -- two papers
    intro x dx nx ndx nex
    refine ⟨x, dx, rfl, upd_same, fun r1 H6 fr1 pa1 kp1 => ⟨rfl, ?_⟩⟩
    have s6 := made_same nx ndx kp1
    intro y dy ny ndy ney
    refine ⟨y, dy, rfl, upd_same, fun r2 H7 fr2 pa2 kp2 => ⟨rfl, ?_⟩⟩
    have s7 := made_same ny ndy kp2
    obtain ⟨dx1, hx6⟩ := pa1.ob
    have nxy : x ≠ y := ne_of_none hx6 ny
    have pa1' := pa1.same s7
    obtain ⟨dy2, hy7⟩ := pa2.ob
    refine ⟨_, rfl, y, dy2, _, rfl, hy7, flds_no r2 (by decide +kernel), y, r2, [], [], rfl, pa2, by decide, fun r3 ps3 H8 pa3 ow3 sB8 => ?_⟩
    refine ⟨_, _, rfl, .int 0, fun H9 s9 => ⟨_, rfl, iteF ?_⟩⟩
    have pa1'' := (pa1'.sameB hy7 nxy sB8).same s9
    have pa3' := pa3.same s9
    have s59 : Same H5 H9 := fun b o e => s9 _ _ (sB8 b o (s7 _ _ (s6 b o e)) (fun z => by rw [z] at e; have := s6 _ _ e; rw [ny] at this; cases this))
    -- rounds
    refine ⟨Nat.zero_le _, fun L hL => ?_⟩
    have sL : Same H9 (L2.upd H9 L (.lst [])) := (Same.refl H9).put hL
    have gL := upd_same (H := H9) (a := L) (o := .lst [])
    generalize L2.upd H9 L (.lst []) = H10 at sL gL ⊢
    have sA := s59.trans sL
    have gh10 := sA _ _ (s5 _ _ gh)
    have gl10 := sA _ _ (s45 _ _ gl)
    have hd10 := (hd.same s45).same sA
    refine ⟨_, rfl, _, rfl, h, l, zs, ds, rfl, gh10, gl10, hd10, by omega, fun H11 s11 => ⟨_, rfl, iteF ?_⟩⟩
    have gf11 := s11 _ _ (sA _ _ gf)
    have gl11 := s11 _ _ gl10
    refine ⟨_, rfl, _, _, _, rfl, .ll (.of gf11), _, rfl, iteF ?_⟩
    refine ⟨_, rfl, f5, _, rfl, .inl (.of gf11), _, rfl, l, _, rfl, .inl (.of gl11), rfl, _, rfl, iteNS (by rw [hwl, hd.1]) ?_⟩
    -- told
    have pax : PaperAt C H11 x r1 [] [] := (pa1''.same sL).same s11
    have pay : PaperAt C H11 y r3 ps3 [[]] := (pa3'.same sL).same s11
    have gL11 := s11 _ _ gL
    have hd11 := hd10.same s11
    have sB11 : Same H5 H11 := sA.trans s11
    have nL5 : ∀ b o, H5 b = some o → b ≠ L := fun b o e => ne_of_none (s59 _ _ e) hL
    obtain ⟨dx11, hx11⟩ := pax.ob
    obtain ⟨dy11, hy11⟩ := pay.ob
    have nxL : x ≠ L := (ins_ne_lst hx11 gL11).symm
    have nyL : y ≠ L := (ins_ne_lst hy11 gL11).symm
    have nr3 : r3 ≠ L := ne_of_none pa3'.rows.out hL
    have nps3 : L ∉ ps3 := mem_ne pa3'.rows hL
    have nlx : l ≠ x := ins_ne_lst hx11 gl11
    refine ⟨_, rfl, l, rfl, ⟨_, .of gl11⟩, fun D hD => comp_list (xs := zs) (fun i H2 => ∃ (us : List V) (r : Addr) (ps : List Addr), SameB x H11 H2 ∧ PaperAt C H2 x r ps (stD ds i).1 ∧ r ≠ D ∧ D ∉ ps ∧ H2 D = some (.lst us) ∧ us.length = i ∧ ∀ (j : Nat) (d : Deed) (u : V), ds[j]? = some d → us[j]? = some u → HandAt (wo L (wo D H2)) u (stD ds j) d)
      ⟨[], r1, [], .of ((Same.refl H11).put hD), pax.same ((Same.refl H11).put hD), ne_of_none pax.rows.out hD, by simp, upd_same, rfl, fun j d u _ e => by simp at e⟩ (fun i H2 _ ⟨_, _, _, sB, _⟩ => .of (sB _ _ gl11 nlx)) ?_ ?_⟩
    · rintro i z H2 hi ⟨us, r, ps, sB, pa, nr, nps, gD, hul, hH⟩
      have hil := (List.getElem?_eq_some_iff.mp hi).1
      have hil' : i < ds.length := by rw [← hd.1]; exact hil
      have hdi := List.getElem?_eq_getElem hil'
      obtain ⟨k1, k2, k3⟩ := stD_ok ds i (by omega)
      obtain ⟨dx2, hx2⟩ := pa.ob
      have gL2 := sB _ _ gL11 nxL.symm
      refine yes_go ⟨_, rfl, _, rfl, x, r, ps, z, _, (stD ds i).2, ds[i], rfl, pa, k1, by omega, by omega, (hd11.2 i z _ hi hdi).sameB hx11 sB, fun u r' ps' H4 han pa4 ow s4 => ?_⟩
      have g4 : H4 D = some (.lst us) := s4 _ _ gD (ins_ne_lst hx2 gD)
      refine ⟨us, g4, by omega, us ++ [u], r', ps', ?_⟩
      obtain ⟨dx4, hx4⟩ := pa4.ob
      have nxD : x ≠ D := (ins_ne_lst hx4 g4).symm
      have nr' : r' ≠ D := fun z => by
        rcases ow.out with y | y
        · exact nr (y ▸ z)
        · rw [z, gD] at y; cases y
      have nps' : D ∉ ps' := fun z => by
        rcases ow.row D z with y | y
        · exact nps y
        · rw [gD] at y; cases y
      refine ⟨fun b o e n => ?_, ⟨⟨dx4, by rw [upd_ne nxD]; exact hx4⟩, ?_⟩, nr', nps', upd_same, by rw [List.length_append, hul]; rfl, fun j d u' e1 e2 => ?_⟩
      · rw [upd_ne (ne_of_none e hD)]
        exact s4 _ _ (sB b o e n) n
      · rw [stD_succ hdi]
        exact pa4.rows.woL nr' nps'
      · rw [wo_upd]
        by_cases hj : j < us.length
        · rw [List.getElem?_append_left hj] at e2
          have hwx : wo L (wo D H2) x = some (.ins C dx2 (flds r)) := by rw [wo_at nxL, wo_at nxD]; exact hx2
          refine (hH j d u' e1 e2).sameB hwx fun b o e n => ?_
          obtain ⟨q1, q2⟩ := wo_of e
          obtain ⟨q3, q4⟩ := wo_of q2
          rw [wo_at q1, wo_at q3]
          exact s4 b o q4 n
        · have hjl := (List.getElem?_eq_some_iff.mp e2).1
          rw [List.length_append] at hjl
          have hji : j = i := by have : [u].length = 1 := rfl; omega
          subst hji
          rw [List.getElem?_append_right (by omega), hul, Nat.sub_self] at e2
          cases e2
          rw [hdi] at e1
          cases e1
          refine han.same fun b o e => ?_
          obtain ⟨q1, q2⟩ := newIn_of e
          rw [wo_at (show b ≠ L from fun z => by rw [z, gL2] at q1; cases q1), wo_at (show b ≠ D from fun z => by rw [z, gD] at q1; cases q1)]
          exact q2
    rintro H12 ⟨us, r, ps, sB, pa, nr, nps, gD, hul, hH⟩
    have nLD : L ≠ D := ne_of_none gL11 hD
    have hB : ∀ b o, H5 b = some o → wo L H12 b = some o := fun b o e => by
      rw [wo_at (nL5 b o e)]
      exact sB b o (sB11 b o e) (ne_of_none e nx)
    have ansB : ∀ (j : Nat) (d : Deed) (u : V), ds[j]? = some d → ws[j]? = some u → AnsAt (wo L H12) u (stD ds j) d := fun j d u e1 e2 => (hans j d u e1 e2).same hB
    have handB : ∀ (j : Nat) (d : Deed) (u : V), ds[j]? = some d → us[j]? = some u → HandAt (wo L H12) u (stD ds j) d := fun j d u e1 e2 => (hH j d u e1 e2).same fun b o e => by
      obtain ⟨q1, q2⟩ := wo_of e
      rw [wo_at q1]
      exact (wo_of q2).2
    have payB : PaperAt C (wo L H12) y r3 ps3 [[]] := by
      have q := pay.sameB hx11 nxy.symm sB
      obtain ⟨dq, hq⟩ := q.ob
      exact ⟨⟨dq, by rw [wo_at nyL]; exact hq⟩, by rw [wo_at nr3]; exact q.rows.out, q.rows.nd, q.rows.len, fun i c z e1 e2 => by rw [wo_at (show c ≠ L from fun z' => nps3 (z' ▸ List.mem_of_getElem? e1))]; exact q.rows.row i c z e1 e2⟩
    have glB : wo L H12 l = some (.lst zs) := hB _ _ (s45 _ _ gl)
    have gfB : wo L H12 f5 = some (.lst ws) := hB _ _ gf
    have gDB : wo L H12 D = some (.lst us) := by rw [wo_at nLD.symm]; exact gD
    have hdB : DeedsAt (wo L H12) zs ds := (hd.same s45).same hB
    have hBL : wo L H12 L = none := by unfold wo; rw [if_pos rfl]
    have RL : Rows H12 L [] [] := ⟨sB _ _ gL11 nxL.symm, List.nodup_nil, rfl, fun i q r e => by simp at e⟩
    have hBs : Same (wo L H12) H12 := wo_same
    generalize wo L H12 = HB at ansB handB payB glB gfB gDB hdB hBL hBs
    dsimp only [gName]
    have hzl := hd.1
    refine ⟨_, rfl, l, _, rfl, .inl (.of (hBs _ _ glB)), _, rfl, by omega, by omega, ?_⟩
    rw [Int.toNat_natCast]
    refine for_range (fun i σ H2 => ∃ (v8 v9 : Option V) (psL : List Addr), σ = [some (.ref a1), some (.ref l), some (.ref h), some (.ref f5), some (.ref x), some (.ref y), some (.ref L), some (.ref D), v8, v9] ∧ Same HB H2 ∧ Rows H2 L psL (stD ds i).1 ∧ ∀ q ∈ psL, HB q = none)
      ⟨none, none, [], rfl, hBs, RL, fun q hq => by cases hq⟩ ?_ ?_
    · rintro i σ H2 hi ⟨v8, v9, psL, rfl, sb, RL, fr⟩
      have hil' : i < ds.length := by omega
      have hdi := List.getElem?_eq_getElem hil'
      have hz := List.getElem?_eq_getElem hi
      have hw := List.getElem?_eq_getElem (l := ws) (i := i) (by omega)
      have hus := List.getElem?_eq_getElem (l := us) (i := i) (by omega)
      obtain ⟨k1, k2, k3⟩ := stD_ok ds i (by omega)
      refine ⟨_, rfl, _, rfl, _, rfl, l, _, _, _, rfl, rfl, .of (sb _ _ glB), (by rw [Int.zero_add]; exact atI_nat hz), L, psL, _, _, (stD ds i).2, ds[i], rfl, RL, k1, by omega, by omega, (hdB.2 i _ _ hz hdi).same sb, fun u ps' H3 an R3 ow fr3 => ?_⟩
      have sb3 : Same HB H3 := fun c o e => fr3 c o (sb c o e) (fun z => by rw [z, hBL] at e; cases e) fun z => by rw [fr c z] at e; cases e
      dsimp only [gName]
      refine ⟨_, rfl, _, rfl, f5, _, _, _, rfl, rfl, .of (sb3 _ _ gfB), (by rw [Int.zero_add]; exact atI_nat hw), _, rfl, _, u, rfl, AnsAt.eqs (by omega) ((ansB i _ _ hdi hw).same sb3) an, fun HX sX => ⟨_, rfl, iteF ?_⟩⟩
      refine ⟨_, rfl, _, rfl, D, _, _, _, rfl, rfl, .of (sX _ _ (sb3 _ _ gDB)), (by rw [Int.zero_add]; exact atI_nat hus), _, rfl, _, u, rfl, HandAt.eqs (by omega) ((handB i _ _ hdi hus).same (sb3.trans sX)) (an.same sX), fun HY sY => ⟨_, rfl, iteF ?_⟩⟩
      refine ⟨_, _, ps', rfl, (sb3.trans sX).trans sY, ?_, fun q hq => (ow q hq).elim (fr q) fun z => sb.free z⟩
      rw [stD_succ hdi]
      exact (R3.same sX).same sY
    · rintro σ H2 ⟨v8, v9, psL, rfl, sb, RL, fr⟩
      have pay2 := payB.same sb
      obtain ⟨dq, hq⟩ := pay2.ob
      refine ⟨_, rfl, y, dq, _, rfl, hq, flds_no r3 (by decide +kernel), y, r3, ps3, [[]], rfl, pay2, by decide, fun p' ps' H3 R3 s3' f1 f2 => ?_⟩
      refine ⟨Nat.zero_le _, fun m1 hm1 => ?_⟩
      have t1 : Same H3 (L2.upd H3 m1 (.lst [])) := (Same.refl H3).put hm1
      have u1 := upd_same (H := H3) (a := m1) (o := .lst [])
      generalize L2.upd H3 m1 (.lst []) = HX at t1 u1 ⊢
      refine ⟨(by show 1 ≤ sizeLine; omega), fun m2 hm2 => ?_⟩
      have t2 : Same HX (L2.upd HX m2 (.lst [.ref m1])) := (Same.refl HX).put hm2
      have u2 := upd_same (H := HX) (a := m2) (o := .lst [.ref m1])
      generalize L2.upd HX m2 (.lst [.ref m1]) = HY at t2 u2 ⊢
      have R4 : Rows HY m2 [m1] [[]] := ⟨u2, by simp, rfl, fun i q z e1 e2 => by
        cases i with
        | zero => cases e1; cases e2; exact t2 _ _ u1
        | succ i => simp at e1⟩
      exact ⟨_, _, rfl, .rows ((R3.same t1).same t2) R4 (by show 1 ≤ 1000; decide), fun H' _ => k H'⟩
end
end Ink
namespace Ink
open PySem L2
theorem len1 {α : Type} {l : List α} (h : l.length = 1) : ∃ a0, l = [a0] := by
  match l, h with
  | [a0], _ => exact ⟨a0, rfl⟩
theorem len2 {α : Type} {l : List α} (h : l.length = 2) : ∃ a0 a1, l = [a0, a1] := by
  match l, h with
  | [a0, a1], _ => exact ⟨a0, a1, rfl⟩
theorem len3 {α : Type} {l : List α} (h : l.length = 3) : ∃ a0 a1 a2, l = [a0, a1, a2] := by
  match l, h with
  | [a0, a1, a2], _ => exact ⟨a0, a1, a2, rfl⟩
theorem len4 {α : Type} {l : List α} (h : l.length = 4) : ∃ a0 a1 a2 a3, l = [a0, a1, a2, a3] := by
  match l, h with
  | [a0, a1, a2, a3], _ => exact ⟨a0, a1, a2, a3, rfl⟩
theorem all_mk {l : PySem.W.OpenLaw} {w : World} {K : PySem.W.Frag} {h : Heap} {mg : Str → Option Value} {fa f0 f1 f2 f3 f4 f5 f6 f7 f8 f9 f10 f11 f12 f13 f14 f15 f16 f17 f18 f19 f20 f21 f22 f23 f24 f25 f26 f27 f28 f29 f30 f31 f32 f33 f34 f35 f36 f37 f38 f39 f40 f41 f42 f43 f44 CE CI C : Addr} (X : K.In h) (G : h.Ns mainGlobals mg) (hfa : mg "law" = some (.ref fa))
    {od0 an0 : Option Addr} {sl0 : Array (Option Value)} {oc0 kV0 dc0 pm0 cd0 ct0 : Value}
    {od1 an1 : Option Addr} {sl1 : Array (Option Value)} {oc1 kV1 dc1 pm1 cd1 ct1 : Value}
    {od2 an2 : Option Addr} {sl2 : Array (Option Value)} {oc2 kV2 dc2 pm2 cd2 ct2 : Value}
    {od3 an3 : Option Addr} {sl3 : Array (Option Value)} {oc3 kV3 dc3 pm3 cd3 ct3 : Value}
    {od4 an4 : Option Addr} {sl4 : Array (Option Value)} {oc4 kV4 dc4 pm4 cd4 ct4 : Value}
    {od5 an5 : Option Addr} {sl5 : Array (Option Value)} {oc5 kV5 dc5 pm5 cd5 ct5 : Value}
    {od6 an6 : Option Addr} {sl6 : Array (Option Value)} {oc6 kV6 dc6 pm6 cd6 ct6 : Value}
    {od7 an7 : Option Addr} {sl7 : Array (Option Value)} {oc7 kV7 dc7 pm7 cd7 ct7 : Value}
    {od8 an8 : Option Addr} {sl8 : Array (Option Value)} {oc8 kV8 dc8 pm8 cd8 ct8 : Value}
    {od9 an9 : Option Addr} {sl9 : Array (Option Value)} {oc9 kV9 dc9 pm9 cd9 ct9 : Value}
    {od10 an10 : Option Addr} {sl10 : Array (Option Value)} {oc10 kV10 dc10 pm10 cd10 ct10 : Value}
    {od11 an11 : Option Addr} {sl11 : Array (Option Value)} {oc11 kV11 dc11 pm11 cd11 ct11 : Value}
    {od12 an12 : Option Addr} {sl12 : Array (Option Value)} {oc12 kV12 dc12 pm12 cd12 ct12 : Value}
    {od13 an13 : Option Addr} {sl13 : Array (Option Value)} {oc13 kV13 dc13 pm13 cd13 ct13 : Value}
    {od14 an14 : Option Addr} {sl14 : Array (Option Value)} {oc14 kV14 dc14 pm14 cd14 ct14 : Value}
    {od15 an15 : Option Addr} {sl15 : Array (Option Value)} {oc15 kV15 dc15 pm15 cd15 ct15 : Value}
    {od16 an16 : Option Addr} {sl16 : Array (Option Value)} {oc16 kV16 dc16 pm16 cd16 ct16 : Value}
    {od17 an17 : Option Addr} {sl17 : Array (Option Value)} {oc17 kV17 dc17 pm17 cd17 ct17 : Value}
    {od18 an18 : Option Addr} {sl18 : Array (Option Value)} {oc18 kV18 dc18 pm18 cd18 ct18 : Value}
    {od19 an19 : Option Addr} {sl19 : Array (Option Value)} {oc19 kV19 dc19 pm19 cd19 ct19 : Value}
    {od20 an20 : Option Addr} {sl20 : Array (Option Value)} {oc20 kV20 dc20 pm20 cd20 ct20 : Value}
    {od21 an21 : Option Addr} {sl21 : Array (Option Value)} {oc21 kV21 dc21 pm21 cd21 ct21 : Value}
    {od22 an22 : Option Addr} {sl22 : Array (Option Value)} {oc22 kV22 dc22 pm22 cd22 ct22 : Value}
    {od23 an23 : Option Addr} {sl23 : Array (Option Value)} {oc23 kV23 dc23 pm23 cd23 ct23 : Value}
    {od24 an24 : Option Addr} {sl24 : Array (Option Value)} {oc24 kV24 dc24 pm24 cd24 ct24 : Value}
    {od25 an25 : Option Addr} {sl25 : Array (Option Value)} {oc25 kV25 dc25 pm25 cd25 ct25 : Value}
    {od26 an26 : Option Addr} {sl26 : Array (Option Value)} {oc26 kV26 dc26 pm26 cd26 ct26 : Value}
    {od27 an27 : Option Addr} {sl27 : Array (Option Value)} {oc27 kV27 dc27 pm27 cd27 ct27 : Value}
    {od28 an28 : Option Addr} {sl28 : Array (Option Value)} {oc28 kV28 dc28 pm28 cd28 ct28 : Value}
    {od29 an29 : Option Addr} {sl29 : Array (Option Value)} {oc29 kV29 dc29 pm29 cd29 ct29 : Value}
    {od30 an30 : Option Addr} {sl30 : Array (Option Value)} {oc30 kV30 dc30 pm30 cd30 ct30 : Value}
    {od31 an31 : Option Addr} {sl31 : Array (Option Value)} {oc31 kV31 dc31 pm31 cd31 ct31 : Value}
    {od32 an32 : Option Addr} {sl32 : Array (Option Value)} {oc32 kV32 dc32 pm32 cd32 ct32 : Value}
    {od33 an33 : Option Addr} {sl33 : Array (Option Value)} {oc33 kV33 dc33 pm33 cd33 ct33 : Value}
    {od34 an34 : Option Addr} {sl34 : Array (Option Value)} {oc34 kV34 dc34 pm34 cd34 ct34 : Value}
    {od35 an35 : Option Addr} {sl35 : Array (Option Value)} {oc35 kV35 dc35 pm35 cd35 ct35 : Value}
    {od36 an36 : Option Addr} {sl36 : Array (Option Value)} {oc36 kV36 dc36 pm36 cd36 ct36 : Value}
    {od37 an37 : Option Addr} {sl37 : Array (Option Value)} {oc37 kV37 dc37 pm37 cd37 ct37 : Value}
    {od38 an38 : Option Addr} {sl38 : Array (Option Value)} {oc38 kV38 dc38 pm38 cd38 ct38 : Value}
    {od39 an39 : Option Addr} {sl39 : Array (Option Value)} {oc39 kV39 dc39 pm39 cd39 ct39 : Value}
    {od40 an40 : Option Addr} {sl40 : Array (Option Value)} {oc40 kV40 dc40 pm40 cd40 ct40 : Value}
    {od41 an41 : Option Addr} {sl41 : Array (Option Value)} {oc41 kV41 dc41 pm41 cd41 ct41 : Value}
    {od42 an42 : Option Addr} {sl42 : Array (Option Value)} {oc42 kV42 dc42 pm42 cd42 ct42 : Value}
    {od43 an43 : Option Addr} {sl43 : Array (Option Value)} {oc43 kV43 dc43 pm43 cd43 ct43 : Value}
    {od44 an44 : Option Addr} {sl44 : Array (Option Value)} {oc44 kV44 dc44 pm44 cd44 ct44 : Value}
    (a0 : PySem.W.nsIn K mainGlobals "_law_upto" = some (some (.ref f0))) (l0 : K.lookup f0 = some ⟨oc0, od0, .func (PySem.W.fnOf "_law_upto" "_law_upto" (defArgs sUpto) (defBody sUpto) (defScope sUpto) .none kV0 dc0 pm0 an0 cd0 ct0), sl0⟩) (c0 : PySem.W.codeIn K cd0 "_law_upto" = true) (k0 : PySem.W.keepIn K (.ref f0) = true)
    (a1 : PySem.W.nsIn K mainGlobals "_law_spot_by" = some (some (.ref f1))) (l1 : K.lookup f1 = some ⟨oc1, od1, .func (PySem.W.fnOf "_law_spot_by" "_law_spot_by" (defArgs sSpotBy) (defBody sSpotBy) (defScope sSpotBy) .none kV1 dc1 pm1 an1 cd1 ct1), sl1⟩) (c1 : PySem.W.codeIn K cd1 "_law_spot_by" = true) (k1 : PySem.W.keepIn K (.ref f1) = true)
    (a2 : PySem.W.nsIn K mainGlobals "_law_deeds" = some (some (.ref f2))) (l2 : K.lookup f2 = some ⟨oc2, od2, .func (PySem.W.fnOf "_law_deeds" "_law_deeds" (defArgs sDeeds) (defBody sDeeds) (defScope sDeeds) .none kV2 dc2 pm2 an2 cd2 ct2), sl2⟩) (c2 : PySem.W.codeIn K cd2 "_law_deeds" = true) (k2 : PySem.W.keepIn K (.ref f2) = true)
    (a3 : PySem.W.findIn K (.ref C) "__init__" = some (some (.ref f3))) (i3 : PySem.W.isFn K (.ref f3) = true) (l3 : K.lookup f3 = some ⟨oc3, od3, .func (PySem.W.fnOf "__init__" "Paper.__init__" (defArgs sInit) (defBody sInit) (defScope sInit) .none kV3 dc3 pm3 an3 cd3 ct3), sl3⟩) (c3 : PySem.W.codeIn K cd3 "Paper.__init__" = true) (k3 : PySem.W.keepIn K (.ref f3) = true)
    (a4 : PySem.W.findIn K (.ref C) "put_point" = some (some (.ref f4))) (i4 : PySem.W.isFn K (.ref f4) = true) (l4 : K.lookup f4 = some ⟨oc4, od4, .func (PySem.W.fnOf "put_point" "Paper.put_point" (defArgs sPoint) (defBody sPoint) (defScope sPoint) .none kV4 dc4 pm4 an4 cd4 ct4), sl4⟩) (c4 : PySem.W.codeIn K cd4 "Paper.put_point" = true) (k4 : PySem.W.keepIn K (.ref f4) = true)
    (a5 : PySem.W.findIn K (.ref C) "look" = some (some (.ref f5))) (i5 : PySem.W.isFn K (.ref f5) = true) (l5 : K.lookup f5 = some ⟨oc5, od5, .func (PySem.W.fnOf "look" "Paper.look" (defArgs sLook) (defBody sLook) (defScope sLook) .none kV5 dc5 pm5 an5 cd5 ct5), sl5⟩) (c5 : PySem.W.codeIn K cd5 "Paper.look" = true) (k5 : PySem.W.keepIn K (.ref f5) = true)
    (a6 : PySem.W.nsIn K mainGlobals "how_many_ropes" = some (some (.ref f6))) (l6 : K.lookup f6 = some ⟨oc6, od6, .func (PySem.W.fnOf "how_many_ropes" "how_many_ropes" (defArgs sRopes) (defBody sRopes) (defScope sRopes) .none kV6 dc6 pm6 an6 cd6 ct6), sl6⟩) (c6 : PySem.W.codeIn K cd6 "how_many_ropes" = true) (k6 : PySem.W.keepIn K (.ref f6) = true)
    (a7 : PySem.W.nsIn K mainGlobals "is_spot" = some (some (.ref f7))) (l7 : K.lookup f7 = some ⟨oc7, od7, .func (PySem.W.fnOf "is_spot" "is_spot" (defArgs sIsSpot) (defBody sIsSpot) (defScope sIsSpot) .none kV7 dc7 pm7 an7 cd7 ct7), sl7⟩) (c7 : PySem.W.codeIn K cd7 "is_spot" = true) (k7 : PySem.W.keepIn K (.ref f7) = true)
    (a8 : PySem.W.nsIn K mainGlobals "put_behind" = some (some (.ref f8))) (l8 : K.lookup f8 = some ⟨oc8, od8, .func (PySem.W.fnOf "put_behind" "put_behind" (defArgs sPutBehind) (defBody sPutBehind) (defScope sPutBehind) .none kV8 dc8 pm8 an8 cd8 ct8), sl8⟩) (c8 : PySem.W.codeIn K cd8 "put_behind" = true) (k8 : PySem.W.keepIn K (.ref f8) = true)
    (a9 : PySem.W.nsIn K mainGlobals "put_at" = some (some (.ref f9))) (l9 : K.lookup f9 = some ⟨oc9, od9, .func (PySem.W.fnOf "put_at" "put_at" (defArgs sPutAt) (defBody sPutAt) (defScope sPutAt) .none kV9 dc9 pm9 an9 cd9 ct9), sl9⟩) (c9 : PySem.W.codeIn K cd9 "put_at" = true) (k9 : PySem.W.keepIn K (.ref f9) = true)
    (a10 : PySem.W.nsIn K mainGlobals "all_ends" = some (some (.ref f10))) (l10 : K.lookup f10 = some ⟨oc10, od10, .func (PySem.W.fnOf "all_ends" "all_ends" (defArgs sAllEnds) (defBody sAllEnds) (defScope sAllEnds) .none kV10 dc10 pm10 an10 cd10 ct10), sl10⟩) (c10 : PySem.W.codeIn K cd10 "all_ends" = true) (k10 : PySem.W.keepIn K (.ref f10) = true)
    (a11 : PySem.W.nsIn K mainGlobals "is_drawing" = some (some (.ref f11))) (l11 : K.lookup f11 = some ⟨oc11, od11, .func (PySem.W.fnOf "is_drawing" "is_drawing" (defArgs sIsDrawing) (defBody sIsDrawing) (defScope sIsDrawing) .none kV11 dc11 pm11 an11 cd11 ct11), sl11⟩) (c11 : PySem.W.codeIn K cd11 "is_drawing" = true) (k11 : PySem.W.keepIn K (.ref f11) = true)
    (a12 : PySem.W.nsIn K mainGlobals "refuse_no_drawing" = some (some (.ref f12))) (l12 : K.lookup f12 = some ⟨oc12, od12, .func (PySem.W.fnOf "refuse_no_drawing" "refuse_no_drawing" (defArgs sRefuse) (defBody sRefuse) (defScope sRefuse) .none kV12 dc12 pm12 an12 cd12 ct12), sl12⟩) (c12 : PySem.W.codeIn K cd12 "refuse_no_drawing" = true) (k12 : PySem.W.keepIn K (.ref f12) = true)
    (a13 : PySem.W.nsIn K mainGlobals "points_of_ends" = some (some (.ref f13))) (l13 : K.lookup f13 = some ⟨oc13, od13, .func (PySem.W.fnOf "points_of_ends" "points_of_ends" (defArgs sPointsOf) (defBody sPointsOf) (defScope sPointsOf) .none kV13 dc13 pm13 an13 cd13 ct13), sl13⟩) (c13 : PySem.W.codeIn K cd13 "points_of_ends" = true) (k13 : PySem.W.keepIn K (.ref f13) = true)
    (a14 : PySem.W.nsIn K mainGlobals "across" = some (some (.ref f14))) (l14 : K.lookup f14 = some ⟨oc14, od14, .func (PySem.W.fnOf "across" "across" (defArgs sAcrossP) (defBody sAcrossP) (defScope sAcrossP) .none kV14 dc14 pm14 an14 cd14 ct14), sl14⟩) (c14 : PySem.W.codeIn K cd14 "across" = true) (k14 : PySem.W.keepIn K (.ref f14) = true)
    (a15 : PySem.W.nsIn K mainGlobals "piece_from" = some (some (.ref f15))) (l15 : K.lookup f15 = some ⟨oc15, od15, .func (PySem.W.fnOf "piece_from" "piece_from" (defArgs sPieceFrom) (defBody sPieceFrom) (defScope sPieceFrom) .none kV15 dc15 pm15 an15 cd15 ct15), sl15⟩) (c15 : PySem.W.codeIn K cd15 "piece_from" = true) (k15 : PySem.W.keepIn K (.ref f15) = true)
    (a16 : PySem.W.nsIn K mainGlobals "pieces" = some (some (.ref f16))) (l16 : K.lookup f16 = some ⟨oc16, od16, .func (PySem.W.fnOf "pieces" "pieces" (defArgs sPieces) (defBody sPieces) (defScope sPieces) .none kV16 dc16 pm16 an16 cd16 ct16), sl16⟩) (c16 : PySem.W.codeIn K cd16 "pieces" = true) (k16 : PySem.W.keepIn K (.ref f16) = true)
    (a17 : PySem.W.nsIn K mainGlobals "next_ends" = some (some (.ref f17))) (l17 : K.lookup f17 = some ⟨oc17, od17, .func (PySem.W.fnOf "next_ends" "next_ends" (defArgs sNextEnds) (defBody sNextEnds) (defScope sNextEnds) .none kV17 dc17 pm17 an17 cd17 ct17), sl17⟩) (c17 : PySem.W.codeIn K cd17 "next_ends" = true) (k17 : PySem.W.keepIn K (.ref f17) = true)
    (a18 : PySem.W.nsIn K mainGlobals "face_from" = some (some (.ref f18))) (l18 : K.lookup f18 = some ⟨oc18, od18, .func (PySem.W.fnOf "face_from" "face_from" (defArgs sFaceFrom) (defBody sFaceFrom) (defScope sFaceFrom) .none kV18 dc18 pm18 an18 cd18 ct18), sl18⟩) (c18 : PySem.W.codeIn K cd18 "face_from" = true) (k18 : PySem.W.keepIn K (.ref f18) = true)
    (a19 : PySem.W.nsIn K mainGlobals "faces" = some (some (.ref f19))) (l19 : K.lookup f19 = some ⟨oc19, od19, .func (PySem.W.fnOf "faces" "faces" (defArgs sFaces) (defBody sFaces) (defScope sFaces) .none kV19 dc19 pm19 an19 cd19 ct19), sl19⟩) (c19 : PySem.W.codeIn K cd19 "faces" = true) (k19 : PySem.W.keepIn K (.ref f19) = true)
    (a20 : PySem.W.nsIn K mainGlobals "how_many_faces" = some (some (.ref f20))) (l20 : K.lookup f20 = some ⟨oc20, od20, .func (PySem.W.fnOf "how_many_faces" "how_many_faces" (defArgs sManyFaces) (defBody sManyFaces) (defScope sManyFaces) .none kV20 dc20 pm20 an20 cd20 ct20), sl20⟩) (c20 : PySem.W.codeIn K cd20 "how_many_faces" = true) (k20 : PySem.W.keepIn K (.ref f20) = true)
    (a21 : PySem.W.nsIn K mainGlobals "built" = some (some (.ref f21))) (l21 : K.lookup f21 = some ⟨oc21, od21, .func (PySem.W.fnOf "built" "built" (defArgs sBuilt) (defBody sBuilt) (defScope sBuilt) .none kV21 dc21 pm21 an21 cd21 ct21), sl21⟩) (c21 : PySem.W.codeIn K cd21 "built" = true) (k21 : PySem.W.keepIn K (.ref f21) = true)
    (a22 : PySem.W.findIn K (.ref C) "tie" = some (some (.ref f22))) (i22 : PySem.W.isFn K (.ref f22) = true) (l22 : K.lookup f22 = some ⟨oc22, od22, .func (PySem.W.fnOf "tie" "Paper.tie" (defArgs sTie) (defBody sTie) (defScope sTie) .none kV22 dc22 pm22 an22 cd22 ct22), sl22⟩) (c22 : PySem.W.codeIn K cd22 "Paper.tie" = true) (k22 : PySem.W.keepIn K (.ref f22) = true)
    (a23 : PySem.W.nsIn K mainGlobals "answer_to" = some (some (.ref f23))) (l23 : K.lookup f23 = some ⟨oc23, od23, .func (PySem.W.fnOf "answer_to" "answer_to" (defArgs sAnswerTo) (defBody sAnswerTo) (defScope sAnswerTo) .none kV23 dc23 pm23 an23 cd23 ct23), sl23⟩) (c23 : PySem.W.codeIn K cd23 "answer_to" = true) (k23 : PySem.W.keepIn K (.ref f23) = true)
    (a24 : PySem.W.nsIn K mainGlobals "answers" = some (some (.ref f24))) (l24 : K.lookup f24 = some ⟨oc24, od24, .func (PySem.W.fnOf "answers" "answers" (defArgs sAnswers) (defBody sAnswers) (defScope sAnswers) .none kV24 dc24 pm24 an24 cd24 ct24), sl24⟩) (c24 : PySem.W.codeIn K cd24 "answers" = true) (k24 : PySem.W.keepIn K (.ref f24) = true)
    (a25 : PySem.W.nsIn K mainGlobals "_law_whole" = some (some (.ref f25))) (l25 : K.lookup f25 = some ⟨oc25, od25, .func (PySem.W.fnOf "_law_whole" "_law_whole" (defArgs sWhole) (defBody sWhole) (defScope sWhole) .none kV25 dc25 pm25 an25 cd25 ct25), sl25⟩) (c25 : PySem.W.codeIn K cd25 "_law_whole" = true) (k25 : PySem.W.keepIn K (.ref f25) = true)
    (a26 : PySem.W.nsIn K mainGlobals "_law_are_rows" = some (some (.ref f26))) (l26 : K.lookup f26 = some ⟨oc26, od26, .func (PySem.W.fnOf "_law_are_rows" "_law_are_rows" (defArgs sAreRows) (defBody sAreRows) (defScope sAreRows) .none kV26 dc26 pm26 an26 cd26 ct26), sl26⟩) (c26 : PySem.W.codeIn K cd26 "_law_are_rows" = true) (k26 : PySem.W.keepIn K (.ref f26) = true)
    (a27 : PySem.W.nsIn K mainGlobals "_law_alike" = some (some (.ref f27))) (l27 : K.lookup f27 = some ⟨oc27, od27, .func (PySem.W.fnOf "_law_alike" "_law_alike" (defArgs sAlike) (defBody sAlike) (defScope sAlike) .none kV27 dc27 pm27 an27 cd27 ct27), sl27⟩) (c27 : PySem.W.codeIn K cd27 "_law_alike" = true) (k27 : PySem.W.keepIn K (.ref f27) = true)
    (a28 : PySem.W.nsIn K mainGlobals "_law_like" = some (some (.ref f28))) (l28 : K.lookup f28 = some ⟨oc28, od28, .func (PySem.W.fnOf "_law_like" "_law_like" (defArgs sLike) (defBody sLike) (defScope sLike) .none kV28 dc28 pm28 an28 cd28 ct28), sl28⟩) (c28 : PySem.W.codeIn K cd28 "_law_like" = true) (k28 : PySem.W.keepIn K (.ref f28) = true)
    (a29 : PySem.W.nsIn K mainGlobals "_law_told_by" = some (some (.ref f29))) (l29 : K.lookup f29 = some ⟨oc29, od29, .func (PySem.W.fnOf "_law_told_by" "_law_told_by" (defArgs sToldBy) (defBody sToldBy) (defScope sToldBy) .none kV29 dc29 pm29 an29 cd29 ct29), sl29⟩) (c29 : PySem.W.codeIn K cd29 "_law_told_by" = true) (k29 : PySem.W.keepIn K (.ref f29) = true)
    (a30 : PySem.W.nsIn K mainGlobals "_law_copies" = some (some (.ref f30))) (l30 : K.lookup f30 = some ⟨oc30, od30, .func (PySem.W.fnOf "_law_copies" "_law_copies" (defArgs sCopies) (defBody sCopies) (defScope sCopies) .none kV30 dc30 pm30 an30 cd30 ct30), sl30⟩) (c30 : PySem.W.codeIn K cd30 "_law_copies" = true) (k30 : PySem.W.keepIn K (.ref f30) = true)
    (a31 : PySem.W.nsIn K mainGlobals "_law_can_be" = some (some (.ref f31))) (l31 : K.lookup f31 = some ⟨oc31, od31, .func (PySem.W.fnOf "_law_can_be" "_law_can_be" (defArgs sCanBe) (defBody sCanBe) (defScope sCanBe) .none kV31 dc31 pm31 an31 cd31 ct31), sl31⟩) (c31 : PySem.W.codeIn K cd31 "_law_can_be" = true) (k31 : PySem.W.keepIn K (.ref f31) = true)
    (a32 : PySem.W.nsIn K mainGlobals "_law_across" = some (some (.ref f32))) (l32 : K.lookup f32 = some ⟨oc32, od32, .func (PySem.W.fnOf "_law_across" "_law_across" (defArgs sAcross) (defBody sAcross) (defScope sAcross) .none kV32 dc32 pm32 an32 cd32 ct32), sl32⟩) (c32 : PySem.W.codeIn K cd32 "_law_across" = true) (k32 : PySem.W.keepIn K (.ref f32) = true)
    (a33 : PySem.W.nsIn K mainGlobals "_law_next_in" = some (some (.ref f33))) (l33 : K.lookup f33 = some ⟨oc33, od33, .func (PySem.W.fnOf "_law_next_in" "_law_next_in" (defArgs sNextIn) (defBody sNextIn) (defScope sNextIn) .none kV33 dc33 pm33 an33 cd33 ct33), sl33⟩) (c33 : PySem.W.codeIn K cd33 "_law_next_in" = true) (k33 : PySem.W.keepIn K (.ref f33) = true)
    (a34 : PySem.W.nsIn K mainGlobals "_law_face_of" = some (some (.ref f34))) (l34 : K.lookup f34 = some ⟨oc34, od34, .func (PySem.W.fnOf "_law_face_of" "_law_face_of" (defArgs sFaceOf) (defBody sFaceOf) (defScope sFaceOf) .none kV34 dc34 pm34 an34 cd34 ct34), sl34⟩) (c34 : PySem.W.codeIn K cd34 "_law_face_of" = true) (k34 : PySem.W.keepIn K (.ref f34) = true)
    (a35 : PySem.W.nsIn K mainGlobals "_law_face_at" = some (some (.ref f35))) (l35 : K.lookup f35 = some ⟨oc35, od35, .func (PySem.W.fnOf "_law_face_at" "_law_face_at" (defArgs sFaceAt) (defBody sFaceAt) (defScope sFaceAt) .none kV35 dc35 pm35 an35 cd35 ct35), sl35⟩) (c35 : PySem.W.codeIn K cd35 "_law_face_at" = true) (k35 : PySem.W.keepIn K (.ref f35) = true)
    (a36 : PySem.W.nsIn K mainGlobals "_law_point_of" = some (some (.ref f36))) (l36 : K.lookup f36 = some ⟨oc36, od36, .func (PySem.W.fnOf "_law_point_of" "_law_point_of" (defArgs sPointL) (defBody sPointL) (defScope sPointL) .none kV36 dc36 pm36 an36 cd36 ct36), sl36⟩) (c36 : PySem.W.codeIn K cd36 "_law_point_of" = true) (k36 : PySem.W.keepIn K (.ref f36) = true)
    (a37 : PySem.W.nsIn K mainGlobals "_law_groups_of" = some (some (.ref f37))) (l37 : K.lookup f37 = some ⟨oc37, od37, .func (PySem.W.fnOf "_law_groups_of" "_law_groups_of" (defArgs sGroups) (defBody sGroups) (defScope sGroups) .none kV37 dc37 pm37 an37 cd37 ct37), sl37⟩) (c37 : PySem.W.codeIn K cd37 "_law_groups_of" = true) (k37 : PySem.W.keepIn K (.ref f37) = true)
    (a38 : PySem.W.nsIn K mainGlobals "_law_faces_of" = some (some (.ref f38))) (l38 : K.lookup f38 = some ⟨oc38, od38, .func (PySem.W.fnOf "_law_faces_of" "_law_faces_of" (defArgs sFacesOf) (defBody sFacesOf) (defScope sFacesOf) .none kV38 dc38 pm38 an38 cd38 ct38), sl38⟩) (c38 : PySem.W.codeIn K cd38 "_law_faces_of" = true) (k38 : PySem.W.keepIn K (.ref f38) = true)
    (a39 : PySem.W.nsIn K mainGlobals "_law_built_so" = some (some (.ref f39))) (l39 : K.lookup f39 = some ⟨oc39, od39, .func (PySem.W.fnOf "_law_built_so" "_law_built_so" (defArgs sBuiltSo) (defBody sBuiltSo) (defScope sBuiltSo) .none kV39 dc39 pm39 an39 cd39 ct39), sl39⟩) (c39 : PySem.W.codeIn K cd39 "_law_built_so" = true) (k39 : PySem.W.keepIn K (.ref f39) = true)
    (a40 : PySem.W.nsIn K mainGlobals "_law_put" = some (some (.ref f40))) (l40 : K.lookup f40 = some ⟨oc40, od40, .func (PySem.W.fnOf "_law_put" "_law_put" (defArgs sPut) (defBody sPut) (defScope sPut) .none kV40 dc40 pm40 an40 cd40 ct40), sl40⟩) (c40 : PySem.W.codeIn K cd40 "_law_put" = true) (k40 : PySem.W.keepIn K (.ref f40) = true)
    (a41 : PySem.W.nsIn K mainGlobals "_law_tied" = some (some (.ref f41))) (l41 : K.lookup f41 = some ⟨oc41, od41, .func (PySem.W.fnOf "_law_tied" "_law_tied" (defArgs sTied) (defBody sTied) (defScope sTied) .none kV41 dc41 pm41 an41 cd41 ct41), sl41⟩) (c41 : PySem.W.codeIn K cd41 "_law_tied" = true) (k41 : PySem.W.keepIn K (.ref f41) = true)
    (a42 : PySem.W.nsIn K mainGlobals "_law_due_of" = some (some (.ref f42))) (l42 : K.lookup f42 = some ⟨oc42, od42, .func (PySem.W.fnOf "_law_due_of" "_law_due_of" (defArgs sDueOf) (defBody sDueOf) (defScope sDueOf) .none kV42 dc42 pm42 an42 cd42 ct42), sl42⟩) (c42 : PySem.W.codeIn K cd42 "_law_due_of" = true) (k42 : PySem.W.keepIn K (.ref f42) = true)
    (a43 : PySem.W.nsIn K mainGlobals "_law_hand_is" = some (some (.ref f43))) (l43 : K.lookup f43 = some ⟨oc43, od43, .func (PySem.W.fnOf "_law_hand_is" "_law_hand_is" (defArgs sHandIs) (defBody sHandIs) (defScope sHandIs) .none kV43 dc43 pm43 an43 cd43 ct43), sl43⟩) (c43 : PySem.W.codeIn K cd43 "_law_hand_is" = true) (k43 : PySem.W.keepIn K (.ref f43) = true)
    (a44 : PySem.W.nsIn K mainGlobals "law" = some (some (.ref f44))) (l44 : K.lookup f44 = some ⟨oc44, od44, .func (PySem.W.fnOf "law" "law" (defArgs sLaw) (defBody sLaw) (defScope sLaw) .none kV44 dc44 pm44 an44 cd44 ct44), sl44⟩) (c44 : PySem.W.codeIn K cd44 "law" = true) (k44 : PySem.W.keepIn K (.ref f44) = true)
    (z0 : PySem.W.nsIn K mainGlobals "len" = some none) (z1 : PySem.W.nsIn K mainGlobals "range" = some none) (z2 : PySem.W.nsIn K mainGlobals "sum" = some none) (z3 : PySem.W.nsIn K mainGlobals "list" = some none) (z4 : PySem.W.nsIn K mainGlobals "int" = some none) (z5 : PySem.W.nsIn K mainGlobals "bool" = some none) (z6 : PySem.W.nsIn K mainGlobals "isinstance" = some none) (z7 : PySem.W.nsIn K mainGlobals "sorted" = some none) (z8 : PySem.W.nsIn K mainGlobals "enumerate" = some none) (z9 : PySem.W.nsIn K mainGlobals "set" = some none) (z10 : PySem.W.nsIn K mainGlobals "tuple" = some none) (z11 : PySem.W.nsIn K mainGlobals "str" = some none)
    (xE : PySem.W.nsIn K mainGlobals "NoEnd" = some (some (.ref CE))) (xI : PySem.W.nsIn K mainGlobals "InkError" = some (some (.ref CI))) (xV : PySem.W.nsIn K mainGlobals "ValueError" = some none) (xMin : PySem.W.nsIn K mainGlobals "min" = some none) (eE : PySem.W.excIn K CE [.type "ValueError", .type "Exception", .type "BaseException", .type "object"] "ValueError.__new__" = true) (gE0 : PySem.W.findIn K (.ref CE) "__getattribute__" = some (some (.builtin "BaseException.__getattribute__"))) (gE1 : PySem.W.findIn K (.ref CE) "__getattr__" = some none) (gE2 : PySem.W.findIn K (.ref CE) "__class__" = some (some (.builtin "object.__class__"))) (gE3 : PySem.W.specialIn K (.builtin "object.__class__") "__get__" = some (some (.builtin "getset_descriptor.__get__"))) (gE4 : PySem.W.takesIn K (.builtin "object.__class__") = some true) (gE5 : PySem.W.mroIn K CE (.type "object") = some true) (gE6 : PySem.W.mroIn K CE (.type "BaseException") = some true) (m0 : PySem.W.exmOne K (.ref CE) (.ref CE) = some true) (m1 : PySem.W.exmOne K (.ref CE) (.ref CI) = some true) (o3 : PySem.W.kitOne K (.ref CE) (.ref CE) = some true) (o4 : PySem.W.kitOne K (.ref CE) (.type "ValueError") = some true) (xC : PySem.W.nsIn K mainGlobals "Paper" = some (some (.ref C))) (pg : PySem.W.plainGet K C Str.empty = true) (hd : PySem.W.hasDictIn K C = true) (po : PySem.W.plainOver K C = true) (sa : PySem.W.findIn K (.ref C) "__setattr__" = some (some (.builtin "object.__setattr__"))) (mk : PySem.W.makesIn K C = true) (kc : PySem.W.keepIn K (.ref C) = true) (nR : PySem.W.findIn K (.ref C) "rounds" = some none) :
    ∃ fd : FuncData, (∀ (s : Shared) (v : Value), BindsTo s fd ⟨[v], []⟩ [("_law_script", v)]) ∧ ∀ base : Heap, K.In base → base.Ns mainGlobals mg → FnOk l.prog w K mg base CX0 10 fa fd ["_law_script"] (spLaw K) := by
  have e := hfa.symm.trans (PySem.W.mg_of X G a44)
  cases e
  have T : Txt mg := ⟨PySem.W.mg_none_of X G z0, PySem.W.mg_none_of X G z1, PySem.W.mg_none_of X G z2, PySem.W.mg_none_of X G z3, PySem.W.mg_none_of X G z4, PySem.W.mg_none_of X G z5, PySem.W.mg_none_of X G z6, PySem.W.mg_none_of X G z7, PySem.W.mg_none_of X G z8⟩
  have T2 : Txt3 mg := ⟨PySem.W.mg_none_of X G z9, PySem.W.mg_none_of X G z10, PySem.W.mg_none_of X G z11⟩
  have OE : ExcC K mg "NoEnd" CE := ⟨PySem.W.mg_of X G xE, _, _, _, _, PySem.F.excBase_ValueError, eE⟩
  have TX : ExT10 K mg CE CI := ⟨⟨gE0, gE1, gE2, gE3, gE4, gE5, gE6⟩, PySem.W.mg_of X G xI, PySem.W.mg_none_of X G xV, m1, o3, o4⟩
  have TP : TxtP K C := ⟨⟨pg, hd, po, sa⟩, nR⟩
  have zmin := PySem.W.mg_none_of X G xMin
  have F0 := fun_mk (st := sUpto) l0 c0 k0
  have b0 := F0.binds (ps := ["_law_script", "_law_small", "_law_great"]) fun _ _ _ _ _ _ us hl => by obtain ⟨_, _, _, rfl⟩ := len3 hl; rfl
  have F1 := fun_mk (st := sSpotBy) l1 c1 k1
  have b1 := F1.binds (ps := ["_law_cell", "_law_more", "_law_ends", "_law_points"]) fun _ _ _ _ _ _ us hl => by obtain ⟨_, _, _, _, rfl⟩ := len4 hl; rfl
  have F2 := fun_mk (st := sDeeds) l2 c2 k2
  have b2 := F2.binds (ps := ["_law_cells"]) fun _ _ _ _ _ _ us hl => by obtain ⟨_, rfl⟩ := len1 hl; rfl
  have F3 := fun_mk (st := sInit) l3 c3 k3
  have b3 := F3.binds (ps := ["self"]) fun _ _ _ _ _ _ us hl => by obtain ⟨_, rfl⟩ := len1 hl; rfl
  have F4 := fun_mk (st := sPoint) l4 c4 k4
  have b4 := F4.binds (ps := ["self"]) fun _ _ _ _ _ _ us hl => by obtain ⟨_, rfl⟩ := len1 hl; rfl
  have F5 := fun_mk (st := sLook) l5 c5 k5
  have b5 := F5.binds (ps := ["self"]) fun _ _ _ _ _ _ us hl => by obtain ⟨_, rfl⟩ := len1 hl; rfl
  have F6 := fun_mk (st := sRopes) l6 c6 k6
  have b6 := F6.binds (ps := ["rounds"]) fun _ _ _ _ _ _ us hl => by obtain ⟨_, rfl⟩ := len1 hl; rfl
  have F7 := fun_mk (st := sIsSpot) l7 c7 k7
  have b7 := F7.binds (ps := ["rounds", "spot"]) fun _ _ _ _ _ _ us hl => by obtain ⟨_, _, rfl⟩ := len2 hl; rfl
  have F8 := fun_mk (st := sPutBehind) l8 c8 k8
  have b8 := F8.binds (ps := ["ends", "before", "end"]) fun _ _ _ _ _ _ us hl => by obtain ⟨_, _, _, rfl⟩ := len3 hl; rfl
  have F9 := fun_mk (st := sPutAt) l9 c9 k9
  have b9 := F9.binds (ps := ["rounds", "spot", "end"]) fun _ _ _ _ _ _ us hl => by obtain ⟨_, _, _, rfl⟩ := len3 hl; rfl
  have F10 := fun_mk (st := sAllEnds) l10 c10 k10
  have b10 := F10.binds (ps := ["rounds"]) fun _ _ _ _ _ _ us hl => by obtain ⟨_, rfl⟩ := len1 hl; rfl
  have F11 := fun_mk (st := sIsDrawing) l11 c11 k11
  have b11 := F11.binds (ps := ["rounds"]) fun _ _ _ _ _ _ us hl => by obtain ⟨_, rfl⟩ := len1 hl; rfl
  have F12 := fun_mk (st := sRefuse) l12 c12 k12
  have b12 := F12.binds (ps := ["rounds"]) fun _ _ _ _ _ _ us hl => by obtain ⟨_, rfl⟩ := len1 hl; rfl
  have F13 := fun_mk (st := sPointsOf) l13 c13 k13
  have b13 := F13.binds (ps := ["rounds"]) fun _ _ _ _ _ _ us hl => by obtain ⟨_, rfl⟩ := len1 hl; rfl
  have F14 := fun_mk (st := sAcrossP) l14 c14 k14
  have b14 := F14.binds (ps := ["end"]) fun _ _ _ _ _ _ us hl => by obtain ⟨_, rfl⟩ := len1 hl; rfl
  have F15 := fun_mk (st := sPieceFrom) l15 c15 k15
  have b15 := F15.binds (ps := ["rounds", "point_of", "start"]) fun _ _ _ _ _ _ us hl => by obtain ⟨_, _, _, rfl⟩ := len3 hl; rfl
  have F16 := fun_mk (st := sPieces) l16 c16 k16
  have b16 := F16.binds (ps := ["rounds"]) fun _ _ _ _ _ _ us hl => by obtain ⟨_, rfl⟩ := len1 hl; rfl
  have F17 := fun_mk (st := sNextEnds) l17 c17 k17
  have b17 := F17.binds (ps := ["rounds"]) fun _ _ _ _ _ _ us hl => by obtain ⟨_, rfl⟩ := len1 hl; rfl
  have F18 := fun_mk (st := sFaceFrom) l18 c18 k18
  have b18 := F18.binds (ps := ["behind", "start"]) fun _ _ _ _ _ _ us hl => by obtain ⟨_, _, rfl⟩ := len2 hl; rfl
  have F19 := fun_mk (st := sFaces) l19 c19 k19
  have b19 := F19.binds (ps := ["rounds"]) fun _ _ _ _ _ _ us hl => by obtain ⟨_, rfl⟩ := len1 hl; rfl
  have F20 := fun_mk (st := sManyFaces) l20 c20 k20
  have b20 := F20.binds (ps := ["rounds"]) fun _ _ _ _ _ _ us hl => by obtain ⟨_, rfl⟩ := len1 hl; rfl
  have F21 := fun_mk (st := sBuilt) l21 c21 k21
  have b21 := F21.binds (ps := ["rounds"]) fun _ _ _ _ _ _ us hl => by obtain ⟨_, rfl⟩ := len1 hl; rfl
  have F22 := fun_mk (st := sTie) l22 c22 k22
  have b22 := F22.binds (ps := ["self", "one", "other"]) fun _ _ _ _ _ _ us hl => by obtain ⟨_, _, _, rfl⟩ := len3 hl; rfl
  have F23 := fun_mk (st := sAnswerTo) l23 c23 k23
  have b23 := F23.binds (ps := ["paper", "deed"]) fun _ _ _ _ _ _ us hl => by obtain ⟨_, _, rfl⟩ := len2 hl; rfl
  have F24 := fun_mk (st := sAnswers) l24 c24 k24
  have b24 := F24.binds (ps := ["deeds"]) fun _ _ _ _ _ _ us hl => by obtain ⟨_, rfl⟩ := len1 hl; rfl
  have F25 := fun_mk (st := sWhole) l25 c25 k25
  have b25 := F25.binds (ps := ["_law_found"]) fun _ _ _ _ _ _ us hl => by obtain ⟨_, rfl⟩ := len1 hl; rfl
  have F26 := fun_mk (st := sAreRows) l26 c26 k26
  have b26 := F26.binds (ps := ["_law_found"]) fun _ _ _ _ _ _ us hl => by obtain ⟨_, rfl⟩ := len1 hl; rfl
  have F27 := fun_mk (st := sAlike) l27 c27 k27
  have b27 := F27.binds (ps := ["_law_found", "_law_due"]) fun _ _ _ _ _ _ us hl => by obtain ⟨_, _, rfl⟩ := len2 hl; rfl
  have F28 := fun_mk (st := sLike) l28 c28 k28
  have b28 := F28.binds (ps := ["_law_found", "_law_due"]) fun _ _ _ _ _ _ us hl => by obtain ⟨_, _, rfl⟩ := len2 hl; rfl
  have F29 := fun_mk (st := sToldBy) l29 c29 k29
  have b29 := F29.binds (ps := ["_law_paper", "_law_deed"]) fun _ _ _ _ _ _ us hl => by obtain ⟨_, _, rfl⟩ := len2 hl; rfl
  have F30 := fun_mk (st := sCopies) l30 c30 k30
  have b30 := F30.binds (ps := ["_law_rounds"]) fun _ _ _ _ _ _ us hl => by obtain ⟨_, rfl⟩ := len1 hl; rfl
  have F31 := fun_mk (st := sCanBe) l31 c31 k31
  have b31 := F31.binds (ps := ["_law_rounds", "_law_spot"]) fun _ _ _ _ _ _ us hl => by obtain ⟨_, _, rfl⟩ := len2 hl; rfl
  have F32 := fun_mk (st := sAcross) l32 c32 k32
  have b32 := F32.binds (ps := ["_law_end"]) fun _ _ _ _ _ _ us hl => by obtain ⟨_, rfl⟩ := len1 hl; rfl
  have F33 := fun_mk (st := sNextIn) l33 c33 k33
  have b33 := F33.binds (ps := ["_law_rounds", "_law_end"]) fun _ _ _ _ _ _ us hl => by obtain ⟨_, _, rfl⟩ := len2 hl; rfl
  have F34 := fun_mk (st := sFaceOf) l34 c34 k34
  have b34 := F34.binds (ps := ["_law_rounds", "_law_end"]) fun _ _ _ _ _ _ us hl => by obtain ⟨_, _, rfl⟩ := len2 hl; rfl
  have F35 := fun_mk (st := sFaceAt) l35 c35 k35
  have b35 := F35.binds (ps := ["_law_rounds", "_law_spot"]) fun _ _ _ _ _ _ us hl => by obtain ⟨_, _, rfl⟩ := len2 hl; rfl
  have F36 := fun_mk (st := sPointL) l36 c36 k36
  have b36 := F36.binds (ps := ["_law_rounds"]) fun _ _ _ _ _ _ us hl => by obtain ⟨_, rfl⟩ := len1 hl; rfl
  have F37 := fun_mk (st := sGroups) l37 c37 k37
  have b37 := F37.binds (ps := ["_law_many", "_law_pairs"]) fun _ _ _ _ _ _ us hl => by obtain ⟨_, _, rfl⟩ := len2 hl; rfl
  have F38 := fun_mk (st := sFacesOf) l38 c38 k38
  have b38 := F38.binds (ps := ["_law_rounds"]) fun _ _ _ _ _ _ us hl => by obtain ⟨_, rfl⟩ := len1 hl; rfl
  have F39 := fun_mk (st := sBuiltSo) l39 c39 k39
  have b39 := F39.binds (ps := ["_law_rounds"]) fun _ _ _ _ _ _ us hl => by obtain ⟨_, rfl⟩ := len1 hl; rfl
  have F40 := fun_mk (st := sPut) l40 c40 k40
  have b40 := F40.binds (ps := ["_law_rounds", "_law_behind", "_law_end"]) fun _ _ _ _ _ _ us hl => by obtain ⟨_, _, _, rfl⟩ := len3 hl; rfl
  have F41 := fun_mk (st := sTied) l41 c41 k41
  have b41 := F41.binds (ps := ["_law_rounds", "_law_one", "_law_other"]) fun _ _ _ _ _ _ us hl => by obtain ⟨_, _, _, rfl⟩ := len3 hl; rfl
  have F42 := fun_mk (st := sDueOf) l42 c42 k42
  have b42 := F42.binds (ps := ["_law_rounds", "_law_deed"]) fun _ _ _ _ _ _ us hl => by obtain ⟨_, _, rfl⟩ := len2 hl; rfl
  have F43 := fun_mk (st := sHandIs) l43 c43 k43
  have b43 := F43.binds (ps := ["_law_told", "_law_due"]) fun _ _ _ _ _ _ us hl => by obtain ⟨_, _, rfl⟩ := len2 hl; rfl
  have F44 := fun_mk (st := sLaw) l44 c44 k44
  refine ⟨PySem.W.fnOf "law" "law" (defArgs sLaw) (defBody sLaw) (defScope sLaw) .none kV44 dc44 pm44 an44 cd44 ct44, fun s v => .of_eq rfl, fun base _ _ => ?_⟩
  have D0 : Def l.prog w K mg base "_law_upto" 1 ["_law_script", "_law_small", "_law_great"] (spUpto K) := ⟨⟨_, _, ok_upto F0 T, PySem.W.mg_of X G a0, k0, b0⟩⟩
  have D1 : Def l.prog w K mg base "_law_spot_by" 1 ["_law_cell", "_law_more", "_law_ends", "_law_points"] spSpotBy := ⟨⟨_, _, ok_spotBy F1 T, PySem.W.mg_of X G a1, k1, b1⟩⟩
  have D2 : Def l.prog w K mg base "_law_deeds" 2 ["_law_cells"] (spDeeds K) := ⟨⟨_, _, ok_deeds F2 T D1, PySem.W.mg_of X G a2, k2, b2⟩⟩
  have D3 : MkDef l.prog w K mg base "Paper" C 1 ["self"] (spInit C) := ⟨⟨_, _, ok_init F3 TP, ⟨mk, a3, i3, kc⟩, b3⟩, PySem.W.mg_of X G xC⟩
  have D4 : MDef l.prog w K mg base C "put_point" 1 ["self"] (spPoint C) := ⟨⟨_, _, ok_point F4 T TP, ⟨a4, i4, k4⟩, b4⟩⟩
  have D5 : MDef l.prog w K mg base C "look" 1 ["self"] (spLook C) := ⟨⟨_, _, ok_look F5 T TP, ⟨a5, i5, k5⟩, b5⟩⟩
  have D6 : Def l.prog w K mg base "how_many_ropes" 1 ["rounds"] spRopes := ⟨⟨_, _, ok_ropes F6 T, PySem.W.mg_of X G a6, k6, b6⟩⟩
  have D7 : Def l.prog w K mg base "is_spot" 2 ["rounds", "spot"] spIsSpot := ⟨⟨_, _, ok_isSpot F7 T D6, PySem.W.mg_of X G a7, k7, b7⟩⟩
  have D8 : Def l.prog w K mg base "put_behind" 1 ["ends", "before", "end"] spPutBehind := ⟨⟨_, _, ok_putBehind F8 T, PySem.W.mg_of X G a8, k8, b8⟩⟩
  have D9 : Def l.prog w K mg base "put_at" 2 ["rounds", "spot", "end"] spPutAt := ⟨⟨_, _, ok_putAt F9 T D8, PySem.W.mg_of X G a9, k9, b9⟩⟩
  have D10 : Def l.prog w K mg base "all_ends" 1 ["rounds"] spAllEnds := ⟨⟨_, _, ok_allEnds F10, PySem.W.mg_of X G a10, k10, b10⟩⟩
  have D11 : Def l.prog w K mg base "is_drawing" 2 ["rounds"] spIsDrawing := ⟨⟨_, _, ok_isDrawing F11 T D10, PySem.W.mg_of X G a11, k11, b11⟩⟩
  have D12 : Def l.prog w K mg base "refuse_no_drawing" 3 ["rounds"] spRefuse := ⟨⟨_, _, ok_refuse F12 D11, PySem.W.mg_of X G a12, k12, b12⟩⟩
  have D13 : Def l.prog w K mg base "points_of_ends" 1 ["rounds"] spPointsOf := ⟨⟨_, _, ok_pointsOf F13 T, PySem.W.mg_of X G a13, k13, b13⟩⟩
  have D14 : Def l.prog w K mg base "across" 1 ["end"] spAcross := ⟨⟨_, _, ok_acrossP F14, PySem.W.mg_of X G a14, k14, b14⟩⟩
  have D15 : Def l.prog w K mg base "piece_from" 2 ["rounds", "point_of", "start"] spPieceFrom := ⟨⟨_, _, ok_pieceFrom F15 T D14, PySem.W.mg_of X G a15, k15, b15⟩⟩
  have D16 : Def l.prog w K mg base "pieces" 4 ["rounds"] spPieces := ⟨⟨_, _, ok_pieces F16 T D12 D13 D15, PySem.W.mg_of X G a16, k16, b16⟩⟩
  have D17 : Def l.prog w K mg base "next_ends" 1 ["rounds"] spNextEnds := ⟨⟨_, _, ok_nextEnds F17 T, PySem.W.mg_of X G a17, k17, b17⟩⟩
  have D18 : Def l.prog w K mg base "face_from" 2 ["behind", "start"] spFaceFrom := ⟨⟨_, _, ok_faceFrom F18 D14, PySem.W.mg_of X G a18, k18, b18⟩⟩
  have D19 : Def l.prog w K mg base "faces" 4 ["rounds"] spFaces := ⟨⟨_, _, ok_faces F19 T D12 D17 D18, PySem.W.mg_of X G a19, k19, b19⟩⟩
  have D20 : Def l.prog w K mg base "how_many_faces" 5 ["rounds"] spManyFaces := ⟨⟨_, _, ok_manyFaces F20 T D19, PySem.W.mg_of X G a20, k20, b20⟩⟩
  have D21 : Def l.prog w K mg base "built" 6 ["rounds"] spBuilt := ⟨⟨_, _, ok_built F21 T D16 D20 D6, PySem.W.mg_of X G a21, k21, b21⟩⟩
  have D22 : MDef1 l.prog w K mg base C "tie" 7 ["self", "one", "other"] (spTie C CE) := ⟨⟨_, _, ok_tie F22 T TP OE D7 D6 D9 D21, ⟨a22, i22, k22⟩, b22⟩⟩
  have D23 : Def l.prog w K mg base "answer_to" 8 ["paper", "deed"] (spAnsTo C) := ⟨⟨_, _, ok_ansTo F23 TP OE m0 D4 D5 D22, PySem.W.mg_of X G a23, k23, b23⟩⟩
  have D24 : Def l.prog w K mg base "answers" 9 ["deeds"] (spAnswers K) := ⟨⟨_, _, ok_answers F24 D3 D23, PySem.W.mg_of X G a24, k24, b24⟩⟩
  have D25 : Def l.prog w K mg base "_law_whole" 1 ["_law_found"] spWhole := ⟨⟨_, _, ok_whole F25 T, PySem.W.mg_of X G a25, k25, b25⟩⟩
  have D26 : Def l.prog w K mg base "_law_are_rows" 2 ["_law_found"] spAreRows := ⟨⟨_, _, ok_areRows F26 T D25, PySem.W.mg_of X G a26, k26, b26⟩⟩
  have D27 : Def l.prog w K mg base "_law_alike" 3 ["_law_found", "_law_due"] spAlike := ⟨⟨_, _, ok_alike F27 T T2 D26 D25, PySem.W.mg_of X G a27, k27, b27⟩⟩
  have D28 : Def l.prog w K mg base "_law_like" 1 ["_law_found", "_law_due"] spLike := ⟨⟨_, _, ok_like F28 T T2, PySem.W.mg_of X G a28, k28, b28⟩⟩
  have D29 : Def l.prog w K mg base "_law_told_by" 8 ["_law_paper", "_law_deed"] (spToldBy C) := ⟨⟨_, _, ok_toldBy F29 T TP OE TX D4 D5 D22, PySem.W.mg_of X G a29, k29, b29⟩⟩
  have D30 : Def l.prog w K mg base "_law_copies" 1 ["_law_rounds"] spCopies := ⟨⟨_, _, ok_copies F30 T, PySem.W.mg_of X G a30, k30, b30⟩⟩
  have D31 : Def l.prog w K mg base "_law_can_be" 1 ["_law_rounds", "_law_spot"] spIsSpot := ⟨⟨_, _, ok_canBe F31 T, PySem.W.mg_of X G a31, k31, b31⟩⟩
  have D32 : Def l.prog w K mg base "_law_across" 1 ["_law_end"] spAcross := ⟨⟨_, _, ok_across F32, PySem.W.mg_of X G a32, k32, b32⟩⟩
  have D33 : Def l.prog w K mg base "_law_next_in" 1 ["_law_rounds", "_law_end"] spNextIn := ⟨⟨_, _, ok_nextIn F33 T, PySem.W.mg_of X G a33, k33, b33⟩⟩
  have D34 : Def l.prog w K mg base "_law_face_of" 2 ["_law_rounds", "_law_end"] spFaceOf := ⟨⟨_, _, ok_faceOf F34 D32 D33, PySem.W.mg_of X G a34, k34, b34⟩⟩
  have D35 : Def l.prog w K mg base "_law_face_at" 3 ["_law_rounds", "_law_spot"] spFaceAt := ⟨⟨_, _, ok_faceAt F35 zmin D34 D33, PySem.W.mg_of X G a35, k35, b35⟩⟩
  have D36 : Def l.prog w K mg base "_law_point_of" 1 ["_law_rounds"] spPointsOf := ⟨⟨_, _, ok_pointL F36 T, PySem.W.mg_of X G a36, k36, b36⟩⟩
  have D37 : Def l.prog w K mg base "_law_groups_of" 1 ["_law_many", "_law_pairs"] spGroups := ⟨⟨_, _, ok_groups F37 T, PySem.W.mg_of X G a37, k37, b37⟩⟩
  have D38 : Def l.prog w K mg base "_law_faces_of" 2 ["_law_rounds"] spFaces := ⟨⟨_, _, ok_facesOf F38 T D32, PySem.W.mg_of X G a38, k38, b38⟩⟩
  have D39 : Def l.prog w K mg base "_law_built_so" 3 ["_law_rounds"] spBuiltSo := ⟨⟨_, _, ok_builtSo F39 T T2 D36 D37 D38, PySem.W.mg_of X G a39, k39, b39⟩⟩
  have D40 : Def l.prog w K mg base "_law_put" 1 ["_law_rounds", "_law_behind", "_law_end"] spPut := ⟨⟨_, _, ok_put F40, PySem.W.mg_of X G a40, k40, b40⟩⟩
  have D41 : Def l.prog w K mg base "_law_tied" 2 ["_law_rounds", "_law_one", "_law_other"] spTied := ⟨⟨_, _, ok_tied F41 T D40, PySem.W.mg_of X G a41, k41, b41⟩⟩
  have D42 : Def l.prog w K mg base "_law_due_of" 4 ["_law_rounds", "_law_deed"] spDueOf := ⟨⟨_, _, ok_dueOf F42 T D30 D31 D35 D39 D41, PySem.W.mg_of X G a42, k42, b42⟩⟩
  have D43 : Def l.prog w K mg base "_law_hand_is" 4 ["_law_told", "_law_due"] spHandIs := ⟨⟨_, _, ok_handIs F43 T T2 D27, PySem.W.mg_of X G a43, k43, b43⟩⟩
  exact ok_law F44 T T2 TP D0 D2 D24 D3 D4 D5 D27 D28 D29 D42 D43
theorem walk {l : PySem.W.OpenLaw} {q : Program} {loose : List Str} {XP : (Str → Option Value) → Heap → Prop} {YP : World → Heap → Prop} {d : DefRec} {K : Params → PySem.W.Frag} (hn : l.most = some 63) (hdf : d.params.defaults = [])
    (hY : ∀ (w : World) (h : Heap), YP w h → (K w.params).In h)
    (F : ∀ (w : World) (mg : Str → Option Value) (fa : Addr) (h : Heap), (K w.params).In h → h.Ns mainGlobals mg → mg d.name = some (.ref fa) →
      ∃ fd : FuncData, (∀ (s : Shared) (u : Value), BindsTo s fd ⟨[u], []⟩ [("_law_script", u)]) ∧ ∀ base : Heap, (K w.params).In base → base.Ns mainGlobals mg → FnOk l.prog w (K w.params) mg base CX0 10 fa fd ["_law_script"] (spLaw (K w.params))) :
    PySem.W.WalkO q loose XP YP l.row.toRowW d [] (fun f vs => PySem.call f vs) :=
  L2.walk_of (n := 63) (k := 10) (x := "_law_script") (CX := fun _ => CX0) (sp := fun w => spLaw (K w.params)) hn (by decide) hdf ⟨rfl, by decide, by decide⟩ hY F (fun _ _ a ns hl _ hS => ⟨a, ns, rfl, hS, hl, fun _ => rfl⟩) fun _ _ _ _ _ z => z
end Ink
open PySem PySem.W PyProof.Rows
def _root_.PySem.W.Fast.tw4218635938432291791 : Unit := ()
def _root_.PySem.W.Fast.tw11853136274764342551 : Unit := ()
def _root_.PySem.W.Fast.tw3967316567044923682 : Unit := ()
def _root_.PySem.W.Fast.tw6905902622995276434 : Unit := ()
def _root_.PySem.W.Fast.tw15842302342029107011 : Unit := ()
def _root_.PySem.W.Fast.tw3856799974555014801 : Unit := ()
def _root_.PySem.W.Fast.tw5408467457187852613 : Unit := ()
set_option maxRecDepth 100000 in
set_option maxHeartbeats 0 in
theorem PySem.Challenge.cw_inkmap_k10_whole_paper_holds : PySem.Challenge.rw_inkmap_k10_whole_paper.Holds := by
  w_on; o_law; k_head; (case hw => w_witness2)
  k_fill
  refine Ink.walk (l := PySem.Challenge.rw_inkmap_k10_whole_paper) rfl rfl (fun w h Y => PySem.W.kIn_of Y) ?F
  case F =>
    intro w mg fa h KX G hmg
    refine' Ink.all_mk KX G hmg ?a0 ?l0 ?c0 ?k0 ?a1 ?l1 ?c1 ?k1 ?a2 ?l2 ?c2 ?k2 ?a3 ?i3 ?l3 ?c3 ?k3 ?a4 ?i4 ?l4 ?c4 ?k4 ?a5 ?i5 ?l5 ?c5 ?k5 ?a6 ?l6 ?c6 ?k6 ?a7 ?l7 ?c7 ?k7 ?a8 ?l8 ?c8 ?k8 ?a9 ?l9 ?c9 ?k9 ?a10 ?l10 ?c10 ?k10 ?a11 ?l11 ?c11 ?k11 ?a12 ?l12 ?c12 ?k12 ?a13 ?l13 ?c13 ?k13 ?a14 ?l14 ?c14 ?k14 ?a15 ?l15 ?c15 ?k15 ?a16 ?l16 ?c16 ?k16 ?a17 ?l17 ?c17 ?k17 ?a18 ?l18 ?c18 ?k18 ?a19 ?l19 ?c19 ?k19 ?a20 ?l20 ?c20 ?k20 ?a21 ?l21 ?c21 ?k21 ?a22 ?i22 ?l22 ?c22 ?k22 ?a23 ?l23 ?c23 ?k23 ?a24 ?l24 ?c24 ?k24 ?a25 ?l25 ?c25 ?k25 ?a26 ?l26 ?c26 ?k26 ?a27 ?l27 ?c27 ?k27 ?a28 ?l28 ?c28 ?k28 ?a29 ?l29 ?c29 ?k29 ?a30 ?l30 ?c30 ?k30 ?a31 ?l31 ?c31 ?k31 ?a32 ?l32 ?c32 ?k32 ?a33 ?l33 ?c33 ?k33 ?a34 ?l34 ?c34 ?k34 ?a35 ?l35 ?c35 ?k35 ?a36 ?l36 ?c36 ?k36 ?a37 ?l37 ?c37 ?k37 ?a38 ?l38 ?c38 ?k38 ?a39 ?l39 ?c39 ?k39 ?a40 ?l40 ?c40 ?k40 ?a41 ?l41 ?c41 ?k41 ?a42 ?l42 ?c42 ?k42 ?a43 ?l43 ?c43 ?k43 ?a44 ?l44 ?c44 ?k44 ?z0 ?z1 ?z2 ?z3 ?z4 ?z5 ?z6 ?z7 ?z8 ?z9 ?z10 ?z11 ?xE ?xI ?xV ?xMin ?eE ?gE0 ?gE1 ?gE2 ?gE3 ?gE4 ?gE5 ?gE6 ?m0 ?m1 ?o3 ?o4 ?xC ?pg ?hd ?po ?sa ?mk ?kc ?nR
    (case xE => k_is)
    (case xI => k_is)
    (case xC => k_is)
    (case a0 => k_is)
    (case l0 => k_is)
    (case c0 => k_is)
    (case k0 => k_is)
    (case a1 => k_is)
    (case l1 => k_is)
    (case c1 => k_is)
    (case k1 => k_is)
    (case a2 => k_is)
    (case l2 => k_is)
    (case c2 => k_is)
    (case k2 => k_is)
    (case a3 => k_is)
    (case i3 => k_is)
    (case l3 => k_is)
    (case c3 => k_is)
    (case k3 => k_is)
    (case a4 => k_is)
    (case i4 => k_is)
    (case l4 => k_is)
    (case c4 => k_is)
    (case k4 => k_is)
    (case a5 => k_is)
    (case i5 => k_is)
    (case l5 => k_is)
    (case c5 => k_is)
    (case k5 => k_is)
    (case a6 => k_is)
    (case l6 => k_is)
    (case c6 => k_is)
    (case k6 => k_is)
    (case a7 => k_is)
    (case l7 => k_is)
    (case c7 => k_is)
    (case k7 => k_is)
    (case a8 => k_is)
    (case l8 => k_is)
    (case c8 => k_is)
    (case k8 => k_is)
    (case a9 => k_is)
    (case l9 => k_is)
    (case c9 => k_is)
    (case k9 => k_is)
    (case a10 => k_is)
    (case l10 => k_is)
    (case c10 => k_is)
    (case k10 => k_is)
    (case a11 => k_is)
    (case l11 => k_is)
    (case c11 => k_is)
    (case k11 => k_is)
    (case a12 => k_is)
    (case l12 => k_is)
    (case c12 => k_is)
    (case k12 => k_is)
    (case a13 => k_is)
    (case l13 => k_is)
    (case c13 => k_is)
    (case k13 => k_is)
    (case a14 => k_is)
    (case l14 => k_is)
    (case c14 => k_is)
    (case k14 => k_is)
    (case a15 => k_is)
    (case l15 => k_is)
    (case c15 => k_is)
    (case k15 => k_is)
    (case a16 => k_is)
    (case l16 => k_is)
    (case c16 => k_is)
    (case k16 => k_is)
    (case a17 => k_is)
    (case l17 => k_is)
    (case c17 => k_is)
    (case k17 => k_is)
    (case a18 => k_is)
    (case l18 => k_is)
    (case c18 => k_is)
    (case k18 => k_is)
    (case a19 => k_is)
    (case l19 => k_is)
    (case c19 => k_is)
    (case k19 => k_is)
    (case a20 => k_is)
    (case l20 => k_is)
    (case c20 => k_is)
    (case k20 => k_is)
    (case a21 => k_is)
    (case l21 => k_is)
    (case c21 => k_is)
    (case k21 => k_is)
    (case a22 => k_is)
    (case i22 => k_is)
    (case l22 => k_is)
    (case c22 => k_is)
    (case k22 => k_is)
    (case a23 => k_is)
    (case l23 => k_is)
    (case c23 => k_is)
    (case k23 => k_is)
    (case a24 => k_is)
    (case l24 => k_is)
    (case c24 => k_is)
    (case k24 => k_is)
    (case a25 => k_is)
    (case l25 => k_is)
    (case c25 => k_is)
    (case k25 => k_is)
    (case a26 => k_is)
    (case l26 => k_is)
    (case c26 => k_is)
    (case k26 => k_is)
    (case a27 => k_is)
    (case l27 => k_is)
    (case c27 => k_is)
    (case k27 => k_is)
    (case a28 => k_is)
    (case l28 => k_is)
    (case c28 => k_is)
    (case k28 => k_is)
    (case a29 => k_is)
    (case l29 => k_is)
    (case c29 => k_is)
    (case k29 => k_is)
    (case a30 => k_is)
    (case l30 => k_is)
    (case c30 => k_is)
    (case k30 => k_is)
    (case a31 => k_is)
    (case l31 => k_is)
    (case c31 => k_is)
    (case k31 => k_is)
    (case a32 => k_is)
    (case l32 => k_is)
    (case c32 => k_is)
    (case k32 => k_is)
    (case a33 => k_is)
    (case l33 => k_is)
    (case c33 => k_is)
    (case k33 => k_is)
    (case a34 => k_is)
    (case l34 => k_is)
    (case c34 => k_is)
    (case k34 => k_is)
    (case a35 => k_is)
    (case l35 => k_is)
    (case c35 => k_is)
    (case k35 => k_is)
    (case a36 => k_is)
    (case l36 => k_is)
    (case c36 => k_is)
    (case k36 => k_is)
    (case a37 => k_is)
    (case l37 => k_is)
    (case c37 => k_is)
    (case k37 => k_is)
    (case a38 => k_is)
    (case l38 => k_is)
    (case c38 => k_is)
    (case k38 => k_is)
    (case a39 => k_is)
    (case l39 => k_is)
    (case c39 => k_is)
    (case k39 => k_is)
    (case a40 => k_is)
    (case l40 => k_is)
    (case c40 => k_is)
    (case k40 => k_is)
    (case a41 => k_is)
    (case l41 => k_is)
    (case c41 => k_is)
    (case k41 => k_is)
    (case a42 => k_is)
    (case l42 => k_is)
    (case c42 => k_is)
    (case k42 => k_is)
    (case a43 => k_is)
    (case l43 => k_is)
    (case c43 => k_is)
    (case k43 => k_is)
    (case a44 => k_is)
    (case l44 => k_is)
    (case c44 => k_is)
    (case k44 => k_is)
    (case z0 => k_is)
    (case z1 => k_is)
    (case z2 => k_is)
    (case z3 => k_is)
    (case z4 => k_is)
    (case z5 => k_is)
    (case z6 => k_is)
    (case z7 => k_is)
    (case z8 => k_is)
    (case z9 => k_is)
    (case z10 => k_is)
    (case z11 => k_is)
    (case xV => k_is)
    (case xMin => k_is)
    (case eE => k_exc)
    (case gE0 => k_is)
    (case gE1 => k_is)
    (case gE2 => k_is)
    (case gE3 => k_is)
    (case gE4 => k_is)
    (case gE5 => k_is)
    (case gE6 => k_is)
    (case m0 => kts_exm)
    (case m1 => kts_exm)
    (case o3 => kit_is)
    (case o4 => kit_is)
    (case pg => k_is)
    (case hd => k_is)
    (case po => k_is)
    (case sa => k_is)
    (case mk => k_is)
    (case kc => k_is)
    (case nR => k_is)
