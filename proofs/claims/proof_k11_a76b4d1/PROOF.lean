import PyProof.Rows.All
import Wide.All
import OpenK.AllK
import Wide.FinOn
import Lean
import PyProof.EqAt
import PyProof.EqKinds
import PyProof.TupleCall
import PyProof.Rows.SetFrom
import PyProof.DictIter
import PyProof.CollectWalk
import PyProof.Rows.SortShell
import KE.RegKTryMore
import KE.RegKIsAll
import PySem.Challenge.RW_inkmap_k11_refused
set_option Elab.async false
set_option linter.all false
set_option maxRecDepth 100000
namespace L2
open PySem PySem.Spec PyProof.Rows
abbrev Key := Sum Int Str
def keyIs : Key → Value → Bool
  | .inl k, v => Value.isInt k v
  | .inr x, v => Value.isStrOf x v
def keyH (w : World) : Key → Int
  | .inl k => hashInt k
  | .inr x => hashStr w x
theorem keyIs_shape : ∀ {k : Key} {v : Value}, keyIs k v = true → (∃ i t, k = Sum.inl i ∧ v = Value.int i t) ∨ (∃ x t, k = Sum.inr x ∧ v = Value.str x t)
  | .inl i, v, h => by
    obtain ⟨t, e⟩ := Value.isInt_shape (k := i) (v := v) h
    exact .inl ⟨i, t, rfl, e⟩
  | .inr x, v, h => by
    obtain ⟨t, e⟩ := Value.isStrOf_shape (x := x) (v := v) h
    exact .inr ⟨x, t, rfl, e⟩
theorem keyIs_int (i : Int) (t : Tok) : keyIs (.inl i) (.int i t) = true := by simp [keyIs, Value.isInt]
theorem keyIs_str (x : Str) (t : Tok) : keyIs (.inr x) (.str x t) = true := by simp [keyIs, Value.isStrOf]
theorem key_ll (a b : Int) : decide ((Sum.inl a : Key) = Sum.inl b) = (a == b) := by
  by_cases e : a = b
  · subst e; simp
  · have h : ¬ (Sum.inl a : Key) = Sum.inl b := fun q => e (Sum.inl.inj q)
    rw [decide_eq_false h]
    exact (beq_eq_false_iff_ne.mpr e).symm
theorem key_rr (a b : Str) : decide ((Sum.inr a : Key) = Sum.inr b) = decide (a = b) := by
  by_cases e : a = b
  · subst e; simp
  · have h : ¬ (Sum.inr a : Key) = Sum.inr b := fun q => e (Sum.inr.inj q)
    rw [decide_eq_false h, decide_eq_false e]
theorem key_lr (a : Int) (b : Str) : decide ((Sum.inl a : Key) = Sum.inr b) = false := decide_eq_false (fun q => nomatch q)
theorem key_rl (a : Str) (b : Int) : decide ((Sum.inr a : Key) = Sum.inl b) = false := decide_eq_false (fun q => nomatch q)
def mixKind (prog : Program) (w : World) : PySem.KeyKind prog w Key where
  is := keyIs
  hash := keyH w
  inj := fun v a b ha hb => by
    rcases keyIs_shape ha with ⟨i, t, rfl, rfl⟩ | ⟨x, t, rfl, rfl⟩
    · rcases keyIs_shape hb with ⟨j, u, rfl, e⟩ | ⟨y, u, rfl, e⟩
      · injection e with e1 _; rw [e1]
      · exact nomatch e
    · rcases keyIs_shape hb with ⟨j, u, rfl, e⟩ | ⟨y, u, rfl, e⟩
      · exact nomatch e
      · injection e with e1 _; rw [e1]
  byValue := fun k v h => by
    rcases keyIs_shape h with ⟨i, t, rfl, rfl⟩ | ⟨x, t, rfl, rfl⟩ <;> rfl
  pyHash := fun hv h => by
    rcases keyIs_shape hv with ⟨i, t, rfl, rfl⟩ | ⟨x, t, rfl, rfl⟩
    · exact wpAny_pyHash_int h
    · exact wpAny_pyHash_str h
  eqBool := fun hu hv h => by
    rcases keyIs_shape hu with ⟨i, t, rfl, rfl⟩ | ⟨x, t, rfl, rfl⟩
    · rcases keyIs_shape hv with ⟨j, u, rfl, rfl⟩ | ⟨y, u, rfl, rfl⟩
      · rw [key_ll] at h; exact wpAny_eqBool_int h
      · rw [key_lr] at h; exact SeqAt.EqAt.int_str i t y u _ _ _ _ h
    · rcases keyIs_shape hv with ⟨j, u, rfl, rfl⟩ | ⟨y, u, rfl, rfl⟩
      · rw [key_rl] at h; exact SeqAt.EqAt.str_int x t j u _ _ _ _ h
      · rw [key_rr] at h; exact wpAny_eqBool_str h
  «strs» := fun k x t v h => by
    rcases keyIs_shape h with ⟨i, u, rfl, e⟩ | ⟨y, u, rfl, e⟩
    · exact nomatch e
    · injection e with e1 _
      subst e1
      cases v <;> rfl
theorem mixKind_int (prog : Program) (w : World) (i : Int) (t : Tok) : (mixKind prog w).is (.inl i) (.int i t) = true := keyIs_int i t
theorem mixKind_str (prog : Program) (w : World) (x : Str) (t : Tok) : (mixKind prog w).is (.inr x) (.str x t) = true := keyIs_str x t
end L2
namespace L2
open PySem PySem.Spec PyProof.Rows
inductive V where
  | non | bl (b : Bool) | int (i : Int) | str (x : Str) | byt (b : Array UInt8) | flt (b : UInt64) | ref (a : Addr) | ty (n : String)
  deriving DecidableEq
def RelV : V → Value → Prop
  | .non, u => u = Value.none
  | .bl b, u => u = Value.bool b
  | .int i, u => ∃ t, u = Value.int i t
  | .str x, u => ∃ t, u = Value.str x t
  | .byt b, u => ∃ t, u = Value.bytes b t
  | .flt b, u => ∃ t, u = Value.float b t
  | .ref a, u => u = Value.ref a
  | .ty n, u => u = Value.type n
abbrev Vals : List V → List Value → Prop := Paired RelV
theorem Vals.length {xs : List V} {us : List Value} (r : Vals xs us) : xs.length = us.length := Paired.length r
theorem Vals.get : ∀ {xs : List V} {us : List Value} {i : Nat} {x : V}, Vals xs us → xs[i]? = some x → ∃ u, us[i]? = some u ∧ RelV x u
  | _, _, _, _, .nil, e => by simp at e
  | _, _, 0, _, .cons r _, e => by simp at e; subst e; exact ⟨_, rfl, r⟩
  | _, _, i + 1, x, .cons _ t, e => by
    obtain ⟨u, h1, h2⟩ := Vals.get (i := i) (x := x) t (by simpa using e)
    exact ⟨u, by simpa using h1, h2⟩
theorem Vals.set {x : V} {u : Value} (r : RelV x u) : ∀ {xs : List V} {us : List Value} (i : Nat), Vals xs us → Vals (xs.set i x) (us.set i u)
  | _, _, _, .nil => .nil
  | _, _, 0, .cons _ t => .cons r t
  | _, _, i + 1, .cons q t => .cons q (Vals.set r i t)
theorem Vals.append : ∀ {xs ys : List V} {us ws : List Value}, Vals xs us → Vals ys ws → Vals (xs ++ ys) (us ++ ws)
  | _, _, _, _, .nil, s => s
  | _, _, _, _, .cons r t, s => .cons r (Vals.append t s)
theorem Vals.take : ∀ {xs : List V} {us : List Value} (n : Nat), Vals xs us → Vals (xs.take n) (us.take n)
  | _, _, 0, _ => .nil
  | _, _, _ + 1, .nil => .nil
  | _, _, n + 1, .cons r t => .cons r (Vals.take n t)
theorem Vals.drop : ∀ {xs : List V} {us : List Value} (n : Nat), Vals xs us → Vals (xs.drop n) (us.drop n)
  | _, _, 0, r => r
  | _, _, _ + 1, .nil => .nil
  | _, _, n + 1, .cons _ t => Vals.drop n t
def RelO : Option V → Option Value → Prop
  | some v, some u => RelV v u
  | none, none => True
  | _, _ => False
def KV {κ : Type} : List (κ × V) → List (κ × Value) → Prop := Paired fun (p : κ × V) (q : κ × Value) => p.1 = q.1 ∧ RelV p.2 q.2
def kV : Key → V
  | .inl i => .int i
  | .inr x => .str x
inductive HO where
  /-- a list -/
  | lst (xs : List V)
  /-- a tuple (never changes) -/
  | tup (xs : List V)
  /-- a dict whose keys are ints and texts; one whose keys are tuples of ints and texts (the empty one is both) -/
  | dK (kvs : List (Key × V)) | dT (kvs : List (List Key × V))
  /-- a set of ints: its members, its size -/
  | set (S : Int → Bool) (n : Nat)
  /-- an instance of the class at C, its dict at dx, its attributes -/
  | ins (C dx : Addr) (fs : List (Str × V))
  /-- the dict of the instance at x -/
  | own (x : Addr)
  /-- the dict of an exception -/
  | xd (fs : List (Str × V))
  /-- a bound method, f of x -/
  | met (f x : Addr)
  /-- a range object lo, lo + 1, .. below hi -/
  | rng (lo hi : Int)
  /-- a thing that is known to the object (the script; a dict while a loop walks it): read, never written while it is so -/
  | frz (o : Obj) (u : HO)
  /-- a code object's table -/
  | tbl (ps : Array Value)
  /-- any other thing, by what is true of its one object (a def of one's own: SetO a S n := HO.ext fun h => ..) -/
  | ext (φ : Heap → Prop)
abbrev Hp := Addr → Option HO
def upd (H : Hp) (a : Addr) (o : HO) : Hp := fun b => if b = a then some o else H b
theorem upd_same {H : Hp} {a : Addr} {o : HO} : upd H a o a = some o := by unfold upd; rw [if_pos rfl]
theorem upd_ne {H : Hp} {a b : Addr} {o : HO} (h : b ≠ a) : upd H a o b = H b := by unfold upd; rw [if_neg h]
theorem ne_of {H : Hp} {a b : Addr} {o u : HO} (h : H a = some o) (h' : H b = some u) (d : o ≠ u) : a ≠ b := by
  intro e; subst e; rw [h] at h'; exact d (Option.some.inj h')
theorem ne_of_none {H : Hp} {a b : Addr} {o : HO} (h : H a = some o) (h' : H b = none) : a ≠ b := by
  intro e; subst e; rw [h] at h'; cases h'
section
variable (P : Program) (w : World)
def ObjOk (H : Hp) (h : Heap) (a : Addr) : HO → Prop
  | .lst xs => xs.length ≤ sizeLine ∧ ∃ (its : List Value) (n : Nat), Vals xs its ∧ h.get? a = some { cls := .type "list", data := .seq its.toArray n }
  | .tup xs => xs.length ≤ sizeLine ∧ ∃ its : List Value, Vals xs its ∧ IsTup h a its.toArray
  | .dK kvs => kvs.length ≤ sizeLine ∧ (a == sysModules) = false ∧ ∃ vs, KV kvs vs ∧ h.DictOf (mixKind P w) a vs
  | .dT kvs => kvs.length ≤ sizeLine ∧ (a == sysModules) = false ∧ ∃ xs : List (List Key × Addr × Value),
      Paired (fun (p : List Key × V) (q : List Key × Addr × Value) => p.1 = q.1 ∧ H q.2.1 = some (.tup (p.1.map kV)) ∧ RelV p.2 q.2.2) kvs xs ∧
      ∃ o es ep, h.get? a = some o ∧ o.ExactDict ∧ o.data = .dict es ep ∧ es.toList = xs.map (entryOfKey (tupleKind (mixKind P w))) ∧ (xs.map (·.1)).Nodup
  | .set S n => h.SetOf (intKind P w) a S n
  | .ins C dx fs => H dx = some (.own a) ∧ fs.length ≤ 1000 ∧ dx ≠ a ∧ h.get? a = some (PySem.W.instObj C dx) ∧
      ∃ mA, h.Ns1 dx mA ∧ (∀ f, RelO (fs.lookup f) (mA f)) ∧ PySem.Within mA (fs.map (·.1))
  | .own _ => ∃ o, h.get? a = some o
  | .xd fs => ∃ mA, h.Ns1 a mA ∧ ∀ f, RelO (fs.lookup f) (mA f)
  | .rng lo hi => ∃ t u v, h.get? a = some { cls := .type "range", data := .fields #[.int lo t, .int hi u, .int 1 v] }
  | .frz o u => h.get? a = some o ∧ ObjOk H h a u
  | .tbl ps => h.get? a = some { cls := .none, data := .fields ps }
  | .met f x => h.get? a = some (PySem.W.methodObj (.ref f) (.ref x))
  | .ext φ => φ h ∧ (∃ o, h.get? a = some o) ∧ ∀ h1 h2 : Heap, φ h1 → (∀ o, h1.get? a = some o → h2.get? a = some o) → φ h2
def HOk (H : Hp) (h : Heap) : Prop := ∀ a o, H a = some o → ObjOk P w H h a o
end
section
variable {P : Program} {w : World} {H H' : Hp} {h h' : Heap} {a : Addr} {o : HO}
theorem ObjOk.lt (x : ObjOk P w H h a o) : a < h.objs.size := by
  cases o with
  | lst xs => obtain ⟨_, _, _, _, e⟩ := x; exact Heap.lt_size e
  | tup xs => obtain ⟨_, _, _, p⟩ := x; exact p.lt
  | dK kvs => obtain ⟨_, _, _, _, o, _, _, e, _⟩ := x; exact Heap.lt_size e
  | dT kvs => obtain ⟨_, _, _, _, o, _, _, e, _⟩ := x; exact Heap.lt_size e
  | set S n => obtain ⟨o, _, _, _, e, _⟩ := x; exact Heap.lt_size e
  | ins C dx fs => obtain ⟨_, _, _, e, _⟩ := x; exact Heap.lt_size e
  | own y => obtain ⟨_, e⟩ := x; exact Heap.lt_size e
  | xd fs => obtain ⟨_, ⟨_, _, _, e, _⟩, _⟩ := x; exact Heap.lt_size e
  | rng lo hi => obtain ⟨_, _, _, e⟩ := x; exact Heap.lt_size e
  | frz ob u => obtain ⟨e, _⟩ := x; exact Heap.lt_size e
  | tbl ps => exact Heap.lt_size (show h.get? a = some _ from x)
  | met f y => exact Heap.lt_size (show h.get? a = some _ from x)
  | ext φ => obtain ⟨_, ⟨_, e⟩, _⟩ := x; exact Heap.lt_size e
theorem Paired.mapP {α β : Type} {F G : α → β → Prop} : ∀ {l₁ : List α} {l₂ : List β}, Paired F l₁ l₂ → (∀ a b, F a b → G a b) → Paired G l₁ l₂
  | _, _, .nil, _ => .nil
  | _, _, .cons r t, f => .cons (f _ _ r) (Paired.mapP t f)
theorem ObjOk.stay (x : ObjOk P w H h a o) (k : ∀ b u, (b = a ∨ H b = some (.own a)) → h.get? b = some u → h'.get? b = some u)
    (ho : ∀ b, H b = some (.own a) → H' b = some (.own a)) (ht : ∀ b xs, H b = some (.tup xs) → H' b = some (.tup xs)) : ObjOk P w H' h' a o := by
  induction o with
  | lst xs => obtain ⟨z, its, n, r, e⟩ := x; exact ⟨z, its, n, r, k _ _ (.inl rfl) e⟩
  | tup xs => obtain ⟨z, its, r, ob, e, c⟩ := x; exact ⟨z, its, r, ob, k _ _ (.inl rfl) e, c⟩
  | dK kvs => obtain ⟨z, y, vs, r, ob, es, ep, e, c⟩ := x; exact ⟨z, y, vs, r, ob, es, ep, k _ _ (.inl rfl) e, c⟩
  | dT kvs =>
    obtain ⟨z, y, xs, r, ob, es, ep, e, c⟩ := x
    exact ⟨z, y, xs, Paired.mapP r fun p q z => ⟨z.1, ht _ _ z.2.1, z.2.2⟩, ob, es, ep, k _ _ (.inl rfl) e, c⟩
  | set S n => obtain ⟨ob, es, ep, t, e, c⟩ := x; exact ⟨ob, es, ep, t, k _ _ (.inl rfl) e, c⟩
  | ins C dx fs =>
    obtain ⟨d, z, ne, e, mA, ⟨od, es, ep, e2, c⟩, r⟩ := x
    exact ⟨ho _ d, z, ne, k _ _ (.inl rfl) e, mA, ⟨od, es, ep, k _ _ (.inr d) e2, c⟩, r⟩
  | own y => obtain ⟨ob, e⟩ := x; exact ⟨ob, k _ _ (.inl rfl) e⟩
  | xd fs => obtain ⟨mA, ⟨od, es, ep, e, c⟩, r⟩ := x; exact ⟨mA, ⟨od, es, ep, k _ _ (.inl rfl) e, c⟩, r⟩
  | rng lo hi => obtain ⟨t, u, v, e⟩ := x; exact ⟨t, u, v, k _ _ (.inl rfl) e⟩
  | frz ob u ih => obtain ⟨e, q⟩ := x; exact ⟨k _ _ (.inl rfl) e, ih q⟩
  | tbl ps =>
    have e : h.get? a = some { cls := .none, data := .fields ps } := x
    show h'.get? a = some { cls := .none, data := .fields ps }
    exact k a _ (.inl rfl) e
  | met f y =>
    have e : h.get? a = some (PySem.W.methodObj (.ref f) (.ref y)) := x
    show h'.get? a = some (PySem.W.methodObj (.ref f) (.ref y))
    exact k a _ (.inl rfl) e
  | ext φ => obtain ⟨p, ⟨o, e⟩, st⟩ := x; exact ⟨st _ _ p fun o q => k _ _ (.inl rfl) q, ⟨o, k _ _ (.inl rfl) e⟩, st⟩
theorem HOk.lt (x : HOk P w H h) (e : H a = some o) : a < h.objs.size := (x a o e).lt
theorem HOk.fresh (x : HOk P w H h) (e : h.objs.size ≤ a) : H a = none := by
  cases q : H a with
  | none => rfl
  | some u => exact absurd (Nat.lt_of_lt_of_le (x.lt q) e) (Nat.lt_irrefl _)
theorem HOk.kept (x : HOk P w H h) (k : ∀ b u, h.get? b = some u → h'.get? b = some u) : HOk P w H h' := fun a o e =>
  (x a o e).stay (fun b u _ q => k b u q) (fun _ q => q) fun _ _ q => q
theorem HOk.laid (x : HOk P w H h) (k : ∀ b u, h.get? b = some u → h'.get? b = some u) (hp : h.objs.size ≤ a) (new : ObjOk P w (upd H a o) h' a o) : HOk P w (upd H a o) h' := fun b u e => by
  have hn := x.fresh hp
  by_cases hb : b = a
  · subst hb; rw [upd_same] at e; cases e; exact new
  · rw [upd_ne hb] at e
    exact (x b u e).stay (fun c v _ q => k c v q) (fun c q => by rw [upd_ne (ne_of_none q hn)]; exact q) fun c xs q => by rw [upd_ne (ne_of_none q hn)]; exact q
end
def Rd (H : Hp) (a : Addr) (u : HO) : Prop := H a = some u ∨ ∃ o, H a = some (.frz o u)
theorem Rd.ok {P : Program} {w : World} {H : Hp} {h : Heap} {a : Addr} {u : HO} (r : Rd H a u) (x : HOk P w H h) : ObjOk P w H h a u := by
  rcases r with r | ⟨o, r⟩
  · exact x a u r
  · obtain ⟨_, q⟩ := x a _ r
    exact q
def Mut : Option HO → Prop
  | some (.lst _) => True
  | some (.dK _) => True
  | some (.dT _) => True
  | some (.set _ _) => True
  | some (.ins _ _ _) => True
  | some (.ext _) => True
  | _ => False
section
variable {P : Program} {w : World} {H : Hp} {h h' : Heap} {x e : Addr} {o' : HO}
theorem HOk.write (ok : HOk P w H h) (mu : Mut (H x)) (he : e = x ∨ H e = some (.own x)) (k : ∀ b u, b ≠ e → h.get? b = some u → h'.get? b = some u) (heo : ∃ u, h'.get? e = some u)
    (new : ObjOk P w (upd H x o') h' x o') : HOk P w (upd H x o') h' := fun b u q => by
  have nown : ∀ c y, H c = some (.own y) → c ≠ x := fun c y r z => by subst z; rw [r] at mu; exact mu
  have ntup : ∀ c xs, H c = some (.tup xs) → c ≠ x := fun c xs r z => by subst z; rw [r] at mu; exact mu
  by_cases hb : b = x
  · subst hb; rw [upd_same] at q; cases q; exact new
  · rw [upd_ne hb] at q
    by_cases hbe : b = e
    · have q' : H b = some (.own x) := by
        rcases he with z | z
        · exact absurd (hbe.trans z) hb
        · rw [hbe]; exact z
      rw [q] at q'; cases q'
      obtain ⟨v, hv⟩ := heo
      exact ⟨v, by rw [hbe]; exact hv⟩
    · refine (ok b u q).stay (fun c v hc r => k c v ?_ r) (fun c r => by rw [upd_ne (nown c b r)]; exact r) fun c xs r => by rw [upd_ne (ntup c xs r)]; exact r
      rcases hc with rfl | hc
      · exact hbe
      · rintro rfl
        rcases he with z | z
        · exact nown c b hc z
        · rw [hc] at z; cases z; exact hb rfl
end
structure Un (fs ex : List Addr) (H H' : Hp) (h h' : Heap) : Prop where
  keep : ∀ b o, h.get? b = some o → H b = none → b ∉ fs → b ∉ ex → h'.get? b = some o
  slot : ∀ b o, h.get? b = some o → H b = none → b ∈ fs → b ∉ ex → ∃ sl, h'.get? b = some { o with slots := sl }
  free : ∀ b o, h.get? b = some o → H b = none → b ∉ ex → H' b = none
  there : ∀ b o, h.get? b = some o → b ∉ ex → ∃ o', h'.get? b = some o'
  tups : ∀ b xs, H b = some (.tup xs) → H' b = some (.tup xs)
  frzs : ∀ b o u, H b = some (.frz o u) → H' b = some (.frz o u)
  tbls : ∀ b ps, H b = some (.tbl ps) → ∃ more, H' b = some (.tbl (ps ++ more))
section
variable {fs fs' ex ex' : List Addr} {H H1 H2 : Hp} {h h1 h2 h' : Heap} {a x e : Addr} {o : HO}
theorem Un.any (u : Un fs ex H H1 h h1) {b : Addr} {ob : Obj} (q : h.get? b = some ob) (n : H b = none) (hx : b ∉ ex) : ∃ sl, h1.get? b = some { ob with slots := sl } := by
  by_cases hb : b ∈ fs
  · exact u.slot b ob q n hb hx
  · exact ⟨ob.slots, u.keep b ob q n hb hx⟩
theorem Un.kept (k : ∀ b u, h.get? b = some u → h'.get? b = some u) : Un fs ex H H h h' :=
  ⟨fun b ob q _ _ _ => k b ob q, fun b ob q _ _ _ => ⟨ob.slots, k b ob q⟩, fun _ _ _ n _ => n, fun b ob q _ => ⟨ob, k b ob q⟩, fun _ _ q => q, fun _ _ _ q => q, fun _ ps q => ⟨#[], by rw [q]; simp⟩⟩
theorem Un.refl : Un fs ex H H h h := Un.kept fun _ _ q => q
theorem Un.laid (k : ∀ b u, h.get? b = some u → h'.get? b = some u) (hp : h.objs.size ≤ a) (hn : H a = none) : Un fs ex H (upd H a o) h h' where
  keep := fun b u q _ _ _ => k b u q
  slot := fun b u q _ _ _ => ⟨u.slots, k b u q⟩
  free := fun b u q n _ => by rw [upd_ne (Nat.ne_of_lt (Nat.lt_of_lt_of_le (Heap.lt_size q) hp))]; exact n
  there := fun b u q _ => ⟨u, k b u q⟩
  tups := fun b xs q => by rw [upd_ne (ne_of_none q hn)]; exact q
  frzs := fun b u xs q => by rw [upd_ne (ne_of_none q hn)]; exact q
  tbls := fun b ps q => ⟨#[], by rw [upd_ne (ne_of_none q hn), q]; simp⟩
theorem Un.write (mu : Mut (H x)) (he : e = x ∨ H e = some (.own x)) (k : ∀ b u, b ≠ e → h.get? b = some u → h'.get? b = some u) (heo : ∃ u, h'.get? e = some u) : Un fs ex H (upd H x o) h h' := by
  have hx : ∀ b, H b = none → b ≠ x := fun b n z => by subst z; rw [n] at mu; exact mu
  have hb : ∀ b, H b = none → b ≠ e := fun b n z => by
    subst z
    rcases he with r | r
    · exact hx b n r
    · rw [n] at r; cases r
  have hm : ∀ b u, H b = some u → ¬ Mut (some u) → b ≠ x := fun b u q nm z => by subst z; rw [q] at mu; exact nm mu
  refine ⟨fun b u q n _ _ => k b u (hb b n) q, fun b u q n _ _ => ⟨u.slots, k b u (hb b n) q⟩, fun b u q n _ => by rw [upd_ne (hx b n)]; exact n, fun b u q _ => ?_,
    fun b xs q => by rw [upd_ne (hm b _ q fun z => z)]; exact q, fun b u xs q => by rw [upd_ne (hm b _ q fun z => z)]; exact q, fun b ps q => ⟨#[], by rw [upd_ne (hm b _ q fun z => z), q]; simp⟩⟩
  by_cases hbe : b = e
  · subst hbe; exact heo
  · exact ⟨u, k b u hbe q⟩
end
def trk (h : Heap) (H : Hp) : List Addr := (List.range h.objs.size).filter fun a => (H a).isSome
def hidT (h : Heap) (H : Hp) : Heap := PySem.W.hideAll h (trk h H)
theorem hidT_size (h : Heap) (H : Hp) : (hidT h H).objs.size = h.objs.size := PySem.W.hideAll_size _ _
theorem hidT_get {h : Heap} {H : Hp} {b : Addr} {o : Obj} (e : h.get? b = some o) (n : H b = none) : (hidT h H).get? b = some o :=
  PySem.W.hideAll_get _ e fun hm => by
    have q : (H b).isSome = true := (List.mem_filter.mp hm).2
    rw [n] at q; simp at q
theorem of_hidT {h : Heap} {H : Hp} {b : Addr} {o : Obj} (e : (hidT h H).get? b = some o) : h.get? b = some o ∧ H b = none := by
  have e' : h.get? b = some o := PySem.W.of_hideAll (trk h H) e
  refine ⟨e', ?_⟩
  cases q : H b with
  | none => rfl
  | some x =>
    have hm : b ∈ trk h H := List.mem_filter.mpr ⟨List.mem_range.mpr (Heap.lt_size e'), by simp [q]⟩
    have z : (hidT h H).get? b = none := PySem.W.hideAll_none (trk h H) hm
    rw [z] at e; cases e
def allNews (g h : Heap) (L : Addr) : List (Addr × Obj) := (List.range h.objs.size).filterMap fun a => if a = L ∨ (g.get? a).isSome = true then none else (h.get? a).map fun o => (a, o)
def rest (g h : Heap) (L d : Addr) : List (Addr × Obj) := (allNews g h L).filter fun p => decide (p.1 ≠ d)
end L2
namespace L2
open PySem PySem.Spec PyProof.Rows
structure Mod (K : PySem.W.Frag) (mg : Str → Option Value) (base : Heap) : Prop where
  kin : K.In base
  glob : base.Ns mainGlobals mg
  blt : ∃ mb, base.Ns builtinsNs mb ∧ ∀ x : Str, x ≠ "__name__" → mb x = bootBuiltins x
  nolimit : base.NoLimit
structure Cx where
  prog : Program
  w : World
  K : PySem.W.Frag
  mg : Str → Option Value
  base : Heap
  A : Around
  N : List Str
  s₀ : Shared
  H₀ : Hp
  env : Env
  outer : List Env
  stack : List Env
  ex : List Addr
  fn : Str → Bool
  calm : Bool
  pn : List (Addr × Obj)
  xe : Value → Shared → Prop
def frs (l : List Env) : List Addr := l.filterMap (·.frame)
abbrev Cx.fs (X : Cx) : List Addr := frs X.outer
def Vis (sc : Scope) (x : Str) : Prop := sc.names.lookup x = some .local ∨ sc.names.lookup x = some .cell ∨ sc.names.lookup x = some .free
def Loc (sc : Scope) (x : Str) : Prop := sc.names.lookup x = some .local ∨ sc.names.lookup x = some .cell
def Look (env : Env) (h : Heap) (m : Str → Option Value) (x : Str) (u : Value) : Prop :=
  (env.kindOf x = some .local ∧ m x = some u) ∨ ((env.kindOf x = some .cell ∨ env.kindOf x = some .free) ∧ ∃ c, env.cells.lookup x = some c ∧ h.IsCell c (some u))
structure Cx.Ok (X : Cx) : Prop where
  mod : Mod X.K X.mg X.base
  kind : X.env.scope.kind = .function
  glob : X.env.globals = mainGlobals
  blt : X.env.builtins = builtinsNs
  above : X.s₀.heap.objs.size ≤ X.env.locals
  inj : ∀ x y c, X.env.cells.lookup x = some c → X.env.cells.lookup y = some c → x = y
  has : ∀ x, (X.env.kindOf x = some .cell ∨ X.env.kindOf x = some .free) → ∃ c, X.env.cells.lookup x = some c
  cab : ∀ x c, X.fn x = true → X.env.cells.lookup x = some c → X.s₀.heap.objs.size ≤ c
  hd : X.calm = true → X.A.handled = none
  frames : X.A.frames = some X.stack
  stk : X.stack = X.outer ∨ (X.stack = X.env :: X.outer ∧ X.env.frame = some X.env.locals)
  exf : ∀ b ∈ X.ex, b ≠ X.env.locals ∧ ∀ x c, X.env.cells.lookup x = some c → c ≠ b
  bs : ∀ b o, X.base.get? b = some o → X.s₀.heap.get? b = some o ∧ X.H₀ b = none
  bsz : X.base.objs.size ≤ X.s₀.heap.objs.size
  noex : ∀ b o, X.base.get? b = some o → b ∉ X.ex
  exfs : ∀ b ∈ X.ex, b ∉ X.fs
  funs : X.s₀.heap.FunFrames X.base X.outer
  frf : ∀ b ∈ X.fs, X.H₀ b = none
structure Inv (X : Cx) (pins : List (Addr × Obj)) (σ : List (Option V)) (H : Hp) (s : Shared) : Prop where
  ok : X.Ok
  os : s.os = X.s₀.os
  bare : AllBare s.gens
  base : Un X.fs X.ex X.H₀ H X.s₀.heap s.heap
  loc : ∃ m, s.heap.Ns X.env.locals m ∧ ∀ (i : Nat) (x : Str) (v : V), X.N[i]? = some x → σ[i]? = some (some v) → Vis X.env.scope x → ∃ u, RelV v u ∧ Look X.env s.heap m x u
  cell : ∀ x c, X.env.cells.lookup x = some c → ∃ v, s.heap.IsCell c v
  free : H X.env.locals = none
  freeC : ∀ x c, X.env.cells.lookup x = some c → H c = none
  pin : ∀ p ∈ X.pn ++ pins, s.heap.get? p.1 = some p.2 ∧ H p.1 = none ∧ p.1 ≠ X.env.locals ∧ p.1 ∉ X.fs ∧ ∀ v, p.2.data ≠ .cell v
  hok : HOk X.prog X.w H s.heap
  len : σ.length = X.N.length
section
variable {X : Cx} {pins : List (Addr × Obj)} {σ : List (Option V)} {H H' : Hp} {s : Shared} {h' : Heap}
theorem Cx.Ok.nofr (ok : X.Ok) {b : Addr} {o : Obj} (e : X.base.get? b = some o) : b ∉ X.fs := fun hb => by
  have := (ok.funs.mem hb).1
  rw [e] at this; cases this
theorem Inv.bs (I : Inv X pins σ H s) : ∀ b o, X.base.get? b = some o → s.heap.get? b = some o ∧ H b = none := fun b o e =>
  ⟨I.base.keep b o (I.ok.bs b o e).1 (I.ok.bs b o e).2 (I.ok.nofr e) (I.ok.noex b o e), I.base.free b o (I.ok.bs b o e).1 (I.ok.bs b o e).2 (I.ok.noex b o e)⟩
theorem Inv.bk (I : Inv X pins σ H s) : ∀ b o, X.base.get? b = some o → s.heap.get? b = some o := fun b o e => (I.bs b o e).1
theorem Inv.mod (I : Inv X pins σ H s) : Mod X.K X.mg X.base := I.ok.mod
theorem Inv.kIn (I : Inv X pins σ H s) : X.K.In s.heap := I.ok.mod.kin.keeps I.bk
theorem Inv.lt (I : Inv X pins σ H s) : X.env.locals < s.heap.objs.size := let ⟨_, hn, _⟩ := I.loc; hn.lt
theorem Inv.sz (I : Inv X pins σ H s) : X.s₀.heap.objs.size ≤ s.heap.objs.size := Nat.le_trans I.ok.above (Nat.le_of_lt I.lt)
theorem Inv.nofs (I : Inv X pins σ H s) {a : Addr} (h : s.heap.objs.size ≤ a) : a ∉ X.fs := fun hb => by
  obtain ⟨_, o, ho, _⟩ := I.ok.funs.mem hb
  exact absurd (Nat.lt_of_lt_of_le (Heap.lt_size ho) (Nat.le_trans I.sz h)) (Nat.lt_irrefl _)
theorem Inv.cne (I : Inv X pins σ H s) : ∀ x c, X.env.cells.lookup x = some c → c ≠ X.env.locals := fun x c e z => by
  obtain ⟨v, o, ho, hd⟩ := I.cell x c e
  obtain ⟨m, ⟨o', es, ep, ho', hd', _⟩, _⟩ := I.loc
  rw [z, ho'] at ho; cases ho; rw [hd'] at hd; cases hd
theorem Inv.funs (I : Inv X pins σ H s) : s.heap.FunFrames X.base X.outer := by
  have all : ∀ (l : List Env), (∀ b ∈ frs l, b ∈ X.fs) → X.s₀.heap.FunFrames X.base l → s.heap.FunFrames X.base l := by
    intro l
    induction l with
    | nil => intro _ _; trivial
    | cons env r ih =>
      intro hs hl
      obtain ⟨hk, ⟨L, o, hf, hn, ho, hd⟩, hr⟩ := hl
      have hL : L ∈ X.fs := hs L (by unfold frs; rw [List.filterMap_cons, hf]; exact List.mem_cons_self)
      obtain ⟨sl, e⟩ := I.base.slot L o ho (I.ok.frf L hL) hL fun z => I.ok.exfs L z hL
      exact ⟨hk, ⟨L, _, hf, hn, e, hd⟩, ih (fun b hb => hs b (by unfold frs; rw [List.filterMap_cons, hf]; exact List.mem_cons_of_mem _ hb)) hr⟩
  exact all X.outer (fun _ hb => hb) I.ok.funs
theorem Inv.stack (I : Inv X pins σ H s) : s.heap.FunFrames X.base X.stack := by
  rcases I.ok.stk with e | ⟨e, hf⟩
  · rw [e]; exact I.funs
  · rw [e]
    obtain ⟨m, hn, _⟩ := I.loc
    refine .cons (by rw [I.ok.kind]; decide) hf hn ?_ I.funs
    exact Heap.get?_none_of_le (Nat.le_trans I.ok.bsz I.ok.above)
theorem Inv.stkSub (I : Inv X pins σ H s) : ∀ b ∈ frs X.stack, b ∈ X.env.locals :: X.fs := fun b hb => by
  rcases I.ok.stk with e | ⟨e, hf⟩
  · rw [e] at hb; exact List.mem_cons_of_mem _ hb
  · rw [e] at hb
    unfold frs at hb
    rw [List.filterMap_cons, hf] at hb
    exact hb
theorem Inv.stkFree (I : Inv X pins σ H s) : ∀ b ∈ frs X.stack, H b = none := fun b hb => by
  rcases List.mem_cons.mp (I.stkSub b hb) with e | hb
  · rw [e]; exact I.free
  · obtain ⟨_, o, ho, _⟩ := I.ok.funs.mem hb
    exact I.base.free b o ho (I.ok.frf b hb) fun z => I.ok.exfs b z hb
theorem Inv.step {g' : Array GenState} {t' : Nat} {d' : Drawn} {ch : List Addr} (I : Inv X pins σ H s)
    (hch : ∀ b ∈ ch, (b ∈ X.ex ∨ X.s₀.heap.objs.size ≤ b) ∧ b ≠ X.env.locals ∧ (∀ x c, X.env.cells.lookup x = some c → c ≠ b) ∧ ∀ p ∈ X.pn ++ pins, p.1 ≠ b)
    (keep : ∀ b o, b ≠ X.env.locals → b ∉ X.fs → b ∉ ch → s.heap.get? b = some o → H b = none → h'.get? b = some o)
    (slot : ∀ b o, b ≠ X.env.locals → b ∈ X.fs → b ∉ ch → s.heap.get? b = some o → H b = none → ∃ sl, h'.get? b = some { o with slots := sl }) (free : ∀ b o, b ∉ ch → s.heap.get? b = some o → H b = none → H' b = none)
    (there : ∀ b o, b ∉ ch → s.heap.get? b = some o → ∃ o', h'.get? b = some o')
    (tups : ∀ b xs, H b = some (.tup xs) → H' b = some (.tup xs)) (frzs : ∀ b o u, H b = some (.frz o u) → H' b = some (.frz o u)) (tbls : ∀ b ps, H b = some (.tbl ps) → ∃ more, H' b = some (.tbl (ps ++ more)))
    (ns : ∀ m, s.heap.Ns X.env.locals m → h'.Ns X.env.locals m) (hok : HOk X.prog X.w H' h') (hg : AllBare g') :
    Inv X pins σ H' { s with heap := h', gens := g', drawn := d', toks := t' } := by
  have neL : ∀ b o, X.s₀.heap.get? b = some o → b ≠ X.env.locals := fun b o e => Nat.ne_of_lt (Nat.lt_of_lt_of_le (Heap.lt_size e) I.ok.above)
  have neC : ∀ b o, X.s₀.heap.get? b = some o → b ∉ X.ex → b ∉ ch := fun b o e hx hb => by
    rcases (hch b hb).1 with z | z
    · exact hx z
    · exact absurd (Nat.lt_of_lt_of_le (Heap.lt_size e) z) (Nat.lt_irrefl _)
  have cellK : ∀ x c, X.env.cells.lookup x = some c → ∀ v, s.heap.IsCell c v → h'.IsCell c v := fun x c e v ⟨o, ho, hd⟩ => by
    have nch : c ∉ ch := fun z => (hch c z).2.2.1 x c e rfl
    by_cases hc : c ∈ X.fs
    · obtain ⟨sl, q⟩ := slot c o (I.cne x c e) hc nch ho (I.freeC x c e)
      exact ⟨_, q, hd⟩
    · exact ⟨o, keep c o (I.cne x c e) hc nch ho (I.freeC x c e), hd⟩
  refine ⟨I.ok, I.os, hg, ⟨fun b o e n hb hx => ?_, fun b o e n hb hx => ?_, fun b o e n hx => ?_, fun b o e hx => ?_, fun b xs e => tups b xs (I.base.tups b xs e), fun b o xs e => frzs b o xs (I.base.frzs b o xs e), fun b ps e => ?_⟩, ?_, fun x c e => ?_, ?_, fun x c e => ?_, fun p hp => ?_, hok, I.len⟩
  · exact keep b o (neL b o e) hb (neC b o e hx) (I.base.keep b o e n hb hx) (I.base.free b o e n hx)
  · obtain ⟨sl, e1⟩ := I.base.slot b o e n hb hx
    obtain ⟨sl', e2⟩ := slot b _ (neL b o e) hb (neC b o e hx) e1 (I.base.free b o e n hx)
    exact ⟨sl', e2⟩
  · obtain ⟨o', e1⟩ := I.base.there b o e hx
    exact free b o' (neC b o e hx) e1 (I.base.free b o e n hx)
  · obtain ⟨o', e1⟩ := I.base.there b o e hx
    exact there b o' (neC b o e hx) e1
  · obtain ⟨m1, e1⟩ := I.base.tbls b ps e
    obtain ⟨m2, e2⟩ := tbls b _ e1
    exact ⟨m1 ++ m2, by rw [e2, Array.append_assoc]⟩
  · obtain ⟨m, hn, hl⟩ := I.loc
    refine ⟨m, ns m hn, fun i x v e1 e2 e3 => ?_⟩
    obtain ⟨u, r, l⟩ := hl i x v e1 e2 e3
    refine ⟨u, r, ?_⟩
    rcases l with l | ⟨k, c, e, z⟩
    · exact .inl l
    · exact .inr ⟨k, c, e, cellK x c e _ z⟩
  · obtain ⟨v, z⟩ := I.cell x c e
    exact ⟨v, cellK x c e v z⟩
  · obtain ⟨m, ⟨o, _, _, ho, _⟩, _⟩ := I.loc
    exact free _ o (fun z => (hch _ z).2.1 rfl) ho I.free
  · obtain ⟨v, o, ho, hd⟩ := I.cell x c e
    exact free c o (fun z => (hch c z).2.2.1 x c e rfl) ho (I.freeC x c e)
  · obtain ⟨e, n, ne, nf, d⟩ := I.pin p hp
    have nch : p.1 ∉ ch := fun z => (hch p.1 z).2.2.2 p hp rfl
    exact ⟨keep p.1 p.2 ne nf nch e n, free p.1 p.2 nch e n, ne, nf, d⟩
theorem Inv.un {t' : Nat} (I : Inv X pins σ H s) (u : Un X.fs [] H H' s.heap h') (hok : HOk X.prog X.w H' h') : Inv X pins σ H' { s with heap := h', toks := t' } := by
  obtain ⟨m, ⟨o, es, ep, ho, r⟩, _⟩ := id I.loc
  obtain ⟨sl, hL⟩ := u.any ho I.free (by simp)
  exact I.step (g' := s.gens) (d' := s.drawn) (ch := []) (fun _ z => nomatch z) (fun b o _ hb _ e n => u.keep b o e n hb (by simp)) (fun b o _ hb _ e n => u.slot b o e n hb (by simp)) (fun b o _ e n => u.free b o e n (by simp)) (fun b o _ e => u.there b o e (by simp)) u.tups u.frzs u.tbls (fun m' hm => by
    obtain ⟨o', es', ep', ho', r'⟩ := hm
    rw [ho] at ho'; cases ho'
    exact ⟨_, es', ep', hL, r'⟩) hok I.bare
theorem Inv.call {g' : Array GenState} {t' : Nat} {d' : Drawn} {ch : List Addr} (I : Inv X pins σ H s) (u : Un (frs X.stack) ch H H' s.heap h') (hok : HOk X.prog X.w H' h') (hg : AllBare g')
    (hch : ∀ b ∈ ch, (b ∈ X.ex ∨ X.s₀.heap.objs.size ≤ b) ∧ b ≠ X.env.locals ∧ (∀ x c, X.env.cells.lookup x = some c → c ≠ b) ∧ ∀ p ∈ X.pn ++ pins, p.1 ≠ b) :
    Inv X pins σ H' { s with heap := h', gens := g', drawn := d', toks := t' } := by
  obtain ⟨m, ⟨o, es, ep, ho, r⟩, _⟩ := id I.loc
  obtain ⟨sl, hL⟩ := u.any ho I.free fun z => (hch _ z).2.1 rfl
  exact I.step (ch := ch) hch (fun b o hL hb hc e n => u.keep b o e n (fun z => (List.mem_cons.mp (I.stkSub b z)).elim hL hb) hc) (fun b o _ _ hc e n => u.any e n hc) (fun b o hc e n => u.free b o e n hc) (fun b o hc e => u.there b o e hc) u.tups u.frzs u.tbls (fun m' hm => by
    obtain ⟨o', es', ep', ho', r'⟩ := hm
    rw [ho] at ho'; cases ho'
    exact ⟨_, es', ep', hL, r'⟩) hok hg
theorem Inv.turned {t' : Nat} {it : Addr} (I : Inv X pins σ H s) (k : ∀ b o, b ≠ it → s.heap.get? b = some o → h'.get? b = some o) (hn : H it = none) (hL : it ≠ X.env.locals)
    (h1 : it ∈ X.ex ∨ X.s₀.heap.objs.size ≤ it) (h2 : ∀ x c, X.env.cells.lookup x = some c → c ≠ it) (h3 : ∀ p ∈ X.pn ++ pins, p.1 ≠ it) : Inv X pins σ H { s with heap := h', toks := t' } := by
  have nit : ∀ b u, H b = some u → b ≠ it := fun b u e z => by rw [z, hn] at e; cases e
  refine I.step (g' := s.gens) (d' := s.drawn) (ch := [it]) (fun b hb => ?_) (fun b o _ _ hc e _ => k b o (fun z => hc (by simp [z])) e) (fun b o _ _ hc e _ => ⟨o.slots, k b o (fun z => hc (by simp [z])) e⟩) (fun _ _ _ _ n => n)
    (fun b o hc e => ⟨o, k b o (fun z => hc (by simp [z])) e⟩) (fun _ _ e => e) (fun _ _ _ e => e) (fun b ps e => ⟨#[], by rw [e]; simp⟩) (fun m hm => ?_) (fun b u e => ?_) I.bare
  · have e : b = it := by simpa using hb
    subst e
    exact ⟨h1, hL, h2, h3⟩
  · obtain ⟨o, es, ep, ho, r⟩ := hm
    exact ⟨o, es, ep, k _ o (Ne.symm hL) ho, r⟩
  · refine (I.hok b u e).stay (fun c v hc q => k c v ?_ q) (fun _ q => q) fun _ _ q => q
    rcases hc with z | z
    · rw [z]; exact nit b u e
    · exact nit c _ z
theorem Inv.tok (I : Inv X pins σ H s) (t : Nat) : Inv X pins σ H { s with toks := t } := I.un (h' := s.heap) (t' := t) Un.refl I.hok
theorem Inv.kept {t' : Nat} (I : Inv X pins σ H s) (k : ∀ b u, s.heap.get? b = some u → h'.get? b = some u) : Inv X pins σ H { s with heap := h', toks := t' } := I.un (Un.kept k) (I.hok.kept k)
theorem Inv.laid {a : Addr} {o : HO} {t' : Nat} (I : Inv X pins σ H s) (k : ∀ b u, s.heap.get? b = some u → h'.get? b = some u) (hp : s.heap.objs.size ≤ a) (new : ObjOk X.prog X.w (upd H a o) h' a o) :
    Inv X pins σ (upd H a o) { s with heap := h', toks := t' } := I.un (Un.laid k hp (I.hok.fresh hp)) (I.hok.laid k hp new)
theorem Inv.write {x e : Addr} {o : HO} {t' : Nat} (I : Inv X pins σ H s) (mu : Mut (H x)) (he : e = x ∨ H e = some (.own x)) (k : ∀ b u, b ≠ e → s.heap.get? b = some u → h'.get? b = some u) (heo : ∃ u, h'.get? e = some u)
    (new : ObjOk X.prog X.w (upd H x o) h' x o) : Inv X pins σ (upd H x o) { s with heap := h', toks := t' } := I.un (Un.write mu he k heo) (I.hok.write mu he k heo new)
theorem Inv.pins_of {pins' : List (Addr × Obj)} (I : Inv X pins σ H s) (h : ∀ p ∈ pins', s.heap.get? p.1 = some p.2 ∧ H p.1 = none ∧ p.1 ≠ X.env.locals ∧ p.1 ∉ X.fs ∧ ∀ v, p.2.data ≠ .cell v) : Inv X pins' σ H s :=
  ⟨I.ok, I.os, I.bare, I.base, I.loc, I.cell, I.free, I.freeC, fun p hp => (List.mem_append.mp hp).elim (fun z => I.pin p (List.mem_append_left _ z)) (h p), I.hok, I.len⟩
theorem nodup_ix {N : List Str} (hN : N.Nodup) {i j : Nat} {x : Str} (a : N[i]? = some x) (b : N[j]? = some x) : i = j := by
  obtain ⟨h1, e1⟩ := List.getElem?_eq_some_iff.mp a
  obtain ⟨h2, e2⟩ := List.getElem?_eq_some_iff.mp b
  exact (List.getElem_inj hN).mp (e1.trans e2.symm)
theorem store_ok2 {M : Model} {A : Around} {E : Value → Shared → Prop} {i : Nat} {x : Str} {v : V} {u : Value} {Q : Unit → Shared → Prop} (I : Inv X pins σ H s) (hN : X.N.Nodup) (hi : X.N[i]? = some x) (hx : Loc X.env.scope x) (r : RelV v u)
    (h : ∀ s', Inv X pins (σ.set i (some v)) H s' → (∃ a, Heap.SameBut a s.heap s'.heap ∧ (a = X.env.locals ∨ X.env.cells.lookup x = some a)) → Q () s') (hf : X.fn x = true ∨ X.env.scope.names.lookup x = some .local := by first | exact .inl rfl | exact .inr rfl | assumption) : wpAny M A (storeName X.env x u) Q E s := by
  obtain ⟨m, hn, hl⟩ := id I.loc
  have hcls : (X.env.scope.kind == .class || (X.env.scope.kind == .module && X.env.locals != X.env.globals)) = false := by rw [I.ok.kind]; rfl
  have hiσ : i < σ.length := by rw [I.len]; exact (List.getElem?_eq_some_iff.mp hi).1
  have cne := I.cne
  have tracked : ∀ {a : Addr} {h' : Heap}, (∃ o, s.heap.get? a = some o ∧ H a = none) → Heap.SameBut a s.heap h' → HOk X.prog X.w H h' := fun {a h'} ha hs b ob e => by
    obtain ⟨_, _, hfree⟩ := ha
    refine (I.hok b ob e).stay (fun c w' hc q => (hs.2 c ?_).trans q) (fun _ q => q) fun _ _ q => q
    rintro rfl
    rcases hc with rfl | hc
    · rw [hfree] at e; cases e
    · rw [hfree] at hc; cases hc
  rcases hx with hk | hk
  · refine wpAny_storeName_local hk hn (fun h' hn' hs => ?_) hcls
    obtain ⟨oL, _, _, hoL, _⟩ := id hn
    refine h _ ⟨I.ok, I.os, I.bare, ⟨fun b o e n hb hx => ?_, fun b o e n hb hx => ?_, I.base.free, fun b o e hx => ?_, I.base.tups, I.base.frzs, I.base.tbls⟩, ⟨_, hn', fun j y v' e1 e2 e3 => ?_⟩, fun y c e => ?_, I.free, I.freeC, fun p hp => ?_, tracked ⟨oL, hoL, I.free⟩ hs, by simpa using I.len⟩ ⟨_, hs, .inl rfl⟩
    · exact (hs.2 b (Nat.ne_of_lt (Nat.lt_of_lt_of_le (Heap.lt_size e) I.ok.above))).trans (I.base.keep b o e n hb hx)
    · obtain ⟨sl, e1⟩ := I.base.slot b o e n hb hx
      exact ⟨sl, (hs.2 b (Nat.ne_of_lt (Nat.lt_of_lt_of_le (Heap.lt_size e) I.ok.above))).trans e1⟩
    · obtain ⟨o', e1⟩ := I.base.there b o e hx
      exact ⟨o', (hs.2 b (Nat.ne_of_lt (Nat.lt_of_lt_of_le (Heap.lt_size e) I.ok.above))).trans e1⟩
    · by_cases hj : j = i
      · subst hj
        rw [hi] at e1; cases e1
        rw [List.getElem?_set_self hiσ] at e2
        cases e2
        exact ⟨u, r, .inl ⟨hk, by simp⟩⟩
      · rw [List.getElem?_set_ne (Ne.symm hj)] at e2
        obtain ⟨u', r', q⟩ := hl j y v' e1 e2 e3
        refine ⟨u', r', ?_⟩
        rcases q with ⟨k, e⟩ | ⟨k, c, e, z⟩
        · refine .inl ⟨k, ?_⟩
          have : y ≠ x := fun e => hj (nodup_ix hN e1 (e ▸ hi))
          simp [this, e]
        · exact .inr ⟨k, c, e, z.sameBut hs (cne y c e)⟩
    · obtain ⟨w', z⟩ := I.cell y c e
      exact ⟨w', z.sameBut hs (cne y c e)⟩
    · obtain ⟨e, n, ne, nf, d⟩ := I.pin p hp
      exact ⟨(hs.2 p.1 ne).trans e, n, ne, nf, d⟩
  · have hfn : X.fn x = true := by
      rcases hf with z | z
      · exact z
      · rw [z] at hk; cases hk
    obtain ⟨c, hc⟩ := I.ok.has x (.inl hk)
    obtain ⟨w', z⟩ := I.cell x c hc
    refine wpAny_storeName_cell I.ok.kind hk hc z (fun h' hc' hs => ?_)
    obtain ⟨oc, hoc, hocd⟩ := id z
    refine h { s with heap := h' } ⟨I.ok, I.os, I.bare, ⟨fun b o e n hb hx => ?_, fun b o e n hb hx => ?_, I.base.free, fun b o e hx => ?_, I.base.tups, I.base.frzs, I.base.tbls⟩, ⟨m, hn.sameBut hs (Ne.symm (cne x c hc)), fun j y v' e1 e2 e3 => ?_⟩, fun y c' e => ?_, I.free, I.freeC, fun p hp => ?_, tracked ⟨oc, hoc, I.freeC x c hc⟩ hs, by simpa using I.len⟩ ⟨c, hs, .inr hc⟩
    · exact (hs.2 b (Nat.ne_of_lt (Nat.lt_of_lt_of_le (Heap.lt_size e) (I.ok.cab x c hfn hc)))).trans (I.base.keep b o e n hb hx)
    · obtain ⟨sl, e1⟩ := I.base.slot b o e n hb hx
      exact ⟨sl, (hs.2 b (Nat.ne_of_lt (Nat.lt_of_lt_of_le (Heap.lt_size e) (I.ok.cab x c hfn hc)))).trans e1⟩
    · obtain ⟨o', e1⟩ := I.base.there b o e hx
      exact ⟨o', (hs.2 b (Nat.ne_of_lt (Nat.lt_of_lt_of_le (Heap.lt_size e) (I.ok.cab x c hfn hc)))).trans e1⟩
    · by_cases hj : j = i
      · subst hj
        rw [hi] at e1; cases e1
        rw [List.getElem?_set_self hiσ] at e2
        cases e2
        exact ⟨u, r, .inr ⟨.inl hk, c, hc, hc'⟩⟩
      · rw [List.getElem?_set_ne (Ne.symm hj)] at e2
        obtain ⟨u', r', q⟩ := hl j y v' e1 e2 e3
        refine ⟨u', r', ?_⟩
        rcases q with q | ⟨k, c', e, z'⟩
        · exact .inl q
        · refine .inr ⟨k, c', e, z'.sameBut hs ?_⟩
          rintro rfl
          exact hj (nodup_ix hN e1 (I.ok.inj _ _ _ e hc ▸ hi))
    · by_cases hcc : c' = c
      · subst hcc; exact ⟨_, hc'⟩
      · obtain ⟨w2, z2⟩ := I.cell y c' e
        exact ⟨w2, z2.sameBut hs hcc⟩
    · obtain ⟨e, n, ne, nf, d⟩ := I.pin p hp
      refine ⟨(hs.2 p.1 ?_).trans e, n, ne, nf, d⟩
      intro q
      rw [q, hoc] at e
      have q' : oc = p.2 := Option.some.inj e
      exact d w' (by rw [← q']; exact hocd)
theorem store_ok {M : Model} {A : Around} {E : Value → Shared → Prop} {i : Nat} {x : Str} {v : V} {u : Value} {Q : Unit → Shared → Prop} (I : Inv X pins σ H s) (hN : X.N.Nodup) (hi : X.N[i]? = some x) (hx : Loc X.env.scope x) (r : RelV v u)
    (h : ∀ s', Inv X pins (σ.set i (some v)) H s' → Q () s') (hf : X.fn x = true ∨ X.env.scope.names.lookup x = some .local := by first | exact .inl rfl | exact .inr rfl | assumption) : wpAny M A (storeName X.env x u) Q E s :=
  store_ok2 I hN hi hx r (fun s' I' _ => h s' I') hf
theorem Inv.call' {s' : Shared} {ch : List Addr} (I : Inv X pins σ H s) (ho : s'.os = s.os) (u : Un (frs X.stack) ch H H' s.heap s'.heap) (hok : HOk X.prog X.w H' s'.heap) (hg : AllBare s'.gens)
    (hch : ∀ b ∈ ch, (b ∈ X.ex ∨ X.s₀.heap.objs.size ≤ b) ∧ b ≠ X.env.locals ∧ (∀ x c, X.env.cells.lookup x = some c → c ≠ b) ∧ ∀ p ∈ X.pn ++ pins, p.1 ≠ b) : Inv X pins σ H' s' := by
  obtain ⟨h', g', d', t', o'⟩ := s'
  have e : o' = s.os := ho
  subst e
  exact I.call (g' := g') (t' := t') (d' := d') u hok hg hch
end
abbrev XK := Value → Option Addr → Hp → Prop
abbrev St := List (Option V)
abbrev VK := V → Hp → Prop
abbrev TE := St → Hp → VK → Prop
abbrev TT := St → Hp → (Bool → Hp → Prop) → Prop
abbrev TA := St → Hp → (List V → Hp → Prop) → Prop
structure Ends where
  nx : St → Hp → Prop
  rt : VK
  bk : St → Hp → Prop := fun _ _ => False
  ct : St → Hp → Prop := fun _ _ => False
abbrev TS := Ends → St → Hp → Prop
def EP (X : Cx) (pins : List (Addr × Obj)) (σ : St) (Q : VK) (u : Value) (s' : Shared) : Prop := ∃ v H', Inv X pins σ H' s' ∧ RelV v u ∧ Q v H'
def TP (X : Cx) (pins : List (Addr × Obj)) (σ : St) (Q : Bool → Hp → Prop) (b : Bool) (s' : Shared) : Prop := ∃ H', Inv X pins σ H' s' ∧ Q b H'
def AP (X : Cx) (pins : List (Addr × Obj)) (σ : St) (Q : List V → Hp → Prop) (us : List Value) (s' : Shared) : Prop := ∃ vs H', Inv X pins σ H' s' ∧ Vals vs us ∧ Q vs H'
def SP (X : Cx) (pins : List (Addr × Obj)) (D : Ends) (f : Flow) (s' : Shared) : Prop :=
  match f with
  | .next => ∃ σ' H', Inv X pins σ' H' s' ∧ D.nx σ' H'
  | .brk => ∃ σ' H', Inv X pins σ' H' s' ∧ D.bk σ' H'
  | .cont => ∃ σ' H', Inv X pins σ' H' s' ∧ D.ct σ' H'
  | .ret u => ∃ v σ' H', Inv X pins σ' H' s' ∧ RelV v u ∧ D.rt v H'
def PE (X : Cx) (e : Expr) (t : TE) : Prop :=
  ∀ (pins : List (Addr × Obj)) (s : Shared) (σ : St) (H : Hp) (Q : VK), Inv X pins σ H s → t σ H Q → wpAny (model X.prog X.w) X.A (eval e X.env) (EP X pins σ Q) X.xe s
def PT (X : Cx) (e : Expr) (t : TT) : Prop :=
  ∀ (pins : List (Addr × Obj)) (s : Shared) (σ : St) (H : Hp) (Q : Bool → Hp → Prop), Inv X pins σ H s → t σ H Q → wpAny (model X.prog X.w) X.A (isTrue e X.env (eval e X.env)) (TP X pins σ Q) X.xe s
def PW (X : Cx) (e : Expr) (t : TT) : Prop :=
  ∀ (whole : Sem Value) (pins : List (Addr × Obj)) (s : Shared) (σ : St) (H : Hp) (Q : Bool → Hp → Prop), Inv X pins σ H s → t σ H Q → wpAny (model X.prog X.w) X.A (isTrue e X.env whole) (TP X pins σ Q) X.xe s
theorem PW.pt {X : Cx} {e : Expr} {t : TT} (h : PW X e t) : PT X e t := h _
def PA (X : Cx) (es : List Expr) (t : TA) : Prop :=
  ∀ (pos : Pos) (pins : List (Addr × Obj)) (s : Shared) (σ : St) (H : Hp) (Q : List V → Hp → Prop), Inv X pins σ H s → t σ H Q → wpAny (model X.prog X.w) X.A (spliced (backTo pos (starEach es X.env))) (AP X pins σ Q) X.xe s
def PS (X : Cx) (st : Stmt) (t : TS) : Prop :=
  ∀ (pins : List (Addr × Obj)) (s : Shared) (σ : St) (H : Hp) (D : Ends), Inv X pins σ H s → t D σ H → wpAny (model X.prog X.w) X.A (exec st X.env) (SP X pins D) X.xe s
def PSs (X : Cx) (st : List Stmt) (t : TS) : Prop :=
  ∀ (pins : List (Addr × Obj)) (s : Shared) (σ : St) (H : Hp) (D : Ends), Inv X pins σ H s → t D σ H → wpAny (model X.prog X.w) X.A (execs st X.env) (SP X pins D) X.xe s
theorem thn {α : Type} {t : Sem α} {Q Q' : α → Shared → Prop} {M : Model} {A : Around} {E : Value → Shared → Prop} {s : Shared} (h : wpAny M A t Q E s) (hQ : ∀ a s, Q a s → Q' a s) : wpAny M A t Q' E s := wpAny_mono h hQ fun _ _ x => x
end L2
namespace L2
open PySem PySem.Spec PyProof.Rows
section
variable {X : Cx}
def tVar (i : Nat) : TE := fun σ H Q => ∃ v, σ[i]? = some (some v) ∧ Q v H
def tC (v : V) : TE := fun _ H Q => Q v H
theorem pe_var {i : Nat} {x : Str} {pos : Pos} (hN : X.N[i]? = some x) (hv : Vis X.env.scope x) (hd : (x == ("__debug__" : Str)) = false := by decide) (hcd : (x == ("__classdict__" : Str)) = false := by decide) : PE X (.Name x pos) (tVar i) := by
  intro pins s σ H Q I h
  obtain ⟨v, e, h⟩ := h
  obtain ⟨m, hn, hl⟩ := I.loc
  obtain ⟨u, r, l⟩ := hl i x v hN e hv
  have fin : EP X pins σ Q u s := ⟨v, H, I, r, h⟩
  rcases l with ⟨hk, hm⟩ | ⟨hk, c, hc, hcell⟩
  · exact wpAny_Name (wpAny_loadName_local I.ok.kind hk hn hm fin) hd
  · rcases hk with hk | hk
    · exact wpAny_Name (wpAny_loadName_cell I.ok.kind hk hc hcell fin) hd
    · exact wpAny_Name (wpAny_loadName_free I.ok.kind hk hc hcell fin hcd) hd
theorem pe_int {i j pos} : PE X (.Constant (.int i) j pos) (tC (.int i)) := fun _ _ _ H _ I h => wpAny_Constant_int ⟨.int i, H, I.tok _, ⟨_, rfl⟩, h⟩
theorem pe_bl {b j pos} : PE X (.Constant (.bool b) j pos) (tC (.bl b)) := fun _ _ _ H _ I h => Constant_bool ⟨.bl b, H, I, rfl, h⟩
theorem pe_str {x j pos} : PE X (.Constant (.str x) j pos) (tC (.str x)) := fun _ _ _ H _ I h => Calls.Constant_str ⟨.str x, H, I.tok _, ⟨_, rfl⟩, h⟩
def Gl (X : Cx) (x : Str) : Prop := X.env.kindOf x = some .globalImplicit
theorem ld_glob {E : Value → Shared → Prop} {pins : List (Addr × Obj)} {s : Shared} {σ : St} {H : Hp} {x : Str} {u : Value} {pos : Pos} {Q : Value → Shared → Prop} (I : Inv X pins σ H s) (hg : Gl X x) (hm : X.mg x = some u) (h : Q u s)
    (hd : (x == ("__debug__" : Str)) = false := by decide) : wpAny (model X.prog X.w) X.A (eval (.Name x pos) X.env) Q E s :=
  Calls.Name_function_global I.ok.kind hg (Calls.loadGlobal_global (by rw [I.ok.glob]; exact I.mod.glob.keeps I.bk) hm h) hd
theorem ld_blt {E : Value → Shared → Prop} {pins : List (Addr × Obj)} {s : Shared} {σ : St} {H : Hp} {x : Str} {u : Value} {pos : Pos} {Q : Value → Shared → Prop} (I : Inv X pins σ H s) (hg : Gl X x) (hm : X.mg x = none) (hv : bootBuiltins x = some u) (h : Q u s)
    (hn : x ≠ "__name__" := by decide) (hd : (x == ("__debug__" : Str)) = false := by decide) : wpAny (model X.prog X.w) X.A (eval (.Name x pos) X.env) Q E s := by
  obtain ⟨mb, h1, h2⟩ := I.mod.blt
  exact Calls.Name_function_global I.ok.kind hg (Calls.loadGlobal_builtin (by rw [I.ok.glob]; exact I.mod.glob.keeps I.bk) hm (by rw [I.ok.blt]; exact h1.keeps I.bk) ((h2 x hn).trans hv) h) hd
theorem pe_glob {x : Str} {v : V} {u : Value} {pos : Pos} (hg : Gl X x) (hm : X.mg x = some u) (r : RelV v u) (hd : (x == ("__debug__" : Str)) = false := by decide) : PE X (.Name x pos) (tC v) :=
  fun _ _ _ H _ I h => ld_glob I hg hm ⟨v, H, I, r, h⟩ hd
theorem pe_bltn {x : Str} {v : V} {u : Value} {pos : Pos} (hg : Gl X x) (hm : X.mg x = none) (hv : bootBuiltins x = some u) (r : RelV v u) (hn : x ≠ "__name__" := by decide) (hd : (x == ("__debug__" : Str)) = false := by decide) : PE X (.Name x pos) (tC v) :=
  fun _ _ _ H _ I h => ld_blt I hg hm hv ⟨v, H, I, r, h⟩ hn hd
variable {a b : Expr} {ta tb : TE} {pos : Pos}
def PC (X : Cx) (op : CmpOp) (a b : Expr) (t : TE) : Prop :=
  ∀ (pins : List (Addr × Obj)) (s : Shared) (σ : St) (H : Hp) (Q : VK), Inv X pins σ H s → t σ H Q →
    wpAny (model X.prog X.w) X.A (eval a X.env) (fun v s₁ => wpAny (model X.prog X.w) X.A (eval b X.env) (fun u s₂ => wpAny (model X.prog X.w) X.A (compareOp op v u) (EP X pins σ Q) X.xe s₂) X.xe s₁) X.xe s
theorem nobehind (b : Expr) {op : CmpOp} (h : op ≠ .In) (h2 : op ≠ .NotIn) : behindInMarks op b = false := by
  have e1 : (op == CmpOp.In) = false := by cases op <;> first | rfl | exact absurd rfl h
  have e2 : (op == CmpOp.NotIn) = false := by cases op <;> first | rfl | exact absurd rfl h2
  cases b <;> simp [behindInMarks, e1, e2]
def tIsN (ta : TE) : TE := fun σ H Q => ta σ H fun x H1 => Q (.bl (decide (x = .non))) H1
theorem RelV.none_iff {x : V} {v : Value} (r : RelV x v) : (v == Value.none) = decide (x = .non) := by
  cases x with
  | non => cases r; rfl
  | bl _ => cases r; rfl
  | int _ => obtain ⟨t, rfl⟩ := r; rfl
  | str _ => obtain ⟨t, rfl⟩ := r; rfl
  | byt _ => obtain ⟨t, rfl⟩ := r; rfl
  | flt _ => obtain ⟨t, rfl⟩ := r; rfl
  | ref _ => cases r; rfl
  | ty _ => cases r; rfl
theorem pc_isN {j pos'} (ha : PE X a ta) : PC X .Is a (.Constant .none j pos') (tIsN ta) := by
  intro pins s σ H Q I h
  refine thn (ha pins s σ H _ I h) fun v s1 ⟨x, H1, I1, r1, q1⟩ => ?_
  exact Constant_none (is_none_gen ⟨.bl _, H1, I1, by rw [r1.none_iff]; rfl, q1⟩)
def tB (t : TE) : TT := fun σ H Q => t σ H fun x H1 => ∃ c, x = .bl c ∧ Q c H1
theorem pt_cmp {op : CmpOp} {t : TE} (h : PC X op a b t) (h1 : behindInMarks op b = false := by first | exact nobehind _ (by decide) (by decide) | rfl) : PT X (.Compare a [op] [b] pos) (tB t) := by
  intro pins s σ H Q I hw
  refine wpAny_isTrue_Compare1 (thn (h pins s σ H _ I hw) fun v s1 h1 => thn h1 fun u s2 h2 => thn h2 fun c s3 ⟨x, H1, I1, r1, q1⟩ => ?_) h1
  obtain ⟨d, rfl, q⟩ := q1
  cases r1
  exact wpAny_truthy_bool ⟨H1, I1, q⟩
theorem pt_val {e : Expr} {t : TE} (h : PE X e t) (he : ∀ whole, isTrue e X.env whole = (do let v ← whole; standAt e.pos; holding [v] (truthy v)) := by intro _; rfl) : PT X e (tB t) := by
  intro pins s σ H Q I hw
  refine isTrue_plain (thn (h pins s σ H _ I hw) fun v s1 ⟨x, H1, I1, r1, q1⟩ => ?_) (he _)
  obtain ⟨d, rfl, q⟩ := q1
  cases r1
  exact wpAny_truthy_bool ⟨H1, I1, q⟩
variable {tA tB' : TT} {rest : List Expr}
def tAnd (t u : TT) : TT := fun σ H Q => t σ H fun c H1 => if c = true then u σ H1 Q else Q false H1
def tOr (t u : TT) : TT := fun σ H Q => t σ H fun c H1 => if c = true then Q true H1 else u σ H1 Q
def tNot (t : TT) : TT := fun σ H Q => t σ H fun c H1 => Q (!c) H1
theorem pw_and1 (ha : PT X a tA) : PW X (.BoolOp .And [a] pos) tA := by
  intro wh pins s σ H Q I h
  refine isTrue_and (thn (ha pins s σ H Q I h) fun c s1 e => ?_)
  cases c with
  | true => exact isTrue_and_nil e
  | false => exact e
theorem pw_or1 (ha : PT X a tA) : PW X (.BoolOp .Or [a] pos) tA := by
  intro wh pins s σ H Q I h
  refine isTrue_or (thn (ha pins s σ H Q I h) fun c s1 e => ?_)
  cases c with
  | false => exact isTrue_or_nil e
  | true => exact e
theorem pw_and (ha : PT X a tA) (hb : PW X (.BoolOp .And (b :: rest) pos) tB') : PW X (.BoolOp .And (a :: b :: rest) pos) (tAnd tA tB') := by
  intro wh pins s σ H Q I h
  refine isTrue_and (thn (ha pins s σ H _ I h) fun c s1 ⟨H1, I1, q1⟩ => ?_)
  cases c with
  | true => exact hb wh pins s1 σ H1 Q I1 q1
  | false => exact ⟨H1, I1, q1⟩
theorem pw_or (ha : PT X a tA) (hb : PW X (.BoolOp .Or (b :: rest) pos) tB') : PW X (.BoolOp .Or (a :: b :: rest) pos) (tOr tA tB') := by
  intro wh pins s σ H Q I h
  refine isTrue_or (thn (ha pins s σ H _ I h) fun c s1 ⟨H1, I1, q1⟩ => ?_)
  cases c with
  | true => exact ⟨H1, I1, q1⟩
  | false => exact hb wh pins s1 σ H1 Q I1 q1
theorem pt_not (ha : PT X a tA) : PT X (.UnaryOp .Not a pos) (tNot tA) := by
  intro pins s σ H Q I h
  exact isTrue_not (ha pins s σ H (fun c H1 => Q (!c) H1) I h)
def tAndV (ta tb : TE) : TE := fun σ H Q => ta σ H fun x H1 => ∃ c, x = .bl c ∧ if c = true then tb σ H1 Q else Q (.bl false) H1
theorem pe_one {op} {t : TE} (h : PE X a t) : PE X (.BoolOp op [a] pos) t := fun pins s σ H Q I hw => BoolOp_one (h pins s σ H Q I hw)
theorem pe_and (ha : PE X a ta) (hb : PE X (.BoolOp .And (b :: rest) pos) tb) : PE X (.BoolOp .And (a :: b :: rest) pos) (tAndV ta tb) := by
  intro pins s σ H Q I h
  refine BoolOp_and (thn (ha pins s σ H _ I h) fun v s1 ⟨x, H1, I1, r1, q1⟩ => ?_)
  obtain ⟨c, rfl, q1⟩ := q1
  cases r1
  refine wpAny_truthy_bool ?_
  cases c with
  | true => exact hb pins s1 σ H1 Q I1 q1
  | false => exact ⟨.bl false, H1, I1, rfl, q1⟩
def tIf (t : TT) (ta tb : TE) : TE := fun σ H Q => t σ H fun c H1 => if c = true then ta σ H1 Q else tb σ H1 Q
theorem pe_ifExp {c : Expr} (hc : PT X c tA) (ha : PE X a ta) (hb : PE X b tb) : PE X (.IfExp c a b pos) (tIf tA ta tb) := by
  intro pins s σ H Q I h
  refine wpAny_IfExp (thn (hc pins s σ H _ I h) fun d s1 ⟨H1, I1, q1⟩ => ?_)
  cases d with
  | true => exact ha pins s1 σ H1 Q I1 q1
  | false => exact hb pins s1 σ H1 Q I1 q1
end
end L2
namespace L2
open PySem PySem.Spec PyProof.Rows
def SqL (K : PySem.W.Frag) (H : Hp) (a : Addr) (xs : List V) : Prop :=
  Rd H a (.lst xs) ∨
    ∃ (o : Obj) (its : Array Value) (n : Nat), K.lookup a = some o ∧ o.cls = .type "list" ∧ o.dict = none ∧ o.data = .seq its n ∧ its.size ≤ sizeLine ∧ Vals xs its.toList
def SqT (K : PySem.W.Frag) (H : Hp) (a : Addr) (xs : List V) : Prop :=
  Rd H a (.tup xs) ∨
    ∃ (o : Obj) (its : Array Value) (n : Nat), K.lookup a = some o ∧ o.cls = .type "tuple" ∧ o.data = .seq its n ∧ its.size ≤ sizeLine ∧ Vals xs its.toList
def absV : Value → Option V
  | .none => some .non
  | .bool b => some (.bl b)
  | .int i _ => some (.int i)
  | .str x _ => some (.str x)
  | .bytes b _ => some (.byt b)
  | .float b _ => some (.flt b)
  | .ref a => some (.ref a)
  | .type n => some (.ty n)
  | _ => none
theorem RelV.abs {x : V} {u : Value} (r : RelV x u) : absV u = some x := by
  cases x with
  | non => cases r; rfl
  | bl _ => cases r; rfl
  | int _ => obtain ⟨t, rfl⟩ := r; rfl
  | str _ => obtain ⟨t, rfl⟩ := r; rfl
  | byt _ => obtain ⟨t, rfl⟩ := r; rfl
  | flt _ => obtain ⟨t, rfl⟩ := r; rfl
  | ref _ => cases r; rfl
  | ty _ => cases r; rfl
theorem RelV.inj {x y : V} {u : Value} (r : RelV x u) (q : RelV y u) : x = y := Option.some.inj (r.abs.symm.trans q.abs)
theorem Vals.inj : ∀ {xs ys : List V} {us : List Value}, Vals xs us → Vals ys us → xs = ys
  | _, _, _, .nil, .nil => rfl
  | _, _, _, .cons r t, .cons r' t' => by rw [r.inj r', Vals.inj t t']
section
variable {X : Cx} {pins : List (Addr × Obj)} {σ : St} {H : Hp} {s : Shared} {a : Addr} {xs ys : List V}
theorem SqL.of {K : PySem.W.Frag} (h : H a = some (.lst xs)) : SqL K H a xs := .inl (.inl h)
theorem SqT.of {K : PySem.W.Frag} (h : H a = some (.tup xs)) : SqT K H a xs := .inl (.inl h)
theorem Inv.list (I : Inv X pins σ H s) (h : SqL X.K H a xs) : ∃ its : List Value, Vals xs its ∧ PlainL s.heap a its.toArray ∧ xs.length ≤ sizeLine := by
  rcases h with h | ⟨o, its, n, hk, hc, hd, hs, hz, r⟩
  · obtain ⟨z, its, n, r, e⟩ := h.ok I.hok
    exact ⟨its, r, ⟨_, n, e, rfl, rfl, rfl⟩, z⟩
  · refine ⟨its.toList, r, ⟨o, n, I.kIn a o hk, hc, hd, by simpa using hs⟩, ?_⟩
    have e := r.length
    simp only [Array.length_toList] at e
    omega
theorem Inv.tuple (I : Inv X pins σ H s) (h : SqT X.K H a xs) : ∃ its : List Value, Vals xs its ∧ IsTup s.heap a its.toArray ∧ xs.length ≤ sizeLine := by
  rcases h with h | ⟨o, its, n, hk, hc, hs, hz, r⟩
  · obtain ⟨z, its, r, p⟩ := h.ok I.hok
    exact ⟨its, r, p, z⟩
  · refine ⟨its.toList, r, ⟨o, I.kIn a o hk, hc, n, by simpa using hs⟩, ?_⟩
    have e := r.length
    simp only [Array.length_toList] at e
    omega
theorem Inv.list_inj (I : Inv X pins σ H s) (h : SqL X.K H a xs) (h' : SqL X.K H a ys) : xs = ys := by
  obtain ⟨its, r, ⟨o, n, e, _, _, d⟩, _⟩ := I.list h
  obtain ⟨its', r', ⟨o', n', e', _, _, d'⟩, _⟩ := I.list h'
  rw [e] at e'; cases e'
  rw [d] at d'
  injection d' with d1 _
  have : its = its' := by simpa using congrArg Array.toList d1
  subst this
  exact r.inj r'
end
abbrev Cx.wish (X : Cx) (E : Value → Shared → Prop) : Cx := { X with xe := E }
abbrev Cx.nox (X : Cx) : Cx := X.wish fun _ _ => False
theorem Cx.Ok.wish {X : Cx} (ok : X.Ok) (E : Value → Shared → Prop) : (X.wish E).Ok :=
  ⟨ok.mod, ok.kind, ok.glob, ok.blt, ok.above, ok.inj, ok.has, ok.cab, ok.hd, ok.frames, ok.stk, ok.exf, ok.bs, ok.bsz, ok.noex, ok.exfs, ok.funs, ok.frf⟩
theorem Cx.Ok.unwish {X : Cx} {E : Value → Shared → Prop} (ok : (X.wish E).Ok) : X.Ok :=
  ⟨ok.mod, ok.kind, ok.glob, ok.blt, ok.above, ok.inj, ok.has, ok.cab, ok.hd, ok.frames, ok.stk, ok.exf, ok.bs, ok.bsz, ok.noex, ok.exfs, ok.funs, ok.frf⟩
section
variable {X : Cx} {pins : List (Addr × Obj)} {σ : St} {H : Hp} {s : Shared} {E : Value → Shared → Prop}
theorem Inv.wish (I : Inv X pins σ H s) (E : Value → Shared → Prop) : Inv (X.wish E) pins σ H s := ⟨I.ok.wish E, I.os, I.bare, I.base, I.loc, I.cell, I.free, I.freeC, I.pin, I.hok, I.len⟩
theorem Inv.unwish (I : Inv (X.wish E) pins σ H s) : Inv X pins σ H s := ⟨I.ok.unwish, I.os, I.bare, I.base, I.loc, I.cell, I.free, I.freeC, I.pin, I.hok, I.len⟩
theorem SP.unwish {D : Ends} {f : Flow} {s' : Shared} (h : SP (X.wish E) pins D f s') : SP X pins D f s' := by
  cases f with
  | next => obtain ⟨σ', H', I, q⟩ := h; exact ⟨σ', H', I.unwish, q⟩
  | brk => obtain ⟨σ', H', I, q⟩ := h; exact ⟨σ', H', I.unwish, q⟩
  | cont => obtain ⟨σ', H', I, q⟩ := h; exact ⟨σ', H', I.unwish, q⟩
  | ret u => obtain ⟨v, σ', H', I, r, q⟩ := h; exact ⟨v, σ', H', I.unwish, r, q⟩
theorem PSs.nox {st : List Stmt} {t : TS} (h : PSs X.nox st t) : PSs X st t := fun pins s σ H D I hw =>
  wpAny_mono (h pins s σ H D (I.wish _) hw) (fun _ _ q => q.unwish) fun _ _ z => False.elim z
end
section
variable {X : Cx} {st : Stmt} {rest : List Stmt} {t u : TS} {e : Expr} {te : TE} {pos : Pos}
def tNext : TS := fun D σ H => D.nx σ H
def tSeq (t u : TS) : TS := fun D σ H => t { D with nx := u D } σ H
theorem pss_nil : PSs X [] tNext := fun _ _ σ H _ I h => wpAny_execs_nil ⟨σ, H, I, h⟩
theorem pss_cons (h1 : PS X st t) (h2 : PSs X rest u) : PSs X (st :: rest) (tSeq t u) := by
  intro pins s σ H D I h
  refine wpAny_execs_cons (thn (h1 pins s σ H { D with nx := u D } I h) fun f s1 q => ?_)
  cases f with
  | next =>
    obtain ⟨σ', H', I', q⟩ := q
    exact h2 pins s1 σ' H' D I' q
  | ret v => exact q
  | brk => exact q
  | cont => exact q
theorem pss_one (h1 : PS X st t) : PSs X [st] t := by
  intro pins s σ H D I h
  refine wpAny_execs_cons (thn (h1 pins s σ H D I h) fun f s1 q => ?_)
  cases f with
  | next => exact wpAny_execs_nil q
  | ret v => exact q
  | brk => exact q
  | cont => exact q
theorem Inv.quiet {pins : List (Addr × Obj)} {σ : St} {H : Hp} {s : Shared} (I : Inv X pins σ H s) : interactive X.env = false := by simp [interactive, I.ok.kind]
def tDrop (te : TE) : TS := fun D σ H => te σ H fun _ H1 => D.nx σ H1
theorem ps_expr (he : PE X e te) (hs : swapsWith e none pos.line X.env = pure false := by rfl) : PS X (.Expr e pos) (tDrop te) := by
  intro pins s σ H D I h
  exact wpAny_Expr_any (thn (he pins s σ H _ I h) fun v s1 ⟨x, H1, I1, r1, q1⟩ => ⟨σ, H1, I1, q1⟩) I.quiet hs
def tRet (te : TE) : TS := fun D σ H => te σ H D.rt
theorem ps_ret (he : PE X e te) : PS X (.Return (some e) pos) (tRet te) := by
  intro pins s σ H D I h
  exact wpAny_Return_some (thn (he pins s σ H _ I h) fun v s1 ⟨x, H1, I1, r1, q1⟩ => ⟨x, σ, H1, I1, r1, q1⟩)
def tIfS (c : TT) (t u : TS) : TS := fun D σ H => c σ H fun b H1 => if b = true then t D σ H1 else u D σ H1
theorem ps_if {c : Expr} {a b : List Stmt} {tc : TT} (hc : PT X c tc) (ha : PSs X a t) (hb : PSs X b u) : PS X (.If c a b pos) (tIfS tc t u) := by
  intro pins s σ H D I h
  refine wpAny_If (thn (hc pins s σ H _ I h) fun d s1 ⟨H1, I1, q1⟩ => ?_)
  cases d with
  | true => exact ha pins s1 σ H1 D I1 q1
  | false => exact hb pins s1 σ H1 D I1 q1
def tNever : TS := fun _ _ _ => False
theorem pss_never {sts : List Stmt} : PSs X sts tNever := fun _ _ _ _ _ _ h => h.elim
end
abbrev TG := V → St → Hp → (St → Hp → Prop) → Prop
abbrev TGs := List V → St → Hp → (St → Hp → Prop) → Prop
def PG (X : Cx) (target : Expr) (t : TG) : Prop :=
  ∀ (pins : List (Addr × Obj)) (s : Shared) (σ : St) (H : Hp) (v : V) (u : Value) (Q : St → Hp → Prop), Inv X pins σ H s → RelV v u → t v σ H Q →
    wpAny (model X.prog X.w) X.A (assign target X.env u) (fun _ s' => ∃ σ' H', Inv X pins σ' H' s' ∧ Q σ' H') X.xe s
def PGs (X : Cx) (ts : List Expr) (t : TGs) : Prop :=
  ∀ (pins : List (Addr × Obj)) (s : Shared) (σ : St) (H : Hp) (vs : List V) (us : List Value) (Q : St → Hp → Prop), Inv X pins σ H s → Vals vs us → t vs σ H Q →
    wpAny (model X.prog X.w) X.A (assignInOrder ((assignEach ts X.env).map (·.2)) us) (fun _ s' => ∃ σ' H', Inv X pins σ' H' s' ∧ Q σ' H') X.xe s
abbrev TSet := V → V → V → Hp → (Hp → Prop) → Prop
def PSet (X : Cx) (t : TSet) : Prop :=
  ∀ (pins : List (Addr × Obj)) (s : Shared) (σ : St) (H : Hp) (o i v : V) (ov iv u : Value) (Q : Hp → Prop), Inv X pins σ H s → RelV o ov → RelV i iv → RelV v u → t o i v H Q →
    wpAny (model X.prog X.w) X.A (setItem ov iv u) (fun _ s' => ∃ H', Inv X pins σ H' s' ∧ Q H') X.xe s
section
variable {X : Cx} {pos : Pos}
def gName (i : Nat) : TG := fun v σ H Q => Q (σ.set i (some v)) H
theorem pg_name {i : Nat} {x : Str} (hN : X.N.Nodup) (hi : X.N[i]? = some x) (hx : Loc X.env.scope x) (hf : X.fn x = true ∨ X.env.scope.names.lookup x = some .local := by first | exact .inl rfl | exact .inr rfl | assumption) : PG X (.Name x pos) (gName i) := by
  intro pins s σ H v u Q I r h
  exact wpAny_assign_Name (store_ok I hN hi hx r (fun s' I' => ⟨_, H, I', h⟩) hf)
def gNil : TGs := fun vs σ H Q => vs = [] ∧ Q σ H
def gCons (t : TG) (u : TGs) : TGs := fun vs σ H Q => ∃ v r, vs = v :: r ∧ t v σ H fun σ' H' => u r σ' H' Q
theorem pgs_nil : PGs X [] gNil := by
  intro pins s σ H vs us Q I r h
  obtain ⟨e, h⟩ := h
  subst e
  cases r
  exact assignInOrder_nil ⟨σ, H, I, h⟩
theorem pgs_cons {e : Expr} {es : List Expr} {t : TG} {u : TGs} (h1 : PG X e t) (h2 : PGs X es u)
    (hs : (assignEach (e :: es) X.env).map (·.2) = assign e X.env :: (assignEach es X.env).map (·.2) := by rfl) : PGs X (e :: es) (gCons t u) := by
  intro pins s σ H vs us Q I r h
  obtain ⟨v, vr, e1, h⟩ := h
  subst e1
  cases r with
  | cons r rr =>
    rw [hs]
    refine assignInOrder_cons (thn (h1 pins s σ H _ _ _ I r h) fun _ s1 ⟨σ1, H1, I1, q1⟩ => ?_)
    exact h2 pins s1 σ1 H1 _ _ Q I1 rr q1
def gTup (K : PySem.W.Frag) (n : Nat) (t : TGs) : TG := fun v σ H Q => ∃ a xs, v = .ref a ∧ SqT K H a xs ∧ xs.length = n ∧ t xs σ H Q
theorem pg_tup {es : List Expr} {k : Nat} {t : TGs} {n : Nat} (hc : X.calm = true) (h : PGs X es t)
    (hn : (assignEach es X.env).length = n := by rfl) (hst : (assignEach es X.env).findIdx? (·.1) = none := by rfl) : PG X (.Tuple es k pos) (gTup X.K n t) := by
  intro pins s σ H v u Q I r hw
  obtain ⟨a, xs, e1, hq, hl, hw⟩ := hw
  subst e1
  cases r
  obtain ⟨its, rv, ht, hz⟩ := I.tuple hq
  refine assign_Tuple_tuple (I.ok.hd hc) ht (by simp [hn, ← hl, rv.length]) hst fun h' hx => ?_
  have I1 : Inv X pins σ H { s with heap := h' } := I.kept (t' := s.toks) fun b o e => hx b o (Nat.ne_of_lt (Heap.lt_size e)) e
  exact h pins _ σ H xs _ Q I1 (by simpa using rv) hw
def gSub (to ti : TE) (t : TSet) : TG := fun v σ H Q => to σ H fun o H1 => ti σ H1 fun i H2 => t o i v H2 fun H3 => Q σ H3
theorem pg_sub {o i : Expr} {to ti : TE} {t : TSet} (ho : PE X o to) (hi : PE X i ti) (hs : PSet X t)
    (ha : ∀ v, assign (.Subscript o i pos) X.env v = (do
      let ov ← holding [v] (eval o X.env)
      let iv ← holding [v, ov] (eval i X.env)
      standAt pos
      holding [v, ov, iv] (setItem ov iv v)
      release [v, ov, iv] []) := by intro _; rfl) : PG X (.Subscript o i pos) (gSub to ti t) := by
  intro pins s σ H v u Q I r h
  rw [ha]
  refine wpAny_bind (wpAny_holding (thn (ho pins s σ H _ I h) fun ov s1 ⟨x, H1, I1, r1, q1⟩ => ?_))
  refine wpAny_bind (wpAny_holding (thn (hi pins s1 σ H1 _ I1 q1) fun iv s2 ⟨y, H2, I2, r2, q2⟩ => ?_))
  refine wpAny_bind (wpAny_standAt (wpAny_bind (wpAny_holding (thn (hs pins s2 σ H2 x y v ov iv u _ I2 r1 r2 r q2) fun _ s3 ⟨H3, I3, q3⟩ => ?_))))
  exact wpAny_release ⟨σ, H3, I3, q3⟩
def tAsg (te : TE) (g : TG) : TS := fun D σ H => te σ H fun x H1 => g x σ H1 D.nx
theorem ps_asg {tg e : Expr} {te : TE} {g : TG} (he : PE X e te) (hg : PG X tg g) (hs : swapsWithSole [tg] e pos.line X.env = pure false := by rfl) (hw : swappedStores [tg] e X.env = pure none := by rfl)
    (h1 : (assignEach [tg] X.env).map (·.2) = [assign tg X.env] := by rfl) : PS X (.Assign [tg] e pos) (tAsg te g) := by
  intro pins s σ H D I h
  refine wpAny_Assign_stores (thn (he pins s σ H _ I h) fun v s1 ⟨x, H1, I1, r1, q1⟩ => ?_) hs hw
  rw [h1]
  exact thn (hg pins s1 σ H1 x v _ I1 r1 q1) fun _ s2 q => q
theorem ps_set {i : Nat} {x : Str} {e : Expr} {te : TE} {pos' : Pos} (hN : X.N.Nodup) (hi : X.N[i]? = some x) (hx : Loc X.env.scope x) (he : PE X e te) (hs : swapsWith e (some (.Name x pos')) pos.line X.env = pure false := by rfl) (hf : X.fn x = true ∨ X.env.scope.names.lookup x = some .local := by first | exact .inl rfl | exact .inr rfl | assumption) :
    PS X (.Assign [.Name x pos'] e pos) (tAsg te (gName i)) := by
  intro pins s σ H D I h
  refine wpAny_Assign_Name (thn (he pins s σ H _ I h) fun v s1 ⟨y, H1, I1, r1, q1⟩ => ?_) hs
  exact store_ok I1 hN hi hx r1 (fun s2 I2 => ⟨_, H1, I2, q1⟩) hf
end
section
variable {X : Cx} {pos : Pos}
def tWhile (c : TT) (tb : TS) : TS := fun D σ H => ∃ W : Nat → St → Hp → Prop, (∃ m, W m σ H) ∧ ∀ m σ H, W m σ H →
  c σ H fun b H1 => if b = true then ∃ N : St → Hp → Prop, (∀ σ' H', N σ' H' → ∃ m', m' < m ∧ W m' σ' H') ∧ tb { D with nx := N, ct := N, bk := D.nx } σ H1 else D.nx σ H1
theorem ps_while {c : Expr} {body : List Stmt} {tc : TT} {tb : TS} (hp : PassesOwn (model X.prog X.w) X.A X.env X.xe) (hc : PT X c tc) (hb : PSs X body tb) : PS X (.While c body [] pos) (tWhile tc tb) := by
  intro pins s σ H D I h
  obtain ⟨W, ⟨m0, w0⟩, turn⟩ := h
  refine wpAny_While (codeAny_whileLoop (fun n s' => ∃ σ' H', Inv X pins σ' H' s' ∧ W n σ' H') ?_ m0 ⟨σ, H, I, w0⟩)
  rintro n s1 ⟨σ1, H1, I1, w1⟩
  refine wpAny_passesOwn hp (thn (hc pins s1 σ1 H1 _ I1 (turn n σ1 H1 w1)) fun b s2 ⟨H2, I2, q2⟩ => ?_)
  cases b with
  | true =>
    obtain ⟨N, hN, q2⟩ := q2
    rw [if_pos rfl]
    refine wpAny_passesOwn hp (thn (hb pins s2 σ1 H2 _ I2 q2) fun f s3 q3 => ?_)
    cases f with
    | next =>
      obtain ⟨σ3, H3, I3, n3⟩ := q3
      obtain ⟨m', hm, w3⟩ := hN σ3 H3 n3
      exact ⟨m', hm, σ3, H3, I3, w3⟩
    | cont =>
      obtain ⟨σ3, H3, I3, n3⟩ := q3
      obtain ⟨m', hm, w3⟩ := hN σ3 H3 n3
      exact ⟨m', hm, σ3, H3, I3, w3⟩
    | brk => exact q3
    | ret v => exact q3
  | false =>
    rw [if_neg Bool.false_ne_true]
    exact wpAny_execs_nil ⟨σ1, H2, I2, q2⟩
end
structure It where
  go : Nat → Hp → Prop
  yld : Nat → Hp → V → Hp → Prop
  stop : Nat → Hp → Prop
def FpOk (X : Cx) (pins : List (Addr × Obj)) (H : Hp) (b : Addr) : Prop :=
  H b = none ∧ b ≠ X.env.locals ∧ b ∉ X.fs ∧ (b ∈ X.ex ∨ X.s₀.heap.objs.size ≤ b) ∧ (∀ x c, X.env.cells.lookup x = some c → c ≠ b) ∧ ∀ p ∈ X.pn ++ pins, p.1 ≠ b
theorem Inv.fpOk {X : Cx} {pins : List (Addr × Obj)} {σ : St} {H H' : Hp} {s : Shared} {b : Addr} (I : Inv X pins σ H s) (hb : s.heap.objs.size ≤ b) (hn : H' b = none) : FpOk X pins H' b := by
  refine ⟨hn, Nat.ne_of_gt (Nat.lt_of_lt_of_le I.lt hb), I.nofs hb, .inr (Nat.le_trans I.sz hb), fun x c e z => ?_, fun p hp z => ?_⟩
  · obtain ⟨v, q⟩ := I.cell x c e
    exact absurd (Nat.lt_of_lt_of_le q.lt (by rw [z]; exact hb)) (Nat.lt_irrefl _)
  · exact absurd (Nat.lt_of_lt_of_le (Heap.lt_size (I.pin p hp).1) (by rw [z]; exact hb)) (Nat.lt_irrefl _)
structure Turn (P : Program) (w : World) (K : PySem.W.Frag) (tg : Expr) (J : It) (fp : List Addr) (it : Addr) (tn : Nat → Heap → Prop) : Prop where
  mem : it ∈ fp
  obj : ∀ i h, tn i h → ∀ b ∈ fp, ∃ o, h.get? b = some o ∧ ∀ v, o.data ≠ .cell v
  keep : ∀ i h h', tn i h → (∀ b ∈ fp, ∀ o, h.get? b = some o → h'.get? b = some o) → tn i h'
  item : ∀ (X : Cx), X.prog = P → X.w = w → X.K = K → X.calm = true → ∀ (i : Nat) (pins : List (Addr × Obj)) (s : Shared) (σ : St) (H : Hp) (E : Value → Shared → Prop), Inv X pins σ H s → (∀ b ∈ fp, FpOk X pins H b) → tn i s.heap → J.go i H →
    wpAny (model P w) X.A (pyNext (.ref it)) (fun r s1 => ∃ u, r = some u ∧
      wpAny (model P w) X.A (letOwnedTupleGo tg (.ref it) u) (fun _ s2 => ∃ x H', Inv X pins σ H' s2 ∧ RelV x u ∧ J.yld i H x H' ∧ tn (i + 1) s2.heap ∧ ∀ b ∈ fp, H' b = none) E s1) E s
  done : ∀ (X : Cx), X.prog = P → X.w = w → X.K = K → X.calm = true → ∀ (i : Nat) (pins : List (Addr × Obj)) (s : Shared) (σ : St) (H : Hp) (E : Value → Shared → Prop), Inv X pins σ H s → (∀ b ∈ fp, FpOk X pins H b) → tn i s.heap → J.stop i H →
    wpAny (model P w) X.A (pyNext (.ref it)) (fun r s1 => r = none ∧ Inv X pins σ H s1) E s
  self : ∀ (A : Around) (i : Nat) (s : Shared) (Q : Value → Shared → Prop) (E : Value → Shared → Prop), tn i s.heap → Q (.ref it) s → wpAny (model P w) A (pyIter (.ref it)) Q E s
abbrev TI := St → Hp → (It → Hp → Prop) → Prop
def PIE (X : Cx) (pins : List (Addr × Obj)) (σ : St) (tg : Expr) (R : It → Hp → Prop) (itv : Value) (s2 : Shared) : Prop :=
  ∃ (it : Addr) (fp : List Addr) (tn : Nat → Heap → Prop) (J : It) (H' : Hp), itv = .ref it ∧ Inv X pins σ H' s2 ∧ Turn X.prog X.w X.K tg J fp it tn ∧ tn 0 s2.heap ∧ (∀ b ∈ fp, FpOk X pins H' b) ∧ R J H'
def PI (X : Cx) (tg iter : Expr) (wi : TI) : Prop :=
  ∀ (pins : List (Addr × Obj)) (s : Shared) (σ : St) (H : Hp) (R : It → Hp → Prop), Inv X pins σ H s → wi σ H R →
    wpAny (model X.prog X.w) X.A (eval iter X.env) (fun v s1 => wpAny (model X.prog X.w) X.A (pyIter v) (PIE X pins σ tg R) X.xe s1) X.xe s
theorem go_of {M : Model} {A : Around} {E : Value → Shared → Prop} {s : Shared} {tg : Expr} {it : Addr} {u : Value} {o : Obj} {n : String} {vs : Array Value} {Q : Unit → Shared → Prop} (ho : s.heap.get? it = some o) (hc : o.cls = .type n) (hd : o.data = .fields vs)
    (hn : ["enumerate", "zip", "dict_itemiterator", "dict_reverseitemiterator", "odict_iterator", "itertools.zip_longest", "itertools.pairwise"].contains n = false) (hQ : Q () s) : wpAny M A (letOwnedTupleGo tg (.ref it) u) Q E s := by
  unfold letOwnedTupleGo
  cases tg <;> first
    | exact wpAny_pure hQ
    | (cases u <;> first
        | exact wpAny_pure hQ
        | (refine wpAny_bind (wpAny_load ho ?_)
           rw [hc, hd]
           show wpAny M A (if (["enumerate", "zip", "dict_itemiterator", "dict_reverseitemiterator", "odict_iterator", "itertools.zip_longest", "itertools.pairwise"].contains n && vs[0]? == some (rawInt _)) = true then _ else _) Q E s
           rw [if_neg (by intro h; rw [hn, Bool.false_and] at h; cases h)]
           exact wpAny_pure hQ))
def Itl (K : PySem.W.Frag) (a : Addr) : It :=
  ⟨fun i H => ∃ xs x, SqL K H a xs ∧ xs[i]? = some x, fun i H x H' => H' = H ∧ ∀ xs, SqL K H a xs → xs[i]? = some x, fun i H => ∃ xs, SqL K H a xs ∧ xs.length ≤ i⟩
def Itr (lo : Int) (n : Nat) : It := ⟨fun i _ => i < n, fun i H x H' => H' = H ∧ x = .int (lo + i), fun i _ => n ≤ i⟩
theorem turn_list {P : Program} {w : World} {K : PySem.W.Frag} {tg : Expr} (a it : Addr) : Turn P w K tg (Itl K a) [it] it (fun i h => h.IsListIter it a i) where
  mem := by simp
  obj := fun i h st b hb => by
    have e : b = it := by simpa using hb
    subst e
    obtain ⟨o, e, c, d⟩ := st
    exact ⟨o, e, fun v z => by rw [d] at z; cases z⟩
  keep := fun i h h' st k => st.at fun o e => k it (by simp) o e
  item := by
    intro X hP hw hK hc i pins s σ H E I hf st hg
    subst hP hw hK
    obtain ⟨xs, x, hq, hx⟩ := hg
    obtain ⟨its, rv, p, hz⟩ := I.list hq
    obtain ⟨u, hu, ru⟩ := rv.get hx
    obtain ⟨f0, f1, f2, f3, f4, f5⟩ := hf it (by simp)
    refine wpAny_pyNext_list_item st p.isList (x := u) (by simpa using hu) fun h' st' sb => ?_
    have I1 : Inv X pins σ H { s with heap := h' } := I.turned (t' := s.toks) (fun b o hb e => (sb.2 b hb).trans e) f0 f1 f3 f4 f5
    obtain ⟨o, e, c, d⟩ := id st'
    exact ⟨u, rfl, go_of (s := { s with heap := h' }) e c d (by decide) ⟨x, H, I1, ru, ⟨rfl, fun ys hy => by rw [I.list_inj hy hq]; exact hx⟩, st', fun b hb => (hf b hb).1⟩⟩
  done := by
    intro X hP hw hK hc i pins s σ H E I hf st hg
    subst hP hw hK
    obtain ⟨xs, hq, hx⟩ := hg
    obtain ⟨its, rv, p, hz⟩ := I.list hq
    obtain ⟨f0, f1, f2, f3, f4, f5⟩ := hf it (by simp)
    have hl := rv.length
    exact wpAny_pyNext_list_end (I.ok.hd hc) st p.isList (by simp; omega) fun h' eb => ⟨rfl, I.turned (t' := s.toks) (fun b o hb e => eb b o hb e) f0 f1 f3 f4 f5⟩
  self := fun _ _ _ _ _ st h => wpAny_pyIter_listiter st h
theorem turn_range {P : Program} {w : World} {K : PySem.W.Frag} {tg : Expr} (it : Addr) (lo : Int) (n : Nat) : Turn P w K tg (Itr lo n) [it] it (fun i h => IsRangeIter h it (lo + (i : Nat) * 1) ((n : Int) - (i : Nat)) 1) where
  mem := by simp
  obj := fun i h st b hb => by
    have e : b = it := by simpa using hb
    subst e
    exact ⟨_, st, fun v z => by
      have z' : Data.fields _ = Data.cell v := z
      cases z'⟩
  keep := fun i h h' st k => k it (by simp) _ st
  item := by
    intro X hP hw hK hc i pins s σ H E I hf st hg
    subst hP hw hK
    obtain ⟨f0, f1, f2, f3, f4, f5⟩ := hf it (by simp)
    have W := Walks.range (prog := X.prog) (w := X.w) (I.ok.hd hc) it lo 1 n
    refine W.item i s _ _ hg st fun v h' tk hv st' kk => ?_
    obtain ⟨t, rfl⟩ := hv
    have I1 : Inv X pins σ H { s with heap := h', toks := tk } := I.turned (fun b o hb e => kk b o (by simpa using hb) e) f0 f1 f3 f4 f5
    refine ⟨_, rfl, go_of (s := { s with heap := h', toks := tk }) (n := "range_iterator") st' rfl rfl (by decide) ⟨.int (lo + i), H, I1, ⟨t, ?_⟩, ⟨rfl, rfl⟩, st', fun b hb => (hf b hb).1⟩⟩
    rw [Int.mul_one]
  done := by
    intro X hP hw hK hc i pins s σ H E I hf st hg
    subst hP hw hK
    obtain ⟨f0, f1, f2, f3, f4, f5⟩ := hf it (by simp)
    exact wpAny_pyNext_range_end (I.ok.hd hc) st (by have : n ≤ i := hg; omega) fun h' eb => ⟨rfl, I.turned (t' := s.toks) (fun b o hb e => eb b o hb e) f0 f1 f3 f4 f5⟩
  self := fun _ _ _ _ _ st h => wpAny_pyIter_rangeiter st h
end L2
namespace L2
open PySem PySem.Spec PyProof.Rows
section
variable {X : Cx} {tg : Expr}
def iList (K : PySem.W.Frag) (tl : TE) : TI := fun σ H R => tl σ H fun x H1 => ∃ a, x = .ref a ∧ (∃ xs, SqL K H1 a xs) ∧ R (Itl K a) H1
theorem pi_list {l : Expr} {tl : TE} (hl : PE X l tl) : PI X tg l (iList X.K tl) := by
  intro pins s σ H R I h
  refine thn (hl pins s σ H _ I h) fun v s1 ⟨x, H1, I1, r1, q1⟩ => ?_
  obtain ⟨a, e, ⟨xs, hq⟩, q⟩ := q1
  subst e
  cases r1
  obtain ⟨its, rv, p, hz⟩ := I1.list hq
  refine wpAny_pyIter_list p.isList ?_
  refine ⟨s1.heap.objs.size, [s1.heap.objs.size], _, _, H1, rfl, I1.kept (t' := s1.toks) fun b o e => Heap.get?_push_of_some _ e, turn_list a _, ⟨_, Heap.get?_push_size _ rfl, rfl, rfl⟩, fun b hb => ?_, q⟩
  have e : b = s1.heap.objs.size := by simpa using hb
  subst e
  exact I1.fpOk (Nat.le_refl _) (I1.hok.fresh (Nat.le_refl _))
theorem range_it {pins : List (Addr × Obj)} {σ : St} {H : Hp} {s : Shared} {R : It → Hp → Prop} {E : Value → Shared → Prop} {lo hi : Int} {t u v : Tok} {tk : Nat} (I : Inv X pins σ H s) (h1 : -(2 ^ 62) ≤ lo) (h2 : lo < 2 ^ 62) (h3 : -(2 ^ 62) ≤ hi) (h4 : hi < 2 ^ 62)
    (q : R (Itr lo (hi - lo).toNat) H) : wpAny (model X.prog X.w) X.A (pyIter (.ref s.heap.objs.size)) (PIE X pins σ tg R) E { s with heap := s.heap.push { cls := .type "range", data := .fields #[.int lo t, .int hi u, .int 1 v] }, toks := tk } := by
  refine wpAny_pyIter_range (IsRange.new ..) (small_one h1 h2 h3 h4) ?_
  have I1 : Inv X pins σ H { s with heap := s.heap.push { cls := .type "range", data := .fields #[.int lo t, .int hi u, .int 1 v] }, toks := tk } := I.kept fun b o e => Heap.get?_push_of_some _ e
  refine ⟨(s.heap.push { cls := .type "range", data := .fields #[.int lo t, .int hi u, .int 1 v] }).objs.size, [(s.heap.push { cls := .type "range", data := .fields #[.int lo t, .int hi u, .int 1 v] }).objs.size], _, _, H, rfl,
    I1.kept (t' := tk) fun b o e => Heap.get?_push_of_some _ e, turn_range _ lo (hi - lo).toNat, ?_, fun b hb => ?_, q⟩
  · have e1 : lo + ((0 : Nat) : Int) * 1 = lo := by simp
    have e2 : (((hi - lo).toNat : Nat) : Int) - ((0 : Nat) : Int) = Builtin.Range.rangeSize lo hi 1 := by rw [rangeSize_one]; split <;> omega
    show IsRangeIter _ _ (lo + ((0 : Nat) : Int) * 1) ((((hi - lo).toNat : Nat) : Int) - ((0 : Nat) : Int)) 1
    rw [e1, e2]
    exact Heap.get?_push_size _ rfl
  · have e : b = (s.heap.push { cls := .type "range", data := .fields #[.int lo t, .int hi u, .int 1 v] }).objs.size := by simpa using hb
    subst e
    exact I1.fpOk (Nat.le_refl _) (I1.hok.fresh (Nat.le_refl _))
def iRng1 (ta : TA) : TI := fun σ H R => ta σ H fun vs H1 => ∃ j : Int, vs = [.int j] ∧ -(2 ^ 62) ≤ j ∧ j < 2 ^ 62 ∧ R (Itr 0 j.toNat) H1
theorem pi_range1 {a : Expr} {ta : TA} {p pos : Pos} (hg : Gl X "range") (hm : X.mg "range" = none) (ha : PA X [a] ta) (hs : starEach [a] X.env = [(false, eval a X.env)] := by rfl) : PI X tg (.Call (.Name "range" p) [a] [] pos) (iRng1 ta) := by
  intro pins s σ H R I h
  refine Call_ (ld_blt I hg hm boot_range (PyProof.Rows.callWith_type1 (thn (ha pos pins s σ H _ I h) fun us s1 ⟨vs, H1, I1, r1, q1⟩ => ?_) hs rfl))
  obtain ⟨j, e, q1, q2, q⟩ := q1
  subst e
  cases r1 with
  | cons r rr =>
    cases rr
    obtain ⟨t, rfl⟩ := r
    exact call_range_1 (range_it I1 (by omega) (by omega) q1 q2 (by simpa using q))
def tFor (wi : TI) (g : TG) (tb : TS) : TS := fun D σ H => wi σ H fun J H1 => ∃ W : Nat → Nat → St → Hp → Prop, (∃ m, W 0 m σ H1) ∧ ∀ i m σ H, W i m σ H →
  (J.stop i H ∧ D.nx σ H) ∨ (J.go i H ∧ ∃ N : St → Hp → Prop, (∀ σ' H', N σ' H' → ∃ m', m' < m ∧ W (i + 1) m' σ' H') ∧ ∀ x H', J.yld i H x H' → g x σ H' fun σ2 H2 => tb { D with nx := N, ct := N, bk := D.nx } σ2 H2)
def pinsAt (fp : List Addr) (h : Heap) : List (Addr × Obj) := fp.filterMap fun b => (h.get? b).map fun o => (b, o)
theorem mem_pinsAt {fp : List Addr} {h : Heap} {b : Addr} {o : Obj} (hb : b ∈ fp) (e : h.get? b = some o) : (b, o) ∈ pinsAt fp h := List.mem_filterMap.mpr ⟨b, hb, by rw [e]; rfl⟩
theorem of_pinsAt {fp : List Addr} {h : Heap} {p : Addr × Obj} (hp : p ∈ pinsAt fp h) : p.1 ∈ fp ∧ h.get? p.1 = some p.2 := by
  obtain ⟨b, hb, e⟩ := List.mem_filterMap.mp hp
  cases q : h.get? b with
  | none => rw [q] at e; cases e
  | some o =>
    rw [q] at e
    have e' : (b, o) = p := Option.some.inj e
    subst e'
    exact ⟨hb, q⟩
theorem Inv.pinned {pins : List (Addr × Obj)} {σ : St} {H : Hp} {s : Shared} {fp : List Addr} (I : Inv X pins σ H s) (hf : ∀ b ∈ fp, FpOk X pins H b) (ho : ∀ b ∈ fp, ∃ o, s.heap.get? b = some o ∧ ∀ v, o.data ≠ .cell v) : Inv X (pins ++ pinsAt fp s.heap) σ H s :=
  I.pins_of fun p hp => (List.mem_append.mp hp).elim (fun z => I.pin p (List.mem_append_right _ z)) fun z => by
    obtain ⟨hb, e⟩ := of_pinsAt z
    obtain ⟨f0, f1, f2, _⟩ := hf p.1 hb
    obtain ⟨o, e', d⟩ := ho p.1 hb
    rw [e] at e'; cases e'
    exact ⟨e, f0, f1, f2, d⟩
theorem Inv.unpinned {pins pl : List (Addr × Obj)} {σ : St} {H : Hp} {s : Shared} (I : Inv X (pins ++ pl) σ H s) : Inv X pins σ H s := I.pins_of fun p hp => I.pin p (List.mem_append_right _ (List.mem_append_left _ hp))
theorem ps_for {iter : Expr} {body : List Stmt} {wi : TI} {g : TG} {tb : TS} {pos : Pos} (hp : PassesOwn (model X.prog X.w) X.A X.env X.xe) (hc : X.calm = true) (hi : PI X tg iter wi) (hg : PG X tg g) (hb : PSs X body tb)
    (hs : ∀ x, foldedSetIterable iter X.env x = pure x := by intro _; rfl) : PS X (.For tg iter body [] pos) (tFor wi g tb) := by
  intro pins s σ H D I h
  refine wpAny_For (thn (hi pins s σ H _ I h) fun v s1 h1 => thn h1 fun itv s2 h2 => ?_) hs
  obtain ⟨it, fp, tn, J, H2, e, I2, T, st2, f2, W, ⟨m0, w0⟩, turn⟩ := h2
  subst e
  -- what stays true of the iterator's objects through the loop
  have stat : ∀ {H' : Hp}, (∀ b ∈ fp, H' b = none) → ∀ b ∈ fp, FpOk X pins H' b := fun hn b hb => ⟨hn b hb, (f2 b hb).2⟩
  refine codeAny_forLoop_any (fun n s' => ∃ i σ' H', Inv X pins σ' H' s' ∧ tn i s'.heap ∧ (∀ b ∈ fp, H' b = none) ∧ W i n σ' H') ?_ m0 ⟨0, σ, H2, I2, st2, fun b hb => (f2 b hb).1, w0⟩
  rintro n s3 ⟨i, σ3, H3, I3, st3, fr3, w3⟩
  rcases turn i n σ3 H3 w3 with ⟨stop, qn⟩ | ⟨go, N, hN, step⟩
  · refine wpAny_passesOwn hp (thn (T.done X rfl rfl rfl hc i pins s3 σ3 H3 X.xe I3 (stat fr3) st3 stop) fun r s4 ⟨hr, I4⟩ => ?_)
    subst hr
    exact wpAny_execs_nil ⟨σ3, H3, I4, qn⟩
  · refine wpAny_passesOwn hp (thn (T.item X rfl rfl rfl hc i pins s3 σ3 H3 X.xe I3 (stat fr3) st3 go) fun r s4 ⟨u, hr, h4⟩ => ?_)
    subst hr
    refine wpAny_passesOwn hp (thn h4 fun _ s5 ⟨x, H5, I5, r5, y5, st5, fr5⟩ => ?_)
    have I5' := I5.pinned (stat fr5) (T.obj _ _ st5)
    refine wpAny_passesOwn hp (thn (hg _ s5 σ3 H5 x u _ I5' r5 (step x H5 y5)) fun _ s6 ⟨σ6, H6, I6, q6⟩ => ?_)
    refine wpAny_passesOwn hp (thn (hb _ s6 σ6 H6 _ I6 q6) fun f s7 q7 => ?_)
    have again : ∀ {σ7 : St} {H7 : Hp}, Inv X (pins ++ pinsAt fp s5.heap) σ7 H7 s7 → N σ7 H7 → ∃ m, m < n ∧ ∃ i σ' H', Inv X pins σ' H' s7 ∧ tn i s7.heap ∧ (∀ b ∈ fp, H' b = none) ∧ W i m σ' H' := fun {σ7 H7} I7 n7 => by
      obtain ⟨m', hm, w7⟩ := hN σ7 H7 n7
      refine ⟨m', hm, i + 1, σ7, H7, I7.unpinned, T.keep _ _ _ st5 fun b hb o e => (I7.pin (b, o) (List.mem_append_right _ (List.mem_append_right _ (mem_pinsAt hb e)))).1, fun b hb => ?_, w7⟩
      obtain ⟨o, e, d⟩ := T.obj _ _ st5 b hb
      exact (I7.pin (b, o) (List.mem_append_right _ (List.mem_append_right _ (mem_pinsAt hb e)))).2.1
    cases f with
    | next => obtain ⟨σ7, H7, I7, n7⟩ := q7; exact again I7 n7
    | cont => obtain ⟨σ7, H7, I7, n7⟩ := q7; exact again I7 n7
    | brk => obtain ⟨σ7, H7, I7, q7⟩ := q7; exact ⟨σ7, H7, I7.unpinned, q7⟩
    | ret v => obtain ⟨x7, σ7, H7, I7, r7, q7⟩ := q7; exact ⟨x7, σ7, H7, I7.unpinned, r7, q7⟩
end
theorem for_list {K : PySem.W.Frag} {a : Addr} {xs : List V} {g : TG} {tb : TS} {D : Ends} {σ : St} {H : Hp} (Pv : Nat → St → Hp → Prop) (h0 : Pv 0 σ H) (hl : ∀ i σ H, i ≤ xs.length → Pv i σ H → SqL K H a xs)
    (hs : ∀ i x σ H, xs[i]? = some x → Pv i σ H → g x σ H fun σ2 H2 => tb { D with nx := Pv (i + 1), ct := Pv (i + 1), bk := D.nx } σ2 H2) (hd : ∀ σ H, Pv xs.length σ H → D.nx σ H) :
    ∃ W : Nat → Nat → St → Hp → Prop, (∃ m, W 0 m σ H) ∧ ∀ i m σ H, W i m σ H →
      ((Itl K a).stop i H ∧ D.nx σ H) ∨ ((Itl K a).go i H ∧ ∃ N : St → Hp → Prop, (∀ σ' H', N σ' H' → ∃ m', m' < m ∧ W (i + 1) m' σ' H') ∧ ∀ x H', (Itl K a).yld i H x H' → g x σ H' fun σ2 H2 => tb { D with nx := N, ct := N, bk := D.nx } σ2 H2) := by
  refine ⟨fun i m σ H => m = xs.length - i ∧ i ≤ xs.length ∧ Pv i σ H, ⟨xs.length, by simp, Nat.zero_le _, h0⟩, ?_⟩
  rintro i m σ H ⟨rfl, hi, p⟩
  have q := hl i σ H hi p
  by_cases hlt : i < xs.length
  · refine .inr ⟨⟨xs, xs[i], q, by simp [hlt]⟩, Pv (i + 1), fun σ' H' p' => ⟨xs.length - (i + 1), by omega, rfl, hlt, p'⟩, fun x H' y => ?_⟩
    obtain ⟨e, y⟩ := y
    subst e
    exact hs i x σ _ (y xs q) p
  · have e : i = xs.length := by omega
    subst e
    exact .inl ⟨⟨xs, q, Nat.le_refl _⟩, hd σ H p⟩
theorem for_range {lo : Int} {n : Nat} {g : TG} {tb : TS} {D : Ends} {σ : St} {H : Hp} (Pv : Nat → St → Hp → Prop) (h0 : Pv 0 σ H)
    (hs : ∀ i σ H, i < n → Pv i σ H → g (.int (lo + i)) σ H fun σ2 H2 => tb { D with nx := Pv (i + 1), ct := Pv (i + 1), bk := D.nx } σ2 H2) (hd : ∀ σ H, Pv n σ H → D.nx σ H) :
    ∃ W : Nat → Nat → St → Hp → Prop, (∃ m, W 0 m σ H) ∧ ∀ i m σ H, W i m σ H →
      ((Itr lo n).stop i H ∧ D.nx σ H) ∨ ((Itr lo n).go i H ∧ ∃ N : St → Hp → Prop, (∀ σ' H', N σ' H' → ∃ m', m' < m ∧ W (i + 1) m' σ' H') ∧ ∀ x H', (Itr lo n).yld i H x H' → g x σ H' fun σ2 H2 => tb { D with nx := N, ct := N, bk := D.nx } σ2 H2) := by
  refine ⟨fun i m σ H => m = n - i ∧ i ≤ n ∧ Pv i σ H, ⟨n, by simp, Nat.zero_le _, h0⟩, ?_⟩
  rintro i m σ H ⟨rfl, hi, p⟩
  by_cases hlt : i < n
  · refine .inr ⟨hlt, Pv (i + 1), fun σ' H' p' => ⟨n - (i + 1), by omega, rfl, hlt, p'⟩, fun x H' y => ?_⟩
    obtain ⟨e, y⟩ := y
    subst e y
    exact hs i σ _ hlt p
  · have e : i = n := by omega
    subst e
    exact .inl ⟨Nat.le_refl _, hd σ H p⟩
end L2
namespace L2
open PySem PySem.Spec PyProof.Rows
abbrev R2 := V → V → Hp → VK → Prop
def OpR (X : Cx) (f : Value → Value → Sem Value) (r : R2) : Prop :=
  ∀ (pins : List (Addr × Obj)) (s : Shared) (σ : St) (H : Hp) (x y : V) (v u : Value) (Q : VK), Inv X pins σ H s → RelV x v → RelV y u → r x y H Q →
    wpAny (model X.prog X.w) X.A (f v u) (EP X pins σ Q) X.xe s
def UnR (X : Cx) (f : Value → Sem Value) (r : V → Hp → VK → Prop) : Prop :=
  ∀ (pins : List (Addr × Obj)) (s : Shared) (σ : St) (H : Hp) (x : V) (v : Value) (Q : VK), Inv X pins σ H s → RelV x v → r x H Q →
    wpAny (model X.prog X.w) X.A (f v) (EP X pins σ Q) X.xe s
def CallR (X : Cx) (f : Value) (r : List V → Hp → VK → Prop) : Prop :=
  ∀ (pins : List (Addr × Obj)) (s : Shared) (σ : St) (H : Hp) (xs : List V) (us : List Value) (Q : VK), Inv X pins σ H s → Vals xs us → r xs H Q →
    wpAny (model X.prog X.w) X.A (call f us) (EP X pins σ Q) X.xe s
def TruR (X : Cx) (r : V → Hp → (Bool → Hp → Prop) → Prop) : Prop :=
  ∀ (pins : List (Addr × Obj)) (s : Shared) (σ : St) (H : Hp) (x : V) (v : Value) (Q : Bool → Hp → Prop), Inv X pins σ H s → RelV x v → r x H Q →
    wpAny (model X.prog X.w) X.A (truthy v) (TP X pins σ Q) X.xe s
def tOp (r : R2) (ta tb : TE) : TE := fun σ H Q => ta σ H fun x H1 => tb σ H1 fun y H2 => r x y H2 Q
def tUn (r : V → Hp → VK → Prop) (ta : TE) : TE := fun σ H Q => ta σ H fun x H1 => r x H1 Q
def rI (C : Int → Int → Prop) (g : Int → Int → V) : R2 := fun x y H Q => ∃ i j, x = .int i ∧ y = .int j ∧ C i j ∧ Q (g i j) H
def rI0 (g : Int → Int → V) : R2 := fun x y H Q => ∃ i j, x = .int i ∧ y = .int j ∧ Q (g i j) H
def rU (g : Int → V) : V → Hp → VK → Prop := fun x H Q => ∃ i, x = .int i ∧ Q (g i) H
section
variable {X : Cx} {a b c : Expr} {ta tb tc : TE} {pos : Pos}
theorem binT (ha : PE X a ta) (hb : PE X b tb) {pins : List (Addr × Obj)} {s : Shared} {σ : St} {H : Hp} {R : V → V → Hp → Prop} (I : Inv X pins σ H s)
    (h : ta σ H fun x H1 => tb σ H1 fun y H2 => R x y H2) {Q : Value → Shared → Prop} {f : Value → Value → Sem Value}
    (hf : ∀ v u s2 x y H2, Inv X pins σ H2 s2 → RelV x v → RelV y u → R x y H2 → wpAny (model X.prog X.w) X.A (f v u) Q X.xe s2) :
    wpAny (model X.prog X.w) X.A (eval a X.env) (fun v s₁ => wpAny (model X.prog X.w) X.A (eval b X.env) (fun u s₂ => wpAny (model X.prog X.w) X.A (f v u) Q X.xe s₂) X.xe s₁) X.xe s := by
  refine thn (ha pins s σ H _ I h) fun v s1 ⟨x, H1, I1, r1, q1⟩ => ?_
  refine thn (hb pins s1 σ H1 _ I1 q1) fun u s2 ⟨y, H2, I2, r2, q2⟩ => ?_
  exact hf v u s2 x y H2 I2 r1 r2 q2
theorem pe_op {op : Operator} {r : R2} (ho : OpR X (binaryOp op) r) (ha : PE X a ta) (hb : PE X b tb) : PE X (.BinOp a op b pos) (tOp r ta tb) := by
  intro pins s σ H Q I h
  exact wpAny_BinOp (binT ha hb I h fun v u s2 x y H2 I2 rx ry q => ho pins s2 σ H2 x y v u Q I2 rx ry q)
theorem pe_un {op : UnaryOp} {r : V → Hp → VK → Prop} (ho : UnR X (unaryOp op) r) (ha : PE X a ta) : PE X (.UnaryOp op a pos) (tUn r ta) := by
  intro pins s σ H Q I h
  exact UnaryOp_ (thn (ha pins s σ H _ I h) fun v s1 ⟨x, H1, I1, r1, q1⟩ => ho pins s1 σ H1 x v Q I1 r1 q1)
theorem opI {f : Value → Value → Sem Value} {C : Int → Int → Prop} {g : Int → Int → Int}
    (rule : ∀ (i j : Int) (t u : Tok) (s : Shared) (Q : Value → Shared → Prop) (E : Value → Shared → Prop), C i j → Q (.int (g i j) s.toks) { s with toks := s.toks + 1 } → wpAny (model X.prog X.w) X.A (f (.int i t) (.int j u)) Q E s) :
    OpR X f (rI C fun i j => .int (g i j)) := by
  intro pins s σ H x y v u Q I rx ry h
  obtain ⟨i, j, rfl, rfl, hc, q⟩ := h
  obtain ⟨t, rfl⟩ := rx
  obtain ⟨t', rfl⟩ := ry
  exact rule i j t t' s _ _ hc ⟨.int (g i j), H, I.tok _, ⟨_, rfl⟩, q⟩
theorem opI0 {f : Value → Value → Sem Value} {g : Int → Int → Int}
    (rule : ∀ (i j : Int) (t u : Tok) (s : Shared) (Q : Value → Shared → Prop) (E : Value → Shared → Prop), Q (.int (g i j) s.toks) { s with toks := s.toks + 1 } → wpAny (model X.prog X.w) X.A (f (.int i t) (.int j u)) Q E s) :
    OpR X f (rI0 fun i j => .int (g i j)) := by
  intro pins s σ H x y v u Q I rx ry h
  obtain ⟨i, j, rfl, rfl, q⟩ := h
  obtain ⟨t, rfl⟩ := rx
  obtain ⟨t', rfl⟩ := ry
  exact rule i j t t' s _ _ ⟨.int (g i j), H, I.tok _, ⟨_, rfl⟩, q⟩
theorem opB0 {f : Value → Value → Sem Value} {g : Int → Int → Bool}
    (rule : ∀ (i j : Int) (t u : Tok) (s : Shared) (Q : Value → Shared → Prop) (E : Value → Shared → Prop), Q (.bool (g i j)) s → wpAny (model X.prog X.w) X.A (f (.int i t) (.int j u)) Q E s) :
    OpR X f (rI0 fun i j => .bl (g i j)) := by
  intro pins s σ H x y v u Q I rx ry h
  obtain ⟨i, j, rfl, rfl, q⟩ := h
  obtain ⟨t, rfl⟩ := rx
  obtain ⟨t', rfl⟩ := ry
  exact rule i j t t' s _ _ ⟨.bl (g i j), H, I, rfl, q⟩
def CDiv (i j : Int) : Prop := 0 < j ∧ j < 1073741824
def CPow (i j : Int) : Prop := 0 ≤ j ∧ j ≤ 1000000 ∧ i.natAbs < 2 ^ 64
def CMul (i j : Int) : Prop := (-(2 ^ 64) < i ∧ i < 2 ^ 64) ∨ (-(2 ^ 64) < j ∧ j < 2 ^ 64)
theorem CMul.ok {i j : Int} (h : CMul i j) : IntMulOk i j := by
  rcases h with ⟨h1, h2⟩ | ⟨h1, h2⟩
  · exact .of_left (intBits_le_64 h1 h2)
  · exact .of_right (intBits_le_64 h1 h2)
theorem op_add : OpR X (binaryOp .Add) (rI0 fun i j => .int (i + j)) := opI0 fun _ _ _ _ _ _ _ q => add_int q
theorem op_sub : OpR X (binaryOp .Sub) (rI0 fun i j => .int (i - j)) := opI0 fun _ _ _ _ _ _ _ q => sub_int q
theorem op_mul : OpR X (binaryOp .Mult) (rI CMul fun i j => .int (i * j)) := opI fun _ _ _ _ _ _ _ hc q => mul_int q hc.ok
theorem op_fdiv : OpR X (binaryOp .FloorDiv) (rI CDiv fun i j => .int (i / j)) := opI fun i j _ _ _ _ _ hc q => by
  have h1 : (0 : Int) < j := hc.1
  have h2 : j < 1073741824 := hc.2
  exact floordiv_int (by omega) (by rw [Int.fdiv_eq_ediv_of_nonneg i (by omega)]; exact q) (.inl (PyProof.noPylong_small (by omega)))
theorem op_mod : OpR X (binaryOp .Mod) (rI (fun _ j => 0 < j) fun i j => .int (i % j)) := opI fun i j _ _ _ _ _ hc q => by
  have h1 : (0 : Int) < j := hc
  exact mod_int' (by omega) (by rw [Int.fmod_eq_emod_of_nonneg i (by omega)]; exact q)
theorem op_pow : OpR X (binaryOp .Pow) (rI CPow fun i j => .int (i ^ j.toNat)) := opI fun _ _ _ _ _ _ _ hc q => pow_int_small hc.1 hc.2.1 hc.2.2 q
theorem unI {f : Value → Sem Value} {g : Int → Int}
    (rule : ∀ (i : Int) (t : Tok) (s : Shared) (Q : Value → Shared → Prop) (E : Value → Shared → Prop), Q (.int (g i) s.toks) { s with toks := s.toks + 1 } → wpAny (model X.prog X.w) X.A (f (.int i t)) Q E s) :
    UnR X f (rU fun i => .int (g i)) := by
  intro pins s σ H x v Q I rx h
  obtain ⟨i, rfl, q⟩ := h
  obtain ⟨t, rfl⟩ := rx
  exact rule i t s _ _ ⟨.int (g i), H, I.tok _, ⟨_, rfl⟩, q⟩
theorem un_neg : UnR X (unaryOp .USub) (rU fun i => .int (-i)) := unI fun _ _ _ _ _ q => neg_int q
end
def scal : V → V → Bool
  | .non, .non => true | .non, .int _ => true | .int _, .non => true | .non, .bl _ => true | .bl _, .non => true | .non, .str _ => true | .str _, .non => true
  | .int _, .int _ => true | .bl _, .bl _ => true | .str _, .str _ => true | .byt _, .byt _ => true
  | .int _, .str _ => true | .str _, .int _ => true | .bl _, .str _ => true | .str _, .bl _ => true
  | _, _ => false
def rEq : R2 := fun x y H Q => scal x y = true ∧ Q (.bl (decide (x = y))) H
def rNe : R2 := fun x y H Q => scal x y = true ∧ Q (.bl (!decide (x = y))) H
theorem dec_int {i j : Int} : decide (V.int i = V.int j) = (i == j) := by
  rw [Bool.eq_iff_iff]
  simp
theorem dec_bl {i j : Bool} : decide (V.bl i = V.bl j) = (i == j) := by
  rw [Bool.eq_iff_iff]
  simp
theorem dec_str {i j : Str} : decide (V.str i = V.str j) = (i == j) := by
  rw [Bool.eq_iff_iff]
  simp
theorem dec_byt {i j : Array UInt8} : decide (V.byt i = V.byt j) = (i.toList == j.toList) := by
  rw [Bool.eq_iff_iff]
  cases i
  cases j
  simp
section
variable {X : Cx} {a b c : Expr} {ta tb tc : TE} {pos : Pos}
theorem fin_bl {pins : List (Addr × Obj)} {σ : St} {H : Hp} {s : Shared} {Q : VK} {k k' : Bool} (I : Inv X pins σ H s) (q : Q (.bl k) H) (e : k = k') : EP X pins σ Q (.bool k') s := by
  subst e
  exact ⟨.bl k, H, I, rfl, q⟩
theorem op_eq : OpR X (compareOp .Eq) rEq := by
  intro pins s σ H x y v u Q I rx ry h
  obtain ⟨hs, q⟩ := h
  cases x with
  | non =>
    cases rx
    cases y with
    | non => cases ry; exact PySem.EqNone.eq_none_none (fin_bl I q (by simp))
    | bl j => cases ry; exact PySem.EqNone.eq_none_bool (fin_bl I q (by simp))
    | int j => obtain ⟨t', rfl⟩ := ry; exact PySem.EqNone.eq_none_int (fin_bl I q (by simp))
    | str j => obtain ⟨t', rfl⟩ := ry; exact PySem.EqNone.eq_none_str (fin_bl I q (by simp))
    | _ => exact absurd (show false = true from hs) Bool.false_ne_true
  | bl i =>
    cases rx
    cases y with
    | non => cases ry; exact PySem.EqNone.eq_bool_none (fin_bl I q (by simp))
    | bl j => cases ry; exact eq_bool (fin_bl I q dec_bl)
    | str j => obtain ⟨t', rfl⟩ := ry; exact PySem.EqMixed.eq_bool_str (fin_bl I q (by simp))
    | _ => exact absurd (show false = true from hs) Bool.false_ne_true
  | int i =>
    obtain ⟨t, rfl⟩ := rx
    cases y with
    | non => cases ry; exact PySem.EqNone.eq_int_none (fin_bl I q (by simp))
    | int j => obtain ⟨t', rfl⟩ := ry; exact eq_int (fin_bl I q dec_int)
    | str j => obtain ⟨t', rfl⟩ := ry; exact PySem.EqMixed.eq_int_str (fin_bl I q (by simp))
    | _ => exact absurd (show false = true from hs) Bool.false_ne_true
  | str i =>
    obtain ⟨t, rfl⟩ := rx
    cases y with
    | non => cases ry; exact PySem.EqNone.eq_str_none (fin_bl I q (by simp))
    | bl j => cases ry; exact PySem.EqMixed.eq_str_bool (fin_bl I q (by simp))
    | int j => obtain ⟨t', rfl⟩ := ry; exact PySem.EqMixed.eq_str_int (fin_bl I q (by simp))
    | str j => obtain ⟨t', rfl⟩ := ry; exact eq_str (fin_bl I q dec_str)
    | _ => exact absurd (show false = true from hs) Bool.false_ne_true
  | byt i =>
    obtain ⟨t, rfl⟩ := rx
    cases y with
    | byt j => obtain ⟨t', rfl⟩ := ry; exact PySem.W.eq_bytes (fin_bl I q dec_byt)
    | _ => exact absurd (show false = true from hs) Bool.false_ne_true
  | _ => cases y <;> exact absurd (show false = true from hs) Bool.false_ne_true
theorem op_ne : OpR X (compareOp .NotEq) rNe := by
  intro pins s σ H x y v u Q I rx ry h
  obtain ⟨hs, q⟩ := h
  cases x with
  | non =>
    cases rx
    cases y with
    | non => cases ry; exact PySem.EqNone.ne_none_none (fin_bl I q (by simp))
    | bl j => cases ry; exact PySem.EqNone.ne_none_bool (fin_bl I q (by simp))
    | int j => obtain ⟨t', rfl⟩ := ry; exact PySem.EqNone.ne_none_int (fin_bl I q (by simp))
    | str j => obtain ⟨t', rfl⟩ := ry; exact PySem.EqNone.ne_none_str (fin_bl I q (by simp))
    | _ => exact absurd (show false = true from hs) Bool.false_ne_true
  | bl i =>
    cases rx
    cases y with
    | non => cases ry; exact PySem.EqNone.ne_bool_none (fin_bl I q (by simp))
    | bl j => cases ry; exact ne_bool (fin_bl I q (congrArg not dec_bl))
    | str j => obtain ⟨t', rfl⟩ := ry; exact PySem.EqMixed.ne_bool_str (fin_bl I q (by simp))
    | _ => exact absurd (show false = true from hs) Bool.false_ne_true
  | int i =>
    obtain ⟨t, rfl⟩ := rx
    cases y with
    | non => cases ry; exact PySem.EqNone.ne_int_none (fin_bl I q (by simp))
    | int j => obtain ⟨t', rfl⟩ := ry; exact ne_int (fin_bl I q (congrArg not dec_int))
    | str j => obtain ⟨t', rfl⟩ := ry; exact PySem.EqMixed.ne_int_str (fin_bl I q (by simp))
    | _ => exact absurd (show false = true from hs) Bool.false_ne_true
  | str i =>
    obtain ⟨t, rfl⟩ := rx
    cases y with
    | non => cases ry; exact PySem.EqNone.ne_str_none (fin_bl I q (by simp))
    | bl j => cases ry; exact PySem.EqMixed.ne_str_bool (fin_bl I q (by simp))
    | int j => obtain ⟨t', rfl⟩ := ry; exact PySem.EqMixed.ne_str_int (fin_bl I q (by simp))
    | str j => obtain ⟨t', rfl⟩ := ry; exact ne_str (fin_bl I q (congrArg not dec_str))
    | _ => exact absurd (show false = true from hs) Bool.false_ne_true
  | byt i =>
    obtain ⟨t, rfl⟩ := rx
    cases y with
    | byt j => obtain ⟨t', rfl⟩ := ry; exact PySem.W.ne_bytes (fin_bl I q (congrArg not dec_byt))
    | _ => exact absurd (show false = true from hs) Bool.false_ne_true
  | _ => cases y <;> exact absurd (show false = true from hs) Bool.false_ne_true
theorem op_lt : OpR X (compareOp .Lt) (rI0 fun i j => .bl (decide (i < j))) := opB0 fun _ _ _ _ _ _ _ q => lt_int q
theorem op_gt : OpR X (compareOp .Gt) (rI0 fun i j => .bl (decide (j < i))) := opB0 fun _ _ _ _ _ _ _ q => gt_int q
theorem nomark (b : Expr) {op : CmpOp} (h : op ≠ .In := by decide) (h2 : op ≠ .NotIn := by decide) : behindInMarks op b = false := by
  have e1 : (op == CmpOp.In) = false := by cases op <;> first | rfl | exact absurd rfl h
  have e2 : (op == CmpOp.NotIn) = false := by cases op <;> first | rfl | exact absurd rfl h2
  cases b <;> simp [behindInMarks, e1, e2]
theorem pe_cmpR {op : CmpOp} {r : R2} (ho : OpR X (compareOp op) r) (ha : PE X a ta) (hb : PE X b tb) (hm : behindInMarks op b = false) : PE X (.Compare a [op] [b] pos) (tOp r ta tb) := by
  intro pins s σ H Q I h
  exact wpAny_Compare1 (binT ha hb I h fun v u s2 x y H2 I2 rx ry q => ho pins s2 σ H2 x y v u Q I2 rx ry q) hm
def tTest (t : TE) : TT := fun σ H Q => t σ H fun x H' => ∃ k, x = .bl k ∧ Q k H'
theorem pt_cmpR {op : CmpOp} {r : R2} (ho : OpR X (compareOp op) r) (ha : PE X a ta) (hb : PE X b tb) (hm : behindInMarks op b = false) : PT X (.Compare a [op] [b] pos) (tTest (tOp r ta tb)) := by
  intro pins s σ H Q I h
  refine wpAny_isTrue_Compare1 (thn (ha pins s σ H _ I h) fun v s1 ⟨x, H1, I1, r1, q1⟩ => thn (hb pins s1 σ H1 _ I1 q1) fun u s2 ⟨y, H2, I2, r2, q2⟩ =>
    thn (ho pins s2 σ H2 x y v u _ I2 r1 r2 q2) fun c s3 ⟨z, H3, I3, r3, k, e, q3⟩ => ?_) hm
  subst e
  cases r3
  exact wpAny_truthy_bool ⟨H3, I3, q3⟩
def tChain (r r' : R2) (ta tb tc : TE) : TE := fun σ H Q => ta σ H fun x H1 => tb σ H1 fun y H2 => r x y H2 fun z H3 => ∃ k, z = .bl k ∧
  (if k = true then tc σ H3 fun w' H4 => r' y w' H4 Q else Q (.bl false) H3)
theorem pe_chain {op op' : CmpOp} {r r' : R2} (ho : OpR X (compareOp op) r) (ho' : OpR X (compareOp op') r') (ha : PE X a ta) (hb : PE X b tb) (hc : PE X c tc)
    (hm : lastMarks [op, op'] [b, c] = false := by with_unfolding_all rfl) : PE X (.Compare a [op, op'] [b, c] pos) (tChain r r' ta tb tc) := by
  intro pins s σ H Q I h
  refine Compare_chain (thn (ha pins s σ H _ I h) fun v s1 ⟨x, H1, I1, r1, q1⟩ => chain_link (thn (hb pins s1 σ H1 _ I1 q1) fun u s2 ⟨y, H2, I2, r2, q2⟩ =>
    thn (ho pins s2 σ H2 x y v u _ I2 r1 r2 q2) fun d s3 ⟨z, H3, I3, r3, k, e, q3⟩ => ?_)) hm
  subst e
  cases r3
  refine wpAny_truthy_bool ?_
  cases k with
  | false => exact ite_ff ⟨.bl false, H3, I3, rfl, q3⟩
  | true => exact ite_tt (chain_last (thn (hc pins s3 σ H3 _ I3 q3) fun w' s4 ⟨z', H4, I4, r4, q4⟩ => ho' pins s4 σ H4 y z' u w' Q I4 r2 r4 q4))
def TruV (K : PySem.W.Frag) (x : V) (H : Hp) (k : Bool) : Prop :=
  match x with
  | .non => k = false
  | .bl b => k = b
  | .int i => k = (i != 0)
  | .str y => y.length ≤ sizeLine ∧ k = ((y.length : Int) != 0)
  | .byt y => y.size ≤ sizeLine ∧ k = ((y.size : Int) != 0)
  | .ref p => (∃ xs, SqL K H p xs ∧ k = !xs.isEmpty) ∨ (∃ xs, SqT K H p xs ∧ k = !xs.isEmpty) ∨ ∃ kvs, H p = some (.dK kvs) ∧ k = !kvs.isEmpty
  | _ => False
theorem isEmpty_kv {κ : Type} {kvs : List (κ × V)} {vs : List (κ × Value)} (r : KV kvs vs) : (!vs.isEmpty) = !kvs.isEmpty := by
  cases r <;> rfl
theorem isEmpty_of {xs : List V} {its : List Value} (r : Vals xs its) : (!its.toArray.isEmpty) = !xs.isEmpty := by
  cases r <;> simp
theorem line63 : (sizeLine : Nat) < 2 ^ 63 := by rw [sizeLine_eq]; decide
theorem tru_ok : TruR X (fun x H Q => ∃ k, TruV X.K x H k ∧ Q k H) := by
  intro pins s σ H x v Q I rx h
  obtain ⟨k, e, q⟩ := h
  have hl := line63
  have hs : sizeLine = 16777216 := sizeLine_eq
  cases x with
  | non =>
    cases rx
    have e' : k = false := e
    subst e'
    exact truthy_none ⟨H, I, q⟩
  | bl b =>
    cases rx
    have e' : k = b := e
    subst e'
    exact wpAny_truthy_bool ⟨H, I, q⟩
  | int i =>
    obtain ⟨t, rfl⟩ := rx
    have e' : k = (i != 0) := e
    subst e'
    exact PySem.P.truthy_int ⟨H, I, q⟩
  | str y =>
    obtain ⟨t, rfl⟩ := rx
    obtain ⟨hy, e'⟩ : y.length ≤ sizeLine ∧ k = ((y.length : Int) != 0) := e
    subst e'
    exact PySem.P.truthy_str (by omega) ⟨H, I.tok _, q⟩
  | byt y =>
    obtain ⟨t, rfl⟩ := rx
    obtain ⟨hy, e'⟩ : y.size ≤ sizeLine ∧ k = ((y.size : Int) != 0) := e
    subst e'
    exact PySem.W.truthy_bytes (by omega) ⟨H, I.tok _, q⟩
  | ref p =>
    cases rx
    have e' : (∃ xs, SqL X.K H p xs ∧ k = !xs.isEmpty) ∨ (∃ xs, SqT X.K H p xs ∧ k = !xs.isEmpty) ∨ ∃ kvs, H p = some (.dK kvs) ∧ k = !kvs.isEmpty := e
    rcases e' with ⟨xs, hx, e'⟩ | ⟨xs, hx, e'⟩ | ⟨kvs, hx, e'⟩
    · subst e'
      obtain ⟨its, r, pl, hz⟩ := I.list hx
      have hlen := r.length
      exact wpAny_truthy_list pl.isList (by simp only [List.size_toArray]; omega) ⟨H, I.tok _, by rw [isEmpty_of r]; exact q⟩
    · subst e'
      obtain ⟨its, r, pl, hz⟩ := I.tuple hx
      have hlen := r.length
      exact truthy_tuple pl (by simp only [List.size_toArray]; omega) ⟨H, I.tok _, by rw [isEmpty_of r]; exact q⟩
    · subst e'
      obtain ⟨hz, hS, vs, r, m⟩ : kvs.length ≤ sizeLine ∧ (p == sysModules) = false ∧ ∃ vs, KV kvs vs ∧ s.heap.DictOf (mixKind X.prog X.w) p vs := I.hok p _ hx
      have hlen : kvs.length = vs.length := Paired.length r
      exact wpAny_truthy_dict hS m (by omega) ⟨H, I.tok _, by rw [isEmpty_kv r]; exact q⟩
  | _ => exact (show False from e).elim
theorem pt_truth (ha : PE X a ta) (he : ∀ whole, isTrue a X.env whole = (do let v ← whole; standAt a.pos; holding [v] (truthy v))) :
    PT X a (fun σ H Q => ta σ H fun x H' => ∃ k, TruV X.K x H' k ∧ Q k H') := by
  intro pins s σ H Q I h
  exact isTrue_plain (thn (ha pins s σ H _ I h) fun v s1 ⟨x, H1, I1, r1, q1⟩ => tru_ok pins s1 σ H1 x v Q I1 r1 q1) (he _)
theorem vals1 {x : V} {us : List Value} (r : Vals [x] us) : ∃ u, us = [u] ∧ RelV x u := by
  cases r with
  | cons r1 r2 => cases r2; exact ⟨_, rfl, r1⟩
theorem vals2 {x y : V} {us : List Value} (r : Vals [x, y] us) : ∃ u w', us = [u, w'] ∧ RelV x u ∧ RelV y w' := by
  cases r with
  | cons r1 r2 =>
    cases r2 with
    | cons r3 r4 => cases r4; exact ⟨_, _, rfl, r1, r3⟩
end
end L2
namespace L2
open PySem PySem.Spec PyProof.Rows
structure ObjM (h : Heap) (x dx C : Addr) (mA : Str → Option Value) : Prop where
  obj : h.get? x = some (PySem.W.instObj C dx)
  ns : h.Ns1 dx mA
  ne : dx ≠ x
section
variable {prog : Program} {w : World} {A : Around} {E : Value → Shared → Prop} {s : Shared} {K : PySem.W.Frag} {x dx C f : Addr} {mA : Str → Option Value} {name : Str} {v : Value}
end
theorem RelO.some_of {v : V} {o : Option Value} (r : RelO (some v) o) : ∃ u, o = some u ∧ RelV v u := by
  cases o with
  | none => exact (show False from r).elim
  | some u => exact ⟨u, rfl, r⟩
section
variable {P : Program} {w : World} {H H' : Hp} {h h' : Heap} {a C dx : Addr} {fs fs' : List (Str × V)}
end
structure Cls (K : PySem.W.Frag) (C : Addr) : Prop where
  pg : PySem.W.plainGet K C Str.empty = true
  hd : PySem.W.hasDictIn K C = true
  po : PySem.W.plainOver K C = true
  sa : PySem.W.findIn K (.ref C) "__setattr__" = some (some (.builtin "object.__setattr__"))
structure Con (K : PySem.W.Frag) (C : Addr) (f : Str) (v : V) (u : Value) : Prop where
  at_ : PySem.W.findIn K (.ref C) f = some (some u)
  rel : RelV v u
  get : PySem.W.specialIn K u "__get__" = some none
  cp : PySem.W.copiedNames.contains f = false
structure Meth (K : PySem.W.Frag) (C : Addr) (m : Str) (f : Addr) : Prop where
  at_ : PySem.W.findIn K (.ref C) m = some (some (.ref f))
  fn : PySem.W.isFn K (.ref f) = true
  kp : PySem.W.keepIn K (.ref f) = true
section
variable {X : Cx} {pins : List (Addr × Obj)} {σ : St} {H : Hp} {s : Shared} {a C dx : Addr} {fs : List (Str × V)} {f : Str} {v : V} {A : Around} {E : Value → Shared → Prop}
end
section
variable {X : Cx} {o e value : Expr} {f : Str} {pos pos' tpos : Pos} {ta tv : TE}
end
section
variable {X : Cx} {pins : List (Addr × Obj)} {σ : St} {H : Hp} {s : Shared} {A : Around} {E : Value → Shared → Prop} {Q : Value → Shared → Prop} {c : Value} {b : Bool}
inductive TyOf (K : PySem.W.Frag) (H : Hp) : V → Value → Prop where
  | non : TyOf K H .non (.type "NoneType")
  | bl (x : Bool) : TyOf K H (.bl x) (.type "bool")
  | int (i : Int) : TyOf K H (.int i) (.type "int")
  | str (x : Str) : TyOf K H (.str x) (.type "str")
  | flt (x : UInt64) : TyOf K H (.flt x) (.type "float")
  | lst {a : Addr} {xs : List V} (e : H a = some (.lst xs)) : TyOf K H (.ref a) (.type "list")
  | frz {a : Addr} {o : Obj} {xs : List V} (e : H a = some (.frz o (.lst xs))) : TyOf K H (.ref a) (.type "list")
  | tup {a : Addr} {xs : List V} (e : H a = some (.tup xs)) : TyOf K H (.ref a) (.type "tuple")
  | dK {a : Addr} {kvs : List (Key × V)} (e : H a = some (.dK kvs)) : TyOf K H (.ref a) (.type "dict")
  | dT {a : Addr} {kvs : List (List Key × V)} (e : H a = some (.dT kvs)) : TyOf K H (.ref a) (.type "dict")
  | ins {a C dx : Addr} {fs : List (Str × V)} (e : H a = some (.ins C dx fs)) (cl : Cls K C) (ha : PySem.W.findIn K (.ref C) "__class__" = some (some (.builtin "object.__class__")))
      (hn : PySem.W.specialIn K (.builtin "object.__class__") "__get__" = some (some (.builtin "getset_descriptor.__get__"))) (htk : PySem.W.takesIn K (.builtin "object.__class__") = some true)
      (hm : PySem.W.mroIn K C (.type "object") = some true) : TyOf K H (.ref a) (.ref C)
end
end L2
namespace L2
open PySem PySem.Spec PyProof.Rows
structure Room (k : Nat) (A : Around) : Prop where
  hd : A.handled = none
  dp : A.depth + 3 * k + 5 < recursionLimit
  un : A.units + 16 * k + 200 < cLine
theorem Room.mono {j k : Nat} {A : Around} (r : Room k A) (h : j ≤ k) : Room j A := ⟨r.hd, by have := r.dp; omega, by have := r.un; omega⟩
theorem Room.deeper {k : Nat} {A : Around} (r : Room (k + 1) A) (env : Env) : Room k (A.deeper env) :=
  ⟨r.hd, by have := r.dp; show A.depth + 1 + 3 * k + 5 < _; omega, by have := r.un; show A.units + 3 + 16 * k + 200 < _; omega⟩
theorem Room.depth {k : Nat} {A : Around} (r : Room k A) : A.depth < recursionLimit := by have := r.dp; omega
theorem Room.units {k : Nat} {A : Around} (r : Room k A) : A.units + 64 < cLine := by have := r.un; omega
def tNil : TA := fun _ H Q => Q [] H
def tCons (ta : TE) (tr : TA) : TA := fun σ H Q => ta σ H fun x H1 => tr σ H1 fun xs H2 => Q (x :: xs) H2
section
variable {X : Cx} {e : Expr} {es : List Expr} {te : TE} {t : TA} {pos : Pos}
theorem pa_nil : PA X [] tNil := fun _ _ _ _ H Q I h => Calls.spliced_nil ⟨[], H, I, .nil, h⟩
theorem pa_cons (ha : PE X e te) (hr : PA X es t) (hs : starEach (e :: es) X.env = (false, eval e X.env) :: starEach es X.env := by rfl) : PA X (e :: es) (tCons te t) := by
  intro pos pins s σ H Q I h
  rw [hs]
  show wpAny _ _ (spliced ((false, eval e X.env) :: backTo pos (starEach es X.env))) _ _ s
  refine Calls.spliced_cons (thn (ha pins s σ H _ I h) fun u s1 ⟨x, H1, I1, r1, q1⟩ => ?_)
  exact thn (hr pos pins s1 σ H1 _ I1 q1) fun us s2 ⟨xs, H2, I2, r2, q2⟩ => ⟨x :: xs, H2, I2, .cons r1 r2, q2⟩
def tTup (t : TA) : TE := fun σ H Q => t σ H fun xs H1 => xs.length ≤ sizeLine ∧ ∀ p, H1 p = none → Q (.ref p) (upd H1 p (.tup xs))
def tLst (t : TA) : TE := fun σ H Q => t σ H fun xs H1 => xs.length ≤ sizeLine ∧ ∀ p, H1 p = none → Q (.ref p) (upd H1 p (.lst xs))
theorem pe_tup {x1} (h : PA X es t) : PE X (.Tuple es x1 pos) (tTup t) := by
  intro pins s σ H Q I hq
  refine wpAny_Tuple_spliced (thn (h pos pins s σ H _ I hq) fun us s1 ⟨xs, H1, I1, r, z, q⟩ => ⟨by rw [← r.length]; exact z, ?_⟩)
  have hf : H1 s1.heap.objs.size = none := I1.hok.fresh (Nat.le_refl _)
  refine ⟨.ref s1.heap.objs.size, upd H1 s1.heap.objs.size (.tup xs), I1.laid (t' := s1.toks) (fun b u e => Heap.get?_push_of_some _ e) (Nat.le_refl _) ?_, rfl, q _ hf⟩
  exact ⟨z, us, r, ⟨_, Heap.get?_push_size _ rfl, rfl, _, rfl⟩⟩
theorem pe_lst (h : PA X es t) : PE X (.List es pos) (tLst t) := by
  intro pins s σ H Q I hq
  refine wpAny_List_spliced (thn (h pos pins s σ H _ I hq) fun us s1 ⟨xs, H1, I1, r, z, q⟩ => ⟨by rw [← r.length]; exact z, ?_⟩)
  have hf : H1 s1.heap.objs.size = none := I1.hok.fresh (Nat.le_refl _)
  refine ⟨.ref s1.heap.objs.size, upd H1 s1.heap.objs.size (.lst xs), I1.laid (t' := s1.toks) (fun b u e => Heap.get?_push_of_some _ e) (Nat.le_refl _) ?_, rfl, q _ hf⟩
  exact ⟨z, us, 0, r, Heap.get?_push_size _ rfl⟩
end
abbrev Sp := List V → Hp → VK → XK → Prop
abbrev CXT := List Env → Hp → Shared → XK → Value → Shared → Prop
structure Env0 (P : Program) (w : World) (K : PySem.W.Frag) (mg : Str → Option Value) (base : Heap) (A : Around) (outer : List Env) (s : Shared) (H : Hp) : Prop where
  frames : A.frames = some outer
  mod : Mod K mg base
  bs : ∀ b o, base.get? b = some o → s.heap.get? b = some o ∧ H b = none
  bsz : base.objs.size ≤ s.heap.objs.size
  funs : s.heap.FunFrames base outer
  frf : ∀ b ∈ frs outer, H b = none
  hok : HOk P w H s.heap
  bare : AllBare s.gens
def CE (outer : List Env) (P : Program) (w : World) (H : Hp) (s : Shared) (Q : VK) (u : Value) (s' : Shared) : Prop :=
  ∃ v H', s'.os = s.os ∧ AllBare s'.gens ∧ Un (frs outer) [] H H' s.heap s'.heap ∧ HOk P w H' s'.heap ∧ RelV v u ∧ Q v H'
def CR (CX : CXT) (outer : List Env) (P : Program) (w : World) (H : Hp) (s : Shared) (Q : VK) (E : XK) (r : Result) (s' : Shared) : Prop :=
  match r with
  | .ok (.ret u) => CE outer P w H s Q u s'
  | .ok _ => False
  | .error e => CX outer H s E e s'
structure FnOk (P : Program) (w : World) (K : PySem.W.Frag) (mg : Str → Option Value) (base : Heap) (CX : CXT) (k : Nat) (f : Addr) (fd : FuncData) (ps : List Str) (sp : Sp) : Prop where
  len : ∀ vs H Q E, sp vs H Q E → vs.length = ps.length
  run : ∀ (A : Around) (outer : List Env) (s : Shared) (H : Hp) (args : Args) (us : List Value) (vs : List V) (Q : VK) (E : XK), Room k A → Env0 P w K mg base A outer s H → BindsTo s fd args (ps.zip us) → Vals vs us → sp vs H Q E →
    codeAny (model P w) A (.call (.ref f) args) (CR CX outer P w H s Q E) s
theorem FnOk.imp {P : Program} {w : World} {K : PySem.W.Frag} {mg : Str → Option Value} {base : Heap} {CX : CXT} {k : Nat} {f : Addr} {fd : FuncData} {ps : List Str} {sp sp' : Sp} (F : FnOk P w K mg base CX k f fd ps sp)
    (h : ∀ vs H Q E, sp' vs H Q E → sp vs H Q E) : FnOk P w K mg base CX k f fd ps sp' :=
  ⟨fun vs H Q E q => F.len vs H Q E (h _ _ _ _ q), fun A outer s H args us vs Q E hr he hb hv hs => F.run A outer s H args us vs Q E hr he hb hv (h _ _ _ _ hs)⟩
section
variable {X : Cx} {pins : List (Addr × Obj)} {σ : St} {H : Hp} {s s' : Shared}
theorem Inv.env0 (I : Inv X pins σ H s) : Env0 X.prog X.w X.K X.mg X.base X.A X.stack s H :=
  ⟨I.ok.frames, I.ok.mod, I.bs, Nat.le_trans I.ok.bsz I.sz, I.stack, I.stkFree, I.hok, I.bare⟩
theorem Inv.after {Q : VK} {u : Value} (I : Inv X pins σ H s) (h : CE X.stack X.prog X.w H s Q u s') : EP X pins σ Q u s' := by
  obtain ⟨v, H', os, bare, un, hok, r, q⟩ := h
  obtain ⟨hh, g, d, t, os'⟩ := s'
  obtain rfl : os' = s.os := os
  exact ⟨v, H', I.call (h' := hh) (g' := g) (d' := d) (t' := t) (ch := []) un hok bare (fun b z => absurd z (by simp)), r, q⟩
end
def tCall (sp : Sp) (dvs : List V) (E : XK) (t : TA) : TE := fun σ H Q => t σ H fun vs H1 => sp (vs ++ dvs) H1 Q E
def Binds (K : PySem.W.Frag) (fd : FuncData) (ps : List Str) (ds : List Value) : Prop :=
  ∀ (s : Shared) (us : List Value), K.In s.heap → (us ++ ds).length = ps.length → BindsTo s fd ⟨us, []⟩ (ps.zip (us ++ ds))
theorem Binds.all {K : PySem.W.Frag} {fd : FuncData} {ps : List Str} (h : ∀ us : List Value, us.length = ps.length → bindArgs fd ⟨us, []⟩ = pure (ps.zip us)) : Binds K fd ps [] := fun s us _ hl => by
  rw [List.append_nil] at hl ⊢
  exact .of_eq (h us hl)
def Passes (CX : CXT) (X : Cx) (E : XK) : Prop := ∀ (pins : List (Addr × Obj)) (σ : St) (H : Hp) (s : Shared) (e : Value) (s' : Shared), Inv X pins σ H s → CX X.stack H s E e s' → X.xe e s'
section
variable {X : Cx} {CX : CXT} {k : Nat} {f C : Addr} {fd : FuncData} {ps : List Str} {sp : Sp} {dvs : List V} {ds : List Value} {E : XK} {x m : Str} {p pos apos : Pos} {e o : Expr} {es : List Expr} {ta : TE} {t : TA}
theorem run_fn {pins : List (Addr × Obj)} {σ : St} {H : Hp} {s : Shared} {Q : VK} {us : List Value} {vs : List V} (F : FnOk X.prog X.w X.K X.mg X.base CX k f fd ps sp) (hr : Room k X.A) (hb : Binds X.K fd ps ds) (hd : Vals dvs ds) (hx : Passes CX X E)
    (I : Inv X pins σ H s) (r : Vals vs us) (h : sp (vs ++ dvs) H Q E) : wpAny (model X.prog X.w) X.A (call (.ref f) us) (EP X pins σ Q) X.xe s := by
  have r2 : Vals (vs ++ dvs) (us ++ ds) := r.append hd
  have hl : (us ++ ds).length = ps.length := by rw [← r2.length]; exact F.len _ _ _ _ h
  refine wpAny_call (codeAny_mono (F.run X.A X.stack s H ⟨us, []⟩ (us ++ ds) (vs ++ dvs) Q E hr I.env0 (hb s us I.kIn hl) r2 h) fun r s' hq => ?_)
  cases r with
  | error e => exact hx pins σ H s e s' I hq
  | ok fl =>
    cases fl with
    | ret u => exact I.after hq
    | next => exact False.elim hq
    | brk => exact False.elim hq
    | cont => exact False.elim hq
theorem pe_call (F : FnOk X.prog X.w X.K X.mg X.base CX k f fd ps sp) (hr : Room k X.A) (hg : Gl X x) (hm : X.mg x = some (.ref f)) (hk : PySem.W.keepIn X.K (.ref f) = true) (hb : Binds X.K fd ps ds) (hd : Vals dvs ds) (hx : Passes CX X E)
    (ha : PA X (e :: es) t) (hdb : (x == ("__debug__" : Str)) = false := by decide) (he : starEach (e :: es) X.env = (false, eval e X.env) :: starEach es X.env := by rfl) (hpl : (backTo pos (starEach es X.env)).any (·.1) = false := by rfl) :
    PE X (.Call (.Name x p) (e :: es) [] pos) (tCall sp dvs E t) := by
  intro pins s σ H Q I h
  refine wpAny_Call_Name_kw (ld_glob I hg hm ?_ hdb)
  refine PySem.W.callWith_K (h₀ := X.base) I.ok.mod.kin hk (thn (ha pos pins s σ H _ I h) fun us s1 ⟨vs, H1, I1, r, q⟩ => ⟨I1.kIn, ?_⟩) he hpl
  exact run_fn F hr hb hd hx I1 r q
structure Mk (K : PySem.W.Frag) (C f : Addr) : Prop where
  makes : PySem.W.makesIn K C = true
  init : PySem.W.findIn K (.ref C) "__init__" = some (some (.ref f))
  fn : PySem.W.isFn K (.ref f) = true
  kp : PySem.W.keepIn K (.ref C) = true
end
section
variable {X : Cx} {CX : CXT} {k : Nat} {f C : Addr} {fd : FuncData} {ps ks : List Str} {sp : Sp} {E : XK} {x m : Str} {p pos apos kpos : Pos} {e o : Expr} {es : List Expr} {kws : List Keyword} {te ta : TE} {t tk : TA} {nm : Option Str}
structure KBinds (K : PySem.W.Frag) (fd : FuncData) (ps ks : List Str) (g : List Value → List Value → List Value) (gV : List V → List V → List V) : Prop where
  to : ∀ (s : Shared) (us ws : List Value), K.In s.heap → (g us ws).length = ps.length → BindsTo s fd ⟨us, ks.zip ws⟩ (ps.zip (g us ws))
  rel : ∀ {vs : List V} {us : List Value} {zs : List V} {ws : List Value}, Vals vs us → Vals zs ws → Vals (gV vs zs) (g us ws)
variable {g : List Value → List Value → List Value} {gV : List V → List V → List V}
end
structure FnScope (N P : List Str) (sc : Scope) : Prop where
  kind : sc.kind = .function
  co : sc.isCoroutine = false
  gen : sc.isGenerator = false
  nd : N.Nodup
  pre : N.take P.length = P
  par : ∀ x ∈ P, sc.names.lookup x = some .local ∨ sc.names.lookup x = some .cell
  nofree : ∀ y ∈ sc.names, y.2 ≠ .free
theorem bindL_out {kindOf : Str → Option NameKind} {x : Str} : ∀ {binds : List (Str × Value)} {m : Str → Option Value}, (∀ v, (x, v) ∉ binds) → bindL kindOf binds m x = m x
  | [], _, _ => rfl
  | (n, v) :: r, m, h => by
    unfold bindL
    rw [bindL_out fun w hw => h w (List.mem_cons_of_mem _ hw)]
    split
    · have : x ≠ n := by rintro rfl; exact h v List.mem_cons_self
      simp [this]
    · rfl
theorem bindC_out {kindOf : Str → Option NameKind} {x : Str} : ∀ {binds : List (Str × Value)} {m : Str → Option Value}, (∀ v, (x, v) ∉ binds) → bindC kindOf binds m x = m x
  | [], _, _ => rfl
  | (n, v) :: r, m, h => by
    unfold bindC
    rw [bindC_out fun w hw => h w (List.mem_cons_of_mem _ hw)]
    split
    · rfl
    · have : x ≠ n := by rintro rfl; exact h v List.mem_cons_self
      simp [this]
theorem bindL_get {kindOf : Str → Option NameKind} {x : Str} {v : Value} : ∀ {P : List Str} {vs : List Value} {i : Nat} {m : Str → Option Value}, P.Nodup → P[i]? = some x → vs[i]? = some v → kindOf x = some .local →
    bindL kindOf (P.zip vs) m x = some v
  | [], _, _, _, _, h, _, _ => by simp at h
  | _ :: _, [], _, _, _, _, h, _ => by simp at h
  | p :: P, w :: vs, 0, m, nd, h1, h2, hk => by
    simp at h1 h2; subst h1; subst h2
    show bindL kindOf ((p, w) :: P.zip vs) m p = _
    unfold bindL
    rw [bindL_out fun v hv => (List.nodup_cons.mp nd).1 (List.of_mem_zip hv).1, if_pos hk]
    simp
  | p :: P, w :: vs, i + 1, m, nd, h1, h2, hk => by
    show bindL kindOf ((p, w) :: P.zip vs) m x = _
    unfold bindL
    exact bindL_get (i := i) (List.nodup_cons.mp nd).2 (by simpa using h1) (by simpa using h2) hk
theorem bindC_get {kindOf : Str → Option NameKind} {x : Str} {v : Value} : ∀ {P : List Str} {vs : List Value} {i : Nat} {m : Str → Option Value}, P.Nodup → P[i]? = some x → vs[i]? = some v → kindOf x ≠ some .local →
    bindC kindOf (P.zip vs) m x = some v
  | [], _, _, _, _, h, _, _ => by simp at h
  | _ :: _, [], _, _, _, _, h, _ => by simp at h
  | p :: P, w :: vs, 0, m, nd, h1, h2, hk => by
    simp at h1 h2; subst h1; subst h2
    show bindC kindOf ((p, w) :: P.zip vs) m p = _
    unfold bindC
    rw [bindC_out fun v hv => (List.nodup_cons.mp nd).1 (List.of_mem_zip hv).1, if_neg hk]
    simp
  | p :: P, w :: vs, i + 1, m, nd, h1, h2, hk => by
    show bindC kindOf ((p, w) :: P.zip vs) m x = _
    unfold bindC
    exact bindC_get (i := i) (List.nodup_cons.mp nd).2 (by simpa using h1) (by simpa using h2) hk
def start (N : List Str) (vs : List V) : St := vs.map some ++ List.replicate (N.length - vs.length) none
def cxOf (CX : CXT) (P : Program) (w : World) (K : PySem.W.Frag) (mg : Str → Option Value) (base : Heap) (N : List Str) (qual : Str) (scope : Scope) (f : Addr) (cd : Value) (A : Around) (outer : List Env) (s : Shared) (H : Hp) (E : XK) : Cx where
  prog := P
  w := w
  K := K
  mg := mg
  base := base
  A := A.deeper (envOfC qual scope s.heap.objs.size f cd)
  N := N
  s₀ := s
  H₀ := H
  env := envOfC qual scope s.heap.objs.size f cd
  outer := outer
  stack := envOfC qual scope s.heap.objs.size f cd :: outer
  ex := []
  calm := true
  fn := fun _ => true
  pn := []
  xe := fun e s' => wpAny (model P w) (A.deeper (envOfC qual scope s.heap.objs.size f cd)) (leaving (envOfC qual scope s.heap.objs.size f cd) e) (fun _ s'' => CX outer H s E e s'') (fun e' s'' => CX outer H s E e' s'') s'
theorem cell_has {sc : Scope} {n : Nat} {x : Str} (h : sc.names.lookup x = some .cell) : ∃ c, (cellsFrom n sc.names []).lookup x = some c := by
  have q := PySem.W.cellsFrom_some sc.names n [] (.inl h)
  exact Option.isSome_iff_exists.mp q
theorem inv_start {CX : CXT} {P : Program} {w : World} {K : PySem.W.Frag} {mg : Str → Option Value} {base : Heap} {N ps : List Str} {qual : Str} {scope : Scope} {f : Addr} {cd : Value} {A : Around} {outer : List Env} {s s1 : Shared} {H : Hp} {E : XK} {us : List Value} {vs : List V}
    (S : FnScope N ps scope) (hd : A.handled = none) (e0 : Env0 P w K mg base A outer s H) (hl : vs.length = ps.length) (r : Vals vs us)
    (x : InCallC s s.heap.objs.size (bindL (envOfC qual scope s.heap.objs.size f cd).kindOf (ps.zip us) fun _ => none) (cellsFrom (s.heap.objs.size + 1) scope.names []) (bindC (envOfC qual scope s.heap.objs.size f cd).kindOf (ps.zip us) fun _ => none) s1) :
    Inv (cxOf CX P w K mg base N qual scope f cd A outer s H E) [] (start N vs) H s1 := by
  have hpl : ps.length ≤ N.length := by have := congrArg List.length S.pre; rw [List.length_take] at this; omega
  obtain ⟨h1, tk, rfl, hk⟩ := x.done
  have noA : ∀ b : Addr, b ∉ (cxOf CX P w K mg base N qual scope f cd A outer s H E).ex := fun b z => absurd (show b ∈ ([] : List Addr) from z) (by simp)
  refine ⟨⟨e0.mod, S.kind, rfl, rfl, Nat.le_refl _, fun y z c h1 h2 => ?_, fun y hy => ?_, fun y c _ h => ?_, fun _ => hd, Around.frames_deeper e0.frames, .inr ⟨rfl, rfl⟩, fun b z => absurd z (noA b), e0.bs, e0.bsz, fun b _ _ => noA b, fun b z => absurd z (noA b), e0.funs, e0.frf⟩,
    rfl, e0.bare, Un.kept hk, ⟨_, x.toInCall.ns, fun i y v h1 h2 h3 => ?_⟩, fun y c h => ⟨_, x.cell y c h⟩, e0.hok.fresh (Nat.le_refl _), fun y c h => ?_, fun p hp => absurd (show p ∈ ([] : List (Addr × Obj)) from hp) (by simp), e0.hok.kept hk, ?_⟩
  · exact name_of_addr x.apart (PySem.mem_of_lookup h1) (PySem.mem_of_lookup h2)
  · have hy : scope.names.lookup y = some .cell ∨ scope.names.lookup y = some .free := hy
    rcases hy with hy | hy
    · exact cell_has hy
    · exact absurd rfl (S.nofree _ (PySem.mem_of_lookup hy))
  · exact Nat.le_of_lt (x.above y c (PySem.mem_of_lookup h))
  · have hi : i < vs.length := by
      unfold start at h2
      by_cases hi : i < vs.length
      · exact hi
      · rw [List.getElem?_append_right (by simpa using hi)] at h2
        rw [List.getElem?_replicate] at h2
        split at h2 <;> cases h2
    have ha : vs[i]? = some v := by
      unfold start at h2
      rw [List.getElem?_append_left (by simpa using hi), List.getElem?_map] at h2
      cases e : vs[i]? with
      | none => rw [e] at h2; cases h2
      | some a => rw [e] at h2; cases h2; rfl
    obtain ⟨u, hu, rv⟩ := r.get ha
    have hp : ps[i]? = some y := by
      rw [← S.pre, List.getElem?_take_of_lt (by omega)]; exact h1
    have ndP : ps.Nodup := by rw [← S.pre]; exact S.nd.sublist (List.take_sublist _ _)
    refine ⟨u, rv, ?_⟩
    rcases S.par y (List.mem_of_getElem? hp) with k | k
    · exact .inl ⟨k, bindL_get ndP hp hu k⟩
    · obtain ⟨c, e⟩ := cell_has (n := s.heap.objs.size + 1) k
      refine .inr ⟨.inl k, c, e, ?_⟩
      have q := x.cell y c e
      rw [bindC_get ndP hp hu (by show scope.names.lookup y ≠ _; rw [k]; decide)] at q
      exact q
  · exact e0.hok.fresh (Nat.le_of_lt (x.above y c (PySem.mem_of_lookup h)))
  · unfold start
    show _ = N.length
    rw [List.length_append, List.length_map, List.length_replicate]
    omega
theorem fn_of {CX : CXT} {P : Program} {w : World} {K : PySem.W.Frag} {mg : Str → Option Value} {base : Heap} {k : Nat} {f : Addr} {name qual : Str} {params : Arguments} {body : List Stmt} {scope : Scope} {dV kV doc pm cdv ct oc : Value} {an od : Option Addr}
    {osl : Array (Option Value)} {N ps : List Str} {sp : Sp} (lk : K.lookup f = some ⟨oc, od, .func (PySem.W.fnOf name qual params body scope dV kV doc pm an cdv ct), osl⟩) (hcd : PySem.W.codeIn K cdv qual = true) (S : FnScope N ps scope)
    (len : ∀ vs H Q E, sp vs H Q E → vs.length = ps.length)
    (hbody : ∀ (A : Around) (outer : List Env) (s : Shared) (H : Hp) (vs : List V) (Q : VK) (E : XK), Room k (A.deeper (envOfC qual scope s.heap.objs.size f cdv)) → sp vs H Q E →
      ∃ t, PSs (cxOf CX P w K mg base N qual scope f cdv A outer s H E) body t ∧ t { nx := fun _ H' => Q .non H', rt := Q } (start N vs) H) :
    FnOk P w K mg base CX (k + 1) f (PySem.W.fnOf name qual params body scope dV kV doc pm an cdv ct) ps sp := by
  refine ⟨len, fun A outer s H args us vs Q E hr e0 hb r hsp => ?_⟩
  have hl := len _ _ _ _ hsp
  have KX : K.In s.heap := e0.mod.kin.keeps fun b o e => (e0.bs b o e).1
  have lim : s.heap.NoLimit := e0.mod.nolimit.keeps fun b o e => (e0.bs b o e).1
  have hkind : ∀ y ∈ ps.zip us, scope.names.lookup y.1 = some .local ∨ (scope.names.lookup y.1 = some .cell ∧ ((cellsFrom (s.heap.objs.size + 1) scope.names []).lookup y.1).isSome = true) := fun ⟨n, v⟩ hy => by
    rcases S.par n (List.of_mem_zip hy).1 with q | q
    · exact .inl q
    · exact .inr ⟨q, PySem.W.cellsFrom_some _ _ _ (.inl q)⟩
  refine codeAny_call_function hr.depth (KX _ _ lk) rfl S.co S.gen rfl (PySem.W.codeRec_of KX hcd) (hb _ _ _ _ ?_)
  refine wpAny_newFunctionEnv_cells S.kind hkind fun env he s1 x => ?_
  subst he
  refine ⟨lim.keeps x.toInCall.keep, codeAny_func ?_⟩
  obtain ⟨t, ht, hq⟩ := hbody A outer s H vs Q E (hr.deeper _) hsp
  have I : Inv (cxOf CX P w K mg base N qual scope f cdv A outer s H E) [] (start N vs) H s1 := inv_start S hr.hd e0 hl r x
  refine wpAny_mono (ht [] s1 (start N vs) H _ I hq) (fun fl s' hs => ?_) fun e s' hs => hs
  have fin : ∀ {σ' : St} {H' : Hp} {v : V} {u : Value}, Inv (cxOf CX P w K mg base N qual scope f cdv A outer s H E) [] σ' H' s' → RelV v u → Q v H' → CE outer P w H s Q u s' :=
    fun {σ' H' v u} J rv q => ⟨v, H', J.os, J.bare, J.base, J.hok, rv, q⟩
  cases fl with
  | ret u =>
    obtain ⟨v, σ', H', J, rv, q⟩ := hs
    exact fin J rv q
  | next =>
    obtain ⟨σ', H', J, q⟩ := hs
    exact fin (v := V.non) (u := Value.none) J rfl q
  | brk =>
    obtain ⟨_, _, _, q⟩ := hs
    exact False.elim q
  | cont =>
    obtain ⟨_, _, _, q⟩ := hs
    exact False.elim q
end L2
namespace L2
open PySem PySem.Spec PyProof.Rows
section
variable {X : Cx} {x : Str} {p pos : Pos} {e : Expr} {es : List Expr} {t : TA} {id T : String} {r : List V → Hp → VK → Prop}
def tCB (r : List V → Hp → VK → Prop) (t : TA) : TE := fun σ H Q => t σ H fun vs H1 => r vs H1 Q
theorem pe_callB (hc : CallR X (.builtin id) r) (hg : Gl X x) (hm : X.mg x = none) (hv : bootBuiltins x = some (.builtin id)) (ha : PA X (e :: es) t) (hn : x ≠ "__name__" := by decide) (hdb : (x == ("__debug__" : Str)) = false := by decide)
    (he : starEach (e :: es) X.env = (false, eval e X.env) :: starEach es X.env := by rfl) (hpl : (backTo pos (starEach es X.env)).any (·.1) = false := by rfl) : PE X (.Call (.Name x p) (e :: es) [] pos) (tCB r t) := by
  intro pins s σ H Q I h
  refine wpAny_Call_Name_kw (ld_blt I hg hm hv ?_ hn hdb)
  exact PyProof.Rows.callWith_builtin1 (thn (ha pos pins s σ H _ I h) fun us s1 ⟨vs, H1, I1, r1, q1⟩ => hc pins s1 σ H1 vs us Q I1 r1 q1) he hpl
theorem pe_callTy (hc : CallR X (.type T) r) (hg : Gl X x) (hm : X.mg x = none) (hv : bootBuiltins x = some (.type T)) (ha : PA X (e :: es) t) (hn : x ≠ "__name__" := by decide) (hdb : (x == ("__debug__" : Str)) = false := by decide)
    (he : starEach (e :: es) X.env = (false, eval e X.env) :: starEach es X.env := by rfl) (hpl : (backTo pos (starEach es X.env)).any (·.1) = false := by rfl) : PE X (.Call (.Name x p) (e :: es) [] pos) (tCB r t) := by
  intro pins s σ H Q I h
  refine wpAny_Call_Name_kw (ld_blt I hg hm hv ?_ hn hdb)
  exact PyProof.Rows.callWith_type1 (thn (ha pos pins s σ H _ I h) fun us s1 ⟨vs, H1, I1, r1, q1⟩ => hc pins s1 σ H1 vs us Q I1 r1 q1) he hpl
end
end L2
namespace HT
open PySem PyProof.Rows
section
open PySem.SeqAt
open PySem.AutoSeq1 (wpAny_loadPart')
open PySem.MeetsSeq PySem.MeetsSeq2 PySem.MeetsSeq3
end
section
variable {prog : Program} {w : World} {A : Around} {E : Value → Shared → Prop} {s : Shared}
def sIx (n d : Nat) : Option Int → Nat
  | none => d
  | some v => if v < 0 then (v + (n : Int)).toNat else min v.toNat n
theorem sIx_none (n d : Nat) : sIx n d none = d := rfl
theorem sIx_nat (n d k : Nat) : sIx n d (some (k : Int)) = min k n := by
  show (if (k : Int) < 0 then ((k : Int) + (n : Int)).toNat else min (k : Int).toNat n) = min k n
  rw [if_neg (by omega), Int.toNat_natCast]
theorem sIx_le (n d : Nat) (hd : d ≤ n) (o : Option Int) : sIx n d o ≤ n := by
  cases o with
  | none => exact hd
  | some v =>
    show (if v < 0 then (v + (n : Int)).toNat else min v.toNat n) ≤ n
    by_cases hv : v < 0
    · rw [if_pos hv]; omega
    · rw [if_neg hv]; exact Nat.min_le_right _ _
end
end HT
namespace L2
open PySem PySem.Spec PyProof.Rows
abbrev TO := St → Hp → (Option Int → Hp → Prop) → Prop
def PO (X : Cx) (e : Option Expr) (t : TO) : Prop :=
  ∀ (pins : List (Addr × Obj)) (s : Shared) (σ : St) (H : Hp) (Q : Option Int → Hp → Prop), Inv X pins σ H s → t σ H Q →
    wpAny (model X.prog X.w) X.A (evalPart e X.env) (fun u s' => ∃ o H', Inv X pins σ H' s' ∧ IsPart u o ∧ Q o H') X.xe s
def tNoPart : TO := fun _ H Q => Q none H
def tPart (t : TE) : TO := fun σ H Q => t σ H fun x H1 => ∃ i, x = .int i ∧ Q (some i) H1
theorem intsAre_of {ns : List Int} : ∀ {us : List Value}, Vals (ns.map V.int) us → IntsAre us ns := by
  induction ns with
  | nil => intro us r; rw [List.map_nil] at r; cases r; exact .nil
  | cons n ns ih =>
    intro us r
    rw [List.map_cons] at r
    cases r with
    | cons r1 r2 =>
      obtain ⟨t, e⟩ := r1
      subst e
      exact .cons n t (ih r2)
section
variable {X : Cx} {e : Expr} {te : TE} {lo hi : Option Expr} {tl th : TO} {pos p2 : Pos}
theorem po_none : PO X none tNoPart := by
  intro pins s σ H Q I h
  rw [evalPart_none]
  exact wpAny_pure ⟨none, H, I, .none, h⟩
theorem po_some (h : PE X e te) : PO X (some e) (tPart te) := by
  intro pins s σ H Q I hw
  rw [evalPart_some]
  refine thn (h pins s σ H _ I hw) fun u s1 ⟨x, H1, I1, r1, q1⟩ => ?_
  obtain ⟨i, rfl, q⟩ := q1
  obtain ⟨t, rfl⟩ := r1
  exact ⟨some i, H1, I1, .int i t, q⟩
def SlR (X : Cx) (r : V → Option Int → Option Int → Hp → VK → Prop) : Prop :=
  ∀ (pins : List (Addr × Obj)) (s : Shared) (σ : St) (H : Hp) (x : V) (v vl vu : Value) (lo hi : Option Int) (sl : Addr) (Q : VK), Inv X pins σ H s → RelV x v → s.heap.IsSliceOf sl vl vu .none → IsPart vl lo → IsPart vu hi → r x lo hi H Q →
    ∃ T id, typeLookup (.type T) "__getitem__" = pure (some (.builtin id)) ∧ s.TypeIs v T ∧ wpAny (model X.prog X.w) X.A (getItem v (.ref sl)) (EP X pins σ Q) X.xe s
def tSl (r : V → Option Int → Option Int → Hp → VK → Prop) (te : TE) (tl th : TO) : TE := fun σ H Q => te σ H fun x H1 => tl σ H1 fun l H2 => th σ H2 fun u H3 => r x l u H3 Q
theorem pe_slice {r : V → Option Int → Option Int → Hp → VK → Prop} (hr : SlR X r) (he : PE X e te) (hl : PO X lo tl) (hu : PO X hi th) : PE X (.Subscript e (.Slice lo hi none p2) pos) (tSl r te tl th) := by
  intro pins s σ H Q I h
  refine Subscript_ (thn (he pins s σ H _ I h) fun v s1 ⟨x, H1, I1, r1, q1⟩ => ?_)
  refine wpAny_Slice (thn (hl pins s1 σ H1 _ I1 q1) fun vl s2 ⟨l, H2, I2, pl, q2⟩ => thn (hu pins s2 σ H2 _ I2 q2) fun vu s3 ⟨u, H3, I3, pu, q3⟩ => ?_)
  rw [evalPart_none]
  refine wpAny_pure ?_
  have I4 : Inv X pins σ H3 { s3 with heap := s3.heap.push { cls := .type "slice", data := .fields #[vl, vu, .none] } } := I3.kept (t' := s3.toks) fun b ob q => Heap.get?_push_of_some _ q
  obtain ⟨T, id, hT, ht, hg⟩ := hr pins { s3 with heap := s3.heap.push { cls := .type "slice", data := .fields #[vl, vu, .none] } } σ H3 x v vl vu l u s3.heap.objs.size Q I4 r1 (Heap.IsSliceOf.new ..) pl pu q3
  show wpAny (model X.prog X.w) X.A (subscriptTail e (.Slice lo hi none p2) v (.ref s3.heap.objs.size)) (EP X pins σ Q) X.xe { s3 with heap := s3.heap.push { cls := .type "slice", data := .fields #[vl, vu, .none] } }
  exact tail_any (ops := [.ref s3.heap.objs.size, v]) ht hT hg (by with_unfolding_all rfl)
def cutV (xs : List V) (lo hi : Option Int) : List V := (xs.drop (HT.sIx xs.length 0 lo)).take (HT.sIx xs.length xs.length hi - HT.sIx xs.length 0 lo)
theorem cutV_length (xs : List V) (lo hi : Option Int) : (cutV xs lo hi).length ≤ xs.length := by
  unfold cutV
  rw [List.length_take, List.length_drop]
  omega
end
end L2
namespace L2
open PySem PySem.Spec PyProof.Rows
def ixN (n : Nat) (i : Int) : Option Nat := if 0 ≤ i then (if i < n then some i.toNat else none) else if -(n : Int) ≤ i then some (i + n).toNat else none
def atI {α : Type} (xs : List α) (i : Int) : Option α := (ixN xs.length i).bind fun j => xs[j]?
theorem ixN_seq {n : Nat} {i : Int} {j : Nat} (h : ixN n i = some j) : seqIndex? i n = some j ∧ j < n ∧ -(n : Int) ≤ i ∧ i < n := by
  unfold ixN at h
  by_cases h0 : 0 ≤ i
  · rw [if_pos h0] at h
    by_cases h1 : i < n
    · rw [if_pos h1] at h
      have e : i.toNat = j := Option.some.inj h
      exact ⟨by rw [seqIndex_of h0 h1, e], by omega, by omega, h1⟩
    · rw [if_neg h1] at h; cases h
  · rw [if_neg h0] at h
    by_cases h1 : -(n : Int) ≤ i
    · rw [if_pos h1] at h
      have e : (i + n).toNat = j := Option.some.inj h
      exact ⟨by rw [seqIndex_neg (by omega) h1, e], by omega, h1, by omega⟩
    · rw [if_neg h1] at h; cases h
theorem atI_get {α : Type} {xs : List α} {i : Int} {v : α} (h : atI xs i = some v) : ∃ j, seqIndex? i xs.length = some j ∧ xs[j]? = some v ∧ j < xs.length ∧ -(xs.length : Int) ≤ i ∧ i < xs.length := by
  unfold atI at h
  cases e : ixN xs.length i with
  | none => rw [e] at h; cases h
  | some j =>
    rw [e] at h
    obtain ⟨h1, h2, h3, h4⟩ := ixN_seq e
    exact ⟨j, h1, h, h2, h3, h4⟩
theorem atI_nat {α : Type} {xs : List α} {j : Nat} {v : α} (h : xs[j]? = some v) : atI xs (j : Int) = some v := by
  have hj : j < xs.length := (List.getElem?_eq_some_iff.mp h).1
  have e : ixN xs.length (j : Int) = some j := by
    unfold ixN
    rw [if_pos (by omega), if_pos (by omega)]; simp
  unfold atI; rw [e]; exact h
def PlainIx (b : Expr) : Prop := ∀ o i, subscripted b false o i = operate [o, i] (getItem o i)
def IxR (X : Cx) (r : R2) : Prop :=
  ∀ (value slice : Expr) (pins : List (Addr × Obj)) (s : Shared) (σ : St) (H : Hp) (x y : V) (v u : Value) (Q : VK), Inv X pins σ H s → RelV x v → RelV y u → r x y H Q →
    subscripted slice false v u = operate [v, u] (getItem v u) → wpAny (model X.prog X.w) X.A (subscriptTail value slice v u) (EP X pins σ Q) X.xe s
def MtR (X : Cx) (id : String) (r : V → List V → Hp → VK → Prop) : Prop :=
  ∀ (pins : List (Addr × Obj)) (s : Shared) (σ : St) (H : Hp) (x : V) (xs : List V) (v : Value) (us : List Value) (Q : VK), Inv X pins σ H s → RelV x v → Vals xs us → r x xs H Q →
    wpAny (model X.prog X.w) X.A (call (.builtin id) (v :: us)) (EP X pins σ Q) X.xe s
section
variable {X : Cx} {a b : Expr} {ta tb : TE} {pos : Pos}
theorem pe_ix {r : R2} (hr : IxR X r) (ha : PE X a ta) (hb : PE X b tb) (hs : PlainIx b) : PE X (.Subscript a b pos) (tOp r ta tb) := by
  intro pins s σ H Q I h
  exact Subscript_ (binT ha hb I h fun v u s2 x y H2 I2 rx ry q => hr a b pins s2 σ H2 x y v u Q I2 rx ry q (hs _ _))
def rIxL (K : PySem.W.Frag) : R2 := fun x y H Q => ∃ p xs i v, x = .ref p ∧ y = .int i ∧ SqL K H p xs ∧ atI xs i = some v ∧ Q v H
def rIxT (K : PySem.W.Frag) : R2 := fun x y H Q => ∃ p xs i v, x = .ref p ∧ y = .int i ∧ SqT K H p xs ∧ atI xs i = some v ∧ Q v H
theorem ix_list : IxR X (rIxL X.K) := by
  intro value slice pins s σ H x y v u Q I rx ry h hs
  obtain ⟨p, xs, i, z, rfl, rfl, hq, he, q⟩ := h
  cases rx
  obtain ⟨t, rfl⟩ := ry
  obtain ⟨its, r, pl, hz⟩ := I.list hq
  obtain ⟨j, h1, h2, h3, h4, h5⟩ := atI_get he
  obtain ⟨w, ew, rw'⟩ := r.get h2
  have hl := r.length
  have hn := line63
  have fin : EP X pins σ Q w s := ⟨z, H, I, rw', q⟩
  by_cases h0 : 0 ≤ i
  · have hj : i.toNat = j := by
      rw [seqIndex_of h0 h5] at h1
      exact Option.some.inj h1
    exact item_listR pl.isList h0 (by omega) (by rw [hj]; simpa using ew) fin hs
  · have hj : (i + (its.toArray.size : Int)).toNat = j := by
      rw [seqIndex_neg (by omega) h4] at h1
      rw [List.size_toArray, ← hl]
      exact Option.some.inj h1
    exact subscriptTail_builtinR (x := w) pl.isList.typeIs slot_list_getitem.lookup
      (wpAny_getItem_list_neg (Q := fun r s' => r = w ∧ EP X pins σ Q r s') pl.isList (by omega) (by rw [List.size_toArray] <;> omega) (by omega) (by rw [hj]; simpa using ew) ⟨rfl, fin⟩) hs
theorem ix_tup : IxR X (rIxT X.K) := by
  intro value slice pins s σ H x y v u Q I rx ry h hs
  obtain ⟨p, xs, i, z, rfl, rfl, hq, he, q⟩ := h
  cases rx
  obtain ⟨t, rfl⟩ := ry
  obtain ⟨its, r, pl, hz⟩ := I.tuple hq
  obtain ⟨j, h1, h2, h3, h4, h5⟩ := atI_get he
  obtain ⟨w, ew, rw'⟩ := r.get h2
  have hl := r.length
  have hn := line63
  have fin : EP X pins σ Q w s := ⟨z, H, I, rw', q⟩
  exact subscriptTail_builtinR (x := w) pl.typeIs slot_tuple_getitem.lookup
    (getItem_tuple (j := j) (Q := fun r s' => r = w ∧ EP X pins σ Q r s') pl (by omega) (by omega) (by rw [List.size_toArray, ← hl]; exact h1) (by simpa using ew) ⟨rfl, fin⟩) hs
theorem mapSeq_set (its : List Value) (n j : Nat) (u : Value) : Obj.mapSeq (·.setIfInBounds j u) { cls := .type "list", data := .seq its.toArray n } = { cls := .type "list", data := .seq (its.set j u).toArray n } := by
  simp [Obj.mapSeq]
theorem Inv.lst {pins : List (Addr × Obj)} {σ : St} {H : Hp} {s : Shared} {p : Addr} {xs : List V} (I : Inv X pins σ H s) (h : H p = some (.lst xs)) :
    ∃ (its : List Value) (n : Nat), Vals xs its ∧ s.heap.get? p = some { cls := .type "list", data := .seq its.toArray n } ∧ xs.length ≤ sizeLine := by
  obtain ⟨z, its, n, r, e⟩ := I.hok p _ h
  exact ⟨its, n, r, e, z⟩
theorem Inv.lstUpd {pins : List (Addr × Obj)} {σ : St} {H : Hp} {s : Shared} {p : Addr} {xs ys : List V} {its its' : List Value} {n n' : Nat} {f : Obj → Obj} (I : Inv X pins σ H s) (h : H p = some (.lst xs))
    (ho : s.heap.get? p = some { cls := .type "list", data := .seq its.toArray n }) (hf : f { cls := .type "list", data := .seq its.toArray n } = { cls := .type "list", data := .seq its'.toArray n' }) (r : Vals ys its') (hz : ys.length ≤ sizeLine) (t : Nat) :
    Inv X pins σ (upd H p (.lst ys)) { s with heap := s.heap.update p f, toks := t } := by
  have e : (s.heap.update p f).get? p = some { cls := .type "list", data := .seq its'.toArray n' } := by
    rw [Heap.get?_update_self f ho (by rw [hf] <;> rfl), hf]
  refine I.write (x := p) (e := p) (by rw [h]; trivial) (.inl rfl) (fun b u hb q => (Heap.get?_update_other _ _ (Ne.symm hb)).trans q) ⟨_, e⟩ ?_
  exact ⟨hz, its', n', r, e⟩
def rSetL : V → V → V → Hp → (Hp → Prop) → Prop := fun o i v H Q => ∃ p xs k j, o = .ref p ∧ i = .int k ∧ H p = some (.lst xs) ∧ ixN xs.length k = some j ∧ Q (upd H p (.lst (xs.set j v)))
theorem set_list : PSet X rSetL := by
  intro pins s σ H o i v ov iv u Q I ro ri rv h
  obtain ⟨p, xs, k, j, rfl, rfl, hp, hj, q⟩ := h
  cases ro
  obtain ⟨t, rfl⟩ := ri
  obtain ⟨its, n, r, ho, hz⟩ := I.lst hp
  obtain ⟨h1, h2, h3, h4⟩ := ixN_seq hj
  have hl := r.length
  have hn := line63
  have I' : Inv X pins σ (upd H p (.lst (xs.set j v))) { s with heap := s.heap.update p (Obj.mapSeq (·.setIfInBounds j u)) } :=
    I.lstUpd hp ho (mapSeq_set its n j u) (r.set rv j) (by rw [List.length_set]; exact hz) s.toks
  by_cases h0 : 0 ≤ k
  · have hk : k.toNat = j := by
      rw [seqIndex_of h0 h4] at h1
      exact Option.some.inj h1
    exact PySem.W.ki_setAt ho h0 (by omega) (by rw [List.size_toArray, ← hl]; exact h4) (by rw [hk]; exact ⟨_, I', q⟩)
  · have hk : (k + (its.toArray.size : Int)).toNat = j := by
      rw [seqIndex_neg (by omega) h3] at h1
      rw [List.size_toArray, ← hl]
      exact Option.some.inj h1
    exact PySem.W.ki_setBack ho (by omega) (by rw [List.size_toArray, ← hl]; exact h3) (by omega) (by rw [hk]; exact ⟨_, I', q⟩)
theorem slice_bounds (lo hi : Option Int) (n : Nat) : (sliceBounds lo hi none n).1 = ((HT.sIx n 0 lo : Nat) : Int) ∧ (sliceBounds lo hi none n).2.1 = ((HT.sIx n n hi : Nat) : Int) ∧ (sliceBounds lo hi none n).2.2 = 1 := by
  refine ⟨?_, ?_, rfl⟩
  · cases lo with
    | none => simp [sliceBounds, HT.sIx]
    | some i =>
      simp only [sliceBounds, HT.sIx, Option.getD_none, show (1 : Int) > 0 by decide, if_true]
      by_cases h : i < 0
      · simp only [h, if_true] <;> omega
      · simp only [h, if_false] <;> omega
  · cases hi with
    | none => simp [sliceBounds, HT.sIx]
    | some i =>
      simp only [sliceBounds, HT.sIx, Option.getD_none, show (1 : Int) > 0 by decide, if_true]
      by_cases h : i < 0
      · simp only [h, if_true] <;> omega
      · simp only [h, if_false] <;> omega
theorem slicePick_cut (its : List Value) (lo hi : Option Int) : slicePick its.toArray lo hi none = ((its.drop (HT.sIx its.length 0 lo)).take (HT.sIx its.length its.length hi - HT.sIx its.length 0 lo)).toArray := by
  obtain ⟨h1, h2, h3⟩ := slice_bounds lo hi its.toArray.size
  unfold slicePick
  rw [h1, h2, h3]
  simp only [sliceRange_one, pick_run, List.size_toArray] <;> rfl
def rSlL (K : PySem.W.Frag) : V → Option Int → Option Int → Hp → VK → Prop := fun x lo hi H Q => ∃ a xs, x = .ref a ∧ SqL K H a xs ∧ ∀ p, H p = none → Q (.ref p) (upd H p (.lst (cutV xs lo hi)))
theorem sl_list : SlR X (rSlL X.K) := by
  intro pins s σ H x v vl vu lo hi sl Q I rx hs pl pu h
  obtain ⟨a, xs, rfl, hx, q⟩ := h
  cases rx
  obtain ⟨its, r, ht, hz⟩ := I.list hx
  have hlen := r.length
  refine ⟨"list", _, slot_list_getitem.lookup, ht.isList.typeIs, ?_⟩
  refine wpAny_getItem_list_slice ht.isList hs pl pu .none (by simp) ?_ (by rw [List.size_toArray] <;> omega)
  rw [slicePick_cut, ← hlen]
  refine ⟨.ref s.heap.objs.size, _, I.laid (t' := s.toks) (o := .lst (cutV xs lo hi)) (fun b ob q => Heap.get?_push_of_some _ q) (Nat.le_refl _) ?_, rfl, q _ (I.hok.fresh (Nat.le_refl _))⟩
  exact ⟨Nat.le_trans (cutV_length xs lo hi) hz, _, 0, (r.drop (HT.sIx xs.length 0 lo)).take (HT.sIx xs.length xs.length hi - HT.sIx xs.length 0 lo), Heap.get?_push_size _ rfl⟩
def flatV : V → Bool
  | .non => true
  | .bl _ => true
  | .int _ => true
  | .str _ => true
  | _ => false
def eqV : V → V → Bool
  | .non, .non => true
  | .bl a, .bl b => a == b
  | .bl a, .int b => (if a then 1 else 0) == b
  | .int a, .bl b => a == (if b then 1 else 0)
  | .int a, .int b => a == b
  | .str a, .str b => a == b
  | _, _ => false
theorem eqAt_V {A : Around} {s : Shared} {y x : V} {u v : Value} (ry : RelV y u) (rx : RelV x v) (fy : flatV y = true) (fx : flatV x = true) : SeqAt.EqAt A s u v (eqV y x) := by
  cases y with
  | non =>
    cases ry
    cases x with
    | non => cases rx; exact SeqAt.EqAt.same _
    | bl b => cases rx; exact SeqAt.EqAt.none_bool b
    | int b => obtain ⟨t, rfl⟩ := rx; exact SeqAt.EqAt.none_int b t
    | str b => obtain ⟨t, rfl⟩ := rx; exact SeqAt.EqAt.none_str b t
    | _ => exact absurd (show false = true from fx) Bool.false_ne_true
  | bl a =>
    cases ry
    cases x with
    | non => cases rx; exact SeqAt.EqAt.bool_none a
    | bl b => cases rx; exact SeqAt.EqAt.bool_bool a b
    | int b => obtain ⟨t, rfl⟩ := rx; exact SeqAt.EqAt.bool_int a b t
    | str b => obtain ⟨t, rfl⟩ := rx; exact SeqAt.EqAt.bool_str a b t
    | _ => exact absurd (show false = true from fx) Bool.false_ne_true
  | int a =>
    obtain ⟨t', rfl⟩ := ry
    cases x with
    | non => cases rx; exact SeqAt.EqAt.int_none a t'
    | bl b => cases rx; exact SeqAt.EqAt.int_bool a t' b
    | int b => obtain ⟨t, rfl⟩ := rx; exact SeqAt.EqAt.int_int a t' b t
    | str b => obtain ⟨t, rfl⟩ := rx; exact SeqAt.EqAt.int_str a t' b t
    | _ => exact absurd (show false = true from fx) Bool.false_ne_true
  | str a =>
    obtain ⟨t', rfl⟩ := ry
    cases x with
    | non => cases rx; exact SeqAt.EqAt.str_none a t'
    | bl b => cases rx; exact SeqAt.EqAt.str_bool a t' b
    | int b => obtain ⟨t, rfl⟩ := rx; exact SeqAt.EqAt.str_int a t' b t
    | str b => obtain ⟨t, rfl⟩ := rx; exact SeqAt.EqAt.str_str a t' b t
    | _ => exact absurd (show false = true from fx) Bool.false_ne_true
  | _ => exact absurd (show false = true from fy) Bool.false_ne_true
def eqU (x : V) (u : Value) : Bool := match u with
  | .none => eqV .non x
  | .bool b => eqV (.bl b) x
  | .int i _ => eqV (.int i) x
  | .str z _ => eqV (.str z) x
  | _ => false
theorem eqU_of {x y : V} {u : Value} (r : RelV y u) (f : flatV y = true) : eqU x u = eqV y x := by
  cases y with
  | non => cases r; rfl
  | bl b => cases r; rfl
  | int i => obtain ⟨t, rfl⟩ := r; rfl
  | str z => obtain ⟨t, rfl⟩ := r; rfl
  | _ => exact absurd (show false = true from f) Bool.false_ne_true
theorem any_eqU {x : V} : ∀ {xs : List V} {us : List Value}, Vals xs us → xs.all flatV = true → us.any (eqU x) = xs.any fun y => eqV y x
  | _, _, .nil, _ => rfl
  | y :: xs, u :: us, .cons r t, f => by
    rw [List.all_cons, Bool.and_eq_true] at f
    rw [List.any_cons, List.any_cons, eqU_of r f.1, any_eqU t f.2]
theorem mem_eqAt {A : Around} {s : Shared} {x : V} {v : Value} (rx : RelV x v) (fx : flatV x = true) : ∀ {xs : List V} {us : List Value}, Vals xs us → xs.all flatV = true → ∀ u ∈ us, SeqAt.EqAt A s u v (eqU x u)
  | _, _, .nil, _ => fun u hu => by cases hu
  | y :: xs, u :: us, .cons r t, f => fun u' hu => by
    rw [List.all_cons, Bool.and_eq_true] at f
    rcases List.mem_cons.mp hu with rfl | hu
    · rw [eqU_of r f.1]; exact eqAt_V r rx f.1 fx
    · exact mem_eqAt rx fx t f.2 u' hu
def inV (x : V) (xs : List V) : Bool := xs.any fun y => eqV y x
def rIn (K : PySem.W.Frag) (neg : Bool) : R2 := fun x y H Q => ∃ p xs, y = .ref p ∧ (SqL K H p xs ∨ SqT K H p xs) ∧ flatV x = true ∧ xs.all flatV = true ∧ Q (.bl (if neg then !inV x xs else inV x xs)) H
theorem op_in_seq : OpR X (compareOp .In) (rIn X.K false) := by
  intro pins s σ H x y v u Q I rx ry h
  obtain ⟨p, xs, rfl, hq, fx, fs, q⟩ := h
  cases ry
  rcases hq with hq | hq
  · obtain ⟨its, r, pl, hz⟩ := I.list hq
    refine SeqAt.in_listAt (eqU x) pl.isList (fun w hw => mem_eqAt rx fx r fs w (by simpa using hw)) ⟨.bl _, H, I, rfl, ?_⟩
    rw [show its.toArray.any (eqU x) = its.any (eqU x) by simp, any_eqU r fs]
    exact q
  · obtain ⟨its, r, pl, hz⟩ := I.tuple hq
    refine SeqAt.in_tupleAt (eqU x) pl (fun w hw => mem_eqAt rx fx r fs w (by simpa using hw)) ⟨.bl _, H, I, rfl, ?_⟩
    rw [show its.toArray.any (eqU x) = its.any (eqU x) by simp, any_eqU r fs]
    exact q
theorem op_notIn_seq : OpR X (compareOp .NotIn) (rIn X.K true) := by
  intro pins s σ H x y v u Q I rx ry h
  obtain ⟨p, xs, rfl, hq, fx, fs, q⟩ := h
  cases ry
  rcases hq with hq | hq
  · obtain ⟨its, r, pl, hz⟩ := I.list hq
    refine SeqAt.notIn_listAt (eqU x) pl.isList (fun w hw => mem_eqAt rx fx r fs w (by simpa using hw)) ⟨.bl _, H, I, rfl, ?_⟩
    rw [show its.toArray.any (eqU x) = its.any (eqU x) by simp, any_eqU r fs]
    exact q
  · obtain ⟨its, r, pl, hz⟩ := I.tuple hq
    refine SeqAt.notIn_tupleAt (eqU x) pl (fun w hw => mem_eqAt rx fx r fs w (by simpa using hw)) ⟨.bl _, H, I, rfl, ?_⟩
    rw [show its.toArray.any (eqU x) = its.any (eqU x) by simp, any_eqU r fs]
    exact q
theorem call_len_seq : CallR X (.builtin "len") (fun xs H Q => ∃ p ys, xs = [.ref p] ∧ (SqL X.K H p ys ∨ SqT X.K H p ys) ∧ Q (.int ys.length) H) := by
  intro pins s σ H xs us Q I r h
  obtain ⟨p, ys, rfl, hq, q⟩ := h
  obtain ⟨u, rfl, rx⟩ := vals1 r
  cases rx
  have hn := line63
  rcases hq with hq | hq
  · obtain ⟨its, r', pl, hz⟩ := I.list hq
    have hlen := r'.length
    exact Calls.call_len_list pl.isList (by simp only [List.size_toArray] <;> omega) ⟨.int ys.length, H, I.tok _, ⟨s.toks + 1, by rw [List.size_toArray, hlen]⟩, q⟩
  · obtain ⟨its, r', pl, hz⟩ := I.tuple hq
    have hlen := r'.length
    exact len_tuple pl (by simp only [List.size_toArray] <;> omega) ⟨.int ys.length, H, I.tok _, ⟨s.toks + 1, by rw [List.size_toArray, hlen]⟩, q⟩
theorem call_list_of : CallR X (.type "list") (fun xs H Q => ∃ p ys, xs = [.ref p] ∧ (SqL X.K H p ys ∨ SqT X.K H p ys) ∧ ∀ l, H l = none → Q (.ref l) (upd H l (.lst ys))) := by
  intro pins s σ H xs us Q I r h
  obtain ⟨p, ys, rfl, hq, q⟩ := h
  obtain ⟨u, rfl, rx⟩ := vals1 r
  cases rx
  have fin : ∀ (its : List Value), Vals ys its → ys.length ≤ sizeLine → ∀ (h' : Heap) (c' : Nat), (∀ b o', s.heap.get? b = some o' → h'.get? b = some o') →
      h'.get? s.heap.objs.size = some { cls := .type "list", dict := none, data := .seq its.toArray c', slots := #[] } → EP X pins σ Q (.ref s.heap.objs.size) { s with heap := h' } := fun its r' hz h' c' kp e =>
    ⟨.ref s.heap.objs.size, _, I.laid (t' := s.toks) kp (Nat.le_refl _) (show ObjOk X.prog X.w _ h' _ (.lst ys) from ⟨hz, its, c', r', e⟩), rfl, q _ (I.hok.fresh (Nat.le_refl _))⟩
  rcases hq with hq | hq
  · obtain ⟨its, r', pl, hz⟩ := I.list hq
    have hlen := r'.length
    obtain ⟨o, ho, hc, n, hd⟩ := pl.isList
    exact call_list_seq p (.inl rfl) ho hc hd (fun h' c' kp e => fin its r' hz h' c' kp e) (by simp only [List.size_toArray] <;> omega)
  · obtain ⟨its, r', pl, hz⟩ := I.tuple hq
    have hlen := r'.length
    obtain ⟨o, ho, hc, n, hd⟩ := pl
    exact call_list_seq p (.inr rfl) ho hc hd (fun h' c' kp e => fin its r' hz h' c' kp e) (by simp only [List.size_toArray] <;> omega)
def tyV (K : PySem.W.Frag) (T : String) (x : V) (H : Hp) : Prop := match x with
  | .str _ => T = "str"
  | .int _ => T = "int"
  | .ref p => (T = "list" ∧ ∃ xs, SqL K H p xs) ∨ (T = "tuple" ∧ ∃ o, K.lookup p = some o ∧ o.cls = .type "tuple" ∧ o.dict = none) ∨
      (T = "dict" ∧ ((∃ kvs, H p = some (.dK kvs)) ∨ ∃ kvs, H p = some (.dT kvs))) ∨ (T = "set" ∧ ∃ S n, H p = some (.set S n))
  | _ => False
theorem tyV_is {pins : List (Addr × Obj)} {σ : St} {H : Hp} {s : Shared} {T : String} {x : V} {v : Value} (I : Inv X pins σ H s) (r : RelV x v) (ty : tyV X.K T x H) :
    s.TypeIs v T ∧ ∀ a, v = .ref a → ∃ ob, s.heap.get? a = some ob ∧ ob.dict = none := by
  cases x with
  | str z =>
    obtain ⟨t, rfl⟩ := r
    cases (show T = "str" from ty)
    exact ⟨typeIs_str s z t, fun _ e => nomatch e⟩
  | int i =>
    obtain ⟨t, rfl⟩ := r
    cases (show T = "int" from ty)
    exact ⟨typeIs_int s i t, fun _ e => nomatch e⟩
  | ref p =>
    cases r
    rcases ty with ⟨rfl, xs, hq⟩ | ⟨rfl, o, hk, hc, hd⟩ | ⟨rfl, hk⟩ | ⟨rfl, S, n, hk⟩
    · obtain ⟨its, _, pl, _⟩ := I.list hq
      refine ⟨pl.isList.typeIs, fun a e => ?_⟩
      cases e
      obtain ⟨o, n, e, c, hd, _⟩ := pl
      exact ⟨o, e, hd⟩
    · refine ⟨⟨o, I.kIn p o hk, hc⟩, fun a e => ?_⟩
      cases e
      exact ⟨o, I.kIn _ o hk, hd⟩
    · have z : ∃ o, s.heap.get? p = some o ∧ o.ExactDict := by
        rcases hk with ⟨kvs, hk⟩ | ⟨kvs, hk⟩
        · obtain ⟨_, _, _, _, o, _, _, e, ex, _⟩ := I.hok p _ hk
          exact ⟨o, e, ex⟩
        · obtain ⟨_, _, _, _, o, _, _, e, ex, _⟩ := I.hok p _ hk
          exact ⟨o, e, ex⟩
      obtain ⟨o, e, ex⟩ := z
      refine ⟨⟨o, e, ex.1⟩, fun a e2 => ?_⟩
      cases e2
      exact ⟨o, e, ex.2.1⟩
    · obtain ⟨o, _, _, _, e, ex, _⟩ := I.hok p _ hk
      refine ⟨⟨o, e, ex.1⟩, fun a e2 => ?_⟩
      cases e2
      exact ⟨o, e, ex.2.1⟩
  | _ => exact False.elim ty
def tBM0 (K : PySem.W.Frag) (T : String) (r : V → List V → Hp → VK → Prop) (to : TE) : TE := fun σ H Q => to σ H fun x H1 => tyV K T x H1 ∧ r x [] H1 Q
def tBM (K : PySem.W.Frag) (T : String) (r : V → List V → Hp → VK → Prop) (to : TE) (t : TA) : TE := fun σ H Q => to σ H fun x H1 => tyV K T x H1 ∧ t σ H1 fun xs H2 => r x xs H2 Q
variable {o e : Expr} {es : List Expr} {to : TE} {t : TA} {name : Str} {apos cpos : Pos} {T id : String} {r : V → List V → Hp → VK → Prop}
theorem pe_bm0 (pa : PlainAttrs T) (slot : Slot T name id) (hty : typeOf (.builtin id) = pure (.type "method_descriptor")) (hm : MtR X id r) (ho : PE X o to)
    (hbase : attributeBase o name X.env (eval o X.env) = eval o X.env := by rfl) (hline : (apos.endLine == cpos.line) = true := by rfl) : PE X (.Call (.Attribute o name apos) [] [] cpos) (tBM0 X.K T r to) := by
  intro pins s σ H Q I h
  refine wpAny_Call_method0_late hbase hline (thn (ho pins s σ H _ I h) fun v s1 ⟨x, H1, I1, r1, ty, q1⟩ => ?_)
  obtain ⟨h1, h2⟩ := tyV_is I1 r1 ty
  exact ⟨T, id, pa, slot, hty, h1, h2, Calls.callWith_builtin rfl (PySem.evalArgs_none (hm pins s1 σ H1 x [] v [] Q I1 r1 .nil q1))⟩
theorem pe_bm (pa : PlainAttrs T) (slot : Slot T name id) (hty : typeOf (.builtin id) = pure (.type "method_descriptor")) (hm : MtR X id r) (ho : PE X o to) (ha : PA X (e :: es) t)
    (hbase : attributeBase o name X.env (eval o X.env) = eval o X.env := by rfl)
    (hfew : ((backTo cpos (starEach (e :: es) X.env)).all (fun x => !x.1) && (backToKw cpos (keywordEach [] X.env)).all (fun x => x.1.isSome)
      && decide ((e :: es).length + ([] : List Keyword).length + (if ([] : List Keyword).isEmpty then 0 else 1) < 30)) = true := by rfl)
    (hline : (apos.endLine == cpos.line) = true := by rfl) (hs : starEach (e :: es) X.env = (false, eval e X.env) :: starEach es X.env := by rfl) (hplain : (backTo cpos (starEach es X.env)).any (·.1) = false := by rfl) :
    PE X (.Call (.Attribute o name apos) (e :: es) [] cpos) (tBM X.K T r to t) := by
  intro pins s σ H Q I h
  refine wpAny_Call_method_late hbase hfew hline rfl (thn (ho pins s σ H _ I h) fun v s1 ⟨x, H1, I1, r1, ty, q1⟩ => ?_)
  obtain ⟨h1, h2⟩ := tyV_is I1 r1 ty
  refine ⟨T, id, pa, slot, hty, h1, h2, ?_⟩
  have hA := ha cpos pins s1 σ H1 _ I1 q1
  rw [hs] at hA ⊢
  refine Calls.callWith_builtin (by show (false || (backTo cpos (starEach es X.env)).any (·.1)) = false; rw [hplain] <;> rfl) (Calls.evalArgs_plain ?_)
  exact thn hA fun us s2 ⟨vs, H2, I2, r2, q2⟩ => hm pins s2 σ H2 x vs v us Q I2 r1 r2 q2
/- xs.append(e), list.index on a module's tuple .. are MtR facts of 06m -/
end
end L2
namespace L2
open PySem PySem.Spec PyProof.Rows
def MtM (X : Cx) (id : String) (r : V → List V → Hp → VK → Prop) : Prop :=
  ∀ (pins : List (Addr × Obj)) (s : Shared) (σ : St) (H : Hp) (x : V) (xs : List V) (v : Value) (us : List Value) (Q : VK), Inv X pins σ H s → RelV x v → Vals xs us → r x xs H Q →
    wpAny (model X.prog X.w) X.A (call (.builtin id) (v :: us)) (EP X pins σ Q) X.xe s
theorem Vals.one : ∀ {x : V} {us : List Value}, Vals [x] us → ∃ u, us = [u] ∧ RelV x u
  | _, _, .cons r .nil => ⟨_, rfl, r⟩
theorem Vals.two : ∀ {x y : V} {us : List Value}, Vals [x, y] us → ∃ u v, us = [u, v] ∧ RelV x u ∧ RelV y v
  | _, _, _, .cons r (.cons q .nil) => ⟨_, _, rfl, r, q⟩
theorem Vals.zero : ∀ {us : List Value}, Vals [] us → us = []
  | _, .nil => rfl
theorem Vals.dropLast {xs : List V} {us : List Value} (h : Vals xs us) : Vals xs.dropLast us.dropLast := by
  induction h with
  | nil => exact .nil
  | cons r t ih =>
    cases t with
    | nil => exact .nil
    | cons q t' => exact .cons r ih
theorem Vals.eraseIdx : ∀ {xs : List V} {us : List Value} (i : Nat), Vals xs us → Vals (xs.eraseIdx i) (us.eraseIdx i)
  | _, _, _, .nil => .nil
  | _, _, 0, .cons _ t => t
  | _, _, i + 1, .cons r t => .cons r (Vals.eraseIdx i t)
theorem erase_last {α : Type} (l : List α) : l.eraseIdx (l.length - 1) = l.dropLast := by
  induction l with
  | nil => rfl
  | cons a r ih =>
    cases r with
    | nil => rfl
    | cons b r =>
      have e : (a :: b :: r).length - 1 = ((b :: r).length - 1) + 1 := by
        have h1 : (a :: b :: r).length = r.length + 2 := rfl
        have h2 : (b :: r).length = r.length + 1 := rfl
        omega
      rw [e, List.eraseIdx_cons_succ, ih]
      all_goals rfl
theorem len_erase {α : Type} : ∀ (l : List α) (i : Nat), (l.eraseIdx i).length ≤ l.length
  | [], _ => Nat.le_refl _
  | _ :: _, 0 => Nat.le_succ _
  | _ :: r, i + 1 => Nat.succ_le_succ (len_erase r i)
section
variable {X : Cx} {pins : List (Addr × Obj)} {σ : St} {H : Hp} {s : Shared} {l b : Addr} {xs ys zs : List V}
theorem Inv.lset {its its' : List Value} {n : Nat} {f : Array Value → Array Value} {t' : Nat} (I : Inv X pins σ H s) (hH : H l = some (.lst xs))
    (e : s.heap.get? l = some { cls := .type "list", data := .seq its.toArray n }) (hf : f its.toArray = its'.toArray) (hv : Vals ys its') (hz : ys.length ≤ sizeLine) :
    Inv X pins σ (upd H l (.lst ys)) { s with heap := s.heap.update l (Obj.mapSeq f), toks := t' } := by
  have q := PySem.IsL.update e f
  rw [hf] at q
  refine I.write (x := l) (e := l) (by rw [hH]; exact trivial) (.inl rfl) (fun b' u hb hu => (Heap.get?_update_other s.heap (Obj.mapSeq f) (Ne.symm hb)).trans hu) ⟨_, q⟩ ?_
  exact ⟨hz, its', _, hv, q⟩
theorem Inv.lnew {its : List Value} {t' : Nat} (I : Inv X pins σ H s) (hv : Vals ys its) (hz : ys.length ≤ sizeLine) :
    Inv X pins σ (upd H s.heap.objs.size (.lst ys)) { s with heap := s.heap.push { cls := .type "list", data := .seq its.toArray }, toks := t' } :=
  I.laid (fun _ _ q => Heap.get?_push_of_some _ q) (Nat.le_refl _) ⟨hz, its, 0, hv, Heap.get?_push_size _ rfl⟩
theorem Inv.fresh (I : Inv X pins σ H s) : H s.heap.objs.size = none := I.hok.fresh (Nat.le_refl _)
theorem Inv.lstM (I : Inv X pins σ H s) (hH : H l = some (.lst xs)) : xs.length ≤ sizeLine ∧ ∃ (its : List Value) (n : Nat), Vals xs its ∧ xs.length = its.length ∧ s.heap.get? l = some { cls := .type "list", data := .seq its.toArray n } := by
  obtain ⟨z, its, n, r, e⟩ := I.hok l _ hH
  exact ⟨z, its, n, r, r.length, e⟩
theorem notLongL {n : Nat} (h : n ≤ sizeLine) : Builtin.List.listTooLong n = false := by
  unfold Builtin.List.listTooLong
  exact decide_eq_false (by omega)
end
section
variable {X : Cx}
def rAppend : V → List V → Hp → VK → Prop := fun x vs H Q => ∃ l xs y, x = .ref l ∧ vs = [y] ∧ H l = some (.lst xs) ∧ xs.length < sizeLine ∧ Q .non (upd H l (.lst (xs ++ [y])))
theorem mt_append : MtM X "list.append" rAppend := by
  intro pins s σ H x vs v us Q I rx rv h
  obtain ⟨l, xs, y, rfl, rfl, hH, hz, q⟩ := h
  cases rx
  obtain ⟨u, rfl, ru⟩ := rv.one
  obtain ⟨z, its, n, r, hl, e⟩ := I.lstM hH
  refine call_meets F.slot_list_append ⟨_, e, rfl⟩ F.entry_list_append (F.args_list_append_2 _ _) (PySem.list_append l its.toArray n u (by rw [List.size_toArray]; omega)) ⟨e, ?_⟩
  refine ⟨.non, _, I.lset (its' := its ++ [u]) hH e (by simp) (r.append (.cons ru .nil)) ?_, rfl, q⟩
  rw [List.length_append, List.length_singleton]
  omega
def rExtend : V → List V → Hp → VK → Prop := fun x vs H Q => ∃ l b xs zs, x = .ref l ∧ vs = [.ref b] ∧ H l = some (.lst xs) ∧ H b = some (.lst zs) ∧ xs.length + zs.length ≤ sizeLine ∧ Q .non (upd H l (.lst (xs ++ zs)))
theorem mt_extend : MtM X "list.extend" rExtend := by
  intro pins s σ H x vs v us Q I rx rv h
  obtain ⟨l, b, xs, zs, rfl, rfl, hH, hB, hz, q⟩ := h
  cases rx
  obtain ⟨u, rfl, ru⟩ := rv.one
  cases ru
  obtain ⟨z, its, n, r, hl, e⟩ := I.lstM hH
  obtain ⟨z2, its2, n2, r2, hl2, e2⟩ := I.lstM hB
  have hsz : its.toArray.size + its2.toArray.size ≤ sizeLine := by rw [List.size_toArray, List.size_toArray]; omega
  have hlong : ¬ (!its.toArray.isEmpty && Builtin.List.listTooLong (its.toArray.size + its2.toArray.size)) = true := by
    rw [notLongL hsz, Bool.and_false]
    exact Bool.false_ne_true
  refine call_meets F.slot_list_extend ⟨_, e, rfl⟩ F.entry_list_extend (F.args_list_extend_2 _ _)
    (AutoSeq1.list_extend_list_list_0 l its.toArray n b its2.toArray n2 hlong (by rw [List.size_toArray]; omega) (by omega)) ⟨e, e2, ?_⟩
  refine ⟨.non, _, I.lset (its' := its ++ its2) hH e (by simp) (r.append r2) ?_, rfl, q⟩
  rw [List.length_append]
  omega
def rPop : V → List V → Hp → VK → Prop := fun x vs H Q => ∃ l xs y, x = .ref l ∧ vs = [] ∧ H l = some (.lst xs) ∧ xs[xs.length - 1]? = some y ∧ Q y (upd H l (.lst xs.dropLast))
theorem mt_pop : MtM X "list.pop" rPop := by
  intro pins s σ H x vs v us Q I rx rv h
  obtain ⟨l, xs, y, rfl, rfl, hH, hy, q⟩ := h
  cases rx
  have hus := rv.zero
  subst hus
  obtain ⟨z, its, n, r, hl, e⟩ := I.lstM hH
  obtain ⟨u, hu, ru⟩ := r.get hy
  have hy' : its.toArray[its.toArray.size - 1]? = some u := by
    show its.toArray[its.length - 1]? = some u
    rw [← Array.getElem?_toList, ← hl]
    exact hu
  refine call_meets F.slot_list_pop ⟨_, e, rfl⟩ F.entry_list_pop (F.args_list_pop_1 _) (MeetsSeq.list_pop_last l its.toArray n u hy' (by rw [List.size_toArray]; omega)) ⟨e, ?_⟩
  refine ⟨y, _, I.lset (its' := its.dropLast) hH e ?_ r.dropLast ?_, ru, q⟩
  · show its.toArray.eraseIdxIfInBounds (its.toArray.size - 1) = its.dropLast.toArray
    rw [List.size_toArray, List.eraseIdxIfInBounds_toArray, erase_last]
  · rw [List.length_dropLast]
    omega
def rPopAt : V → List V → Hp → VK → Prop := fun x vs H Q => ∃ l xs i k y, x = .ref l ∧ vs = [.int i] ∧ H l = some (.lst xs) ∧ -(2 ^ 63) ≤ i ∧ i < 2 ^ 63 ∧ seqIndex? i xs.length = some k ∧ xs[k]? = some y ∧ Q y (upd H l (.lst (xs.eraseIdx k)))
theorem mt_popAt : MtM X "list.pop" rPopAt := by
  intro pins s σ H x vs v us Q I rx rv h
  obtain ⟨l, xs, i, k, y, rfl, rfl, hH, h1, h2, hk, hy, q⟩ := h
  cases rx
  obtain ⟨u, rfl, ru⟩ := rv.one
  obtain ⟨t, rfl⟩ := ru
  obtain ⟨z, its, n, r, hl, e⟩ := I.lstM hH
  obtain ⟨w, hw, rw'⟩ := r.get hy
  refine call_meets F.slot_list_pop ⟨_, e, rfl⟩ F.entry_list_pop (F.args_list_pop_2 _ _)
    (MeetsSeq.list_pop_at l its.toArray n i t k w (fitsIndex_both h1 h2) (by rw [List.size_toArray, ← hl]; exact hk) (by rw [← Array.getElem?_toList]; exact hw) (by rw [List.size_toArray]; omega)) ⟨e, ?_⟩
  refine ⟨y, _, I.lset (its' := its.eraseIdx k) hH e ?_ (r.eraseIdx k) ?_, rw', q⟩
  · show its.toArray.eraseIdxIfInBounds k = (its.eraseIdx k).toArray
    rw [List.eraseIdxIfInBounds_toArray]
  · have := len_erase xs k
    omega
def rCat : R2 := fun x y H Q => ∃ l b xs zs, x = .ref l ∧ y = .ref b ∧ H l = some (.lst xs) ∧ H b = some (.lst zs) ∧ xs.length + zs.length ≤ sizeLine ∧ ∀ p, H p = none → Q (.ref p) (upd H p (.lst (xs ++ zs)))
theorem op_cat : OpR X (binaryOp .Add) rCat := by
  intro pins s σ H x y v u Q I rx ry h
  obtain ⟨l, b, xs, zs, rfl, rfl, hH, hB, hz, q⟩ := h
  cases rx
  cases ry
  obtain ⟨z, its, n, r, hl, e⟩ := I.lstM hH
  obtain ⟨z2, its2, n2, r2, hl2, e2⟩ := I.lstM hB
  refine PySem.P.add_list e e2 ?_ (by rw [List.size_toArray, List.size_toArray]; omega)
  have ea : its.toArray ++ its2.toArray = (its ++ its2).toArray := by simp
  rw [ea]
  exact ⟨.ref _, _, I.lnew (t' := s.toks) (r.append r2) (by rw [List.length_append]; omega), rfl, q _ I.fresh⟩
end
section
variable {prog : Program} {w : World} {A : Around} {E : Value → Shared → Prop} {s : Shared}
end
section
variable {X : Cx}
end
end L2
namespace Att
open PySem PySem.W PySem.Calls PyProof.Rows
theorem ints_of_wellAll {P : Params} {h : Heap} : ∀ (ns : List Int) (vs : List Value), WellAll P h vs (ns.map WData.int) → IntsAre vs ns := by
  intro ns
  induction ns with
  | nil =>
    intro vs w
    rw [List.map_nil] at w
    cases w
    exact .nil
  | cons n ns ih =>
    intro vs w
    rw [List.map_cons] at w
    cases w with
    | cons a b =>
      cases a
      exact .cons _ _ (ih _ b)
theorem script_of {l : OpenLaw} {n : Nat} (hn : l.most = some n) {P : Params} {h : Heap} {args : List WData} {vals : List Value}
    (hpre : l.row.toRowW.claim.pre args = true) (hwl : WellAll P h vals args) :
    ∃ a vs ns, vals = [Value.ref a] ∧ args = [WData.list (ns.map WData.int)] ∧ h.get? a = some { cls := .type "list", data := .seq vs.toArray } ∧ IntsAre vs ns ∧ ns.length ≤ n := by
  have hsh : WShape.hasAll [] args [.list .int] = true := (pre_splitW hpre).1
  have hc : l.pre.holds [] { args := args } = true := (pre_splitW hpre).2
  obtain ⟨d, r, rfl, h1, h2⟩ := hasAllW_cons hsh
  obtain rfl := hasAllW_nil h2
  obtain ⟨xs, rfl, h3⟩ := hasW_list h1
  obtain ⟨ns, rfl⟩ := items_int h3
  have hlen : ns.length ≤ n := by
    unfold OpenLaw.pre at hc
    have h4 : (WTm.not (.lt (.lit (.int (n : Int))) (.len (.arg 0)))).holds [] { args := [.list (ns.map .int)] } = true := by
      have h4 := (holds_andW hc).1
      rw [hn] at h4
      exact h4
    have h5 := condW_of h4 (w_not (w_lt w_lit (w_len_list (w_arg rfl))))
    rw [List.length_map] at h5
    refine Nat.le_of_not_lt fun q => ?_
    have q' : (n : Int) < ((ns.length : Nat) : Int) := by omega
    first
      | (rw [decide_eq_true q'] at h5; exact absurd h5 (by decide))
      | (simp at h5; omega)
  cases hwl with
  | cons w1 w2 =>
    cases w2
    cases w1 with
    | list ho hall => exact ⟨_, _, ns, rfl, rfl, ho, ints_of_wellAll ns _ hall, hlen⟩
theorem post_true (l : OpenLaw) (args : List WData) : l.row.toRowW.claim.post args (.bool true) args = true :=
  postW_of (r := l.row.toRowW) (X := (true == true))
    (show WShape.has [] (.bool true) .bool = true by first | rfl | decide | simp [WShape.has, WShape.arms, WShape.armsAll])
    (show (WTm.eq .res (.lit (.bool true))).value [] { args := args, res := some (.bool true), after := args } = some (.bool (true == true)) from w_eq_bool (w_res rfl) w_lit) rfl
theorem attach_call {l : OpenLaw} {n : Nat} {q : Program} {loose : List Str} {XP : (Str → Option Value) → Heap → Prop} {YP : World → Heap → Prop} {d : DefRec}
    (hn : l.most = some n) (hdf : d.params.defaults = [])
    (call : ∀ (w : World) (s₀ s₁ : Shared) (mg mb : Str → Option Value) (fa : Addr) (o : Obj) (pm cd doc : Value) (a : Addr) (vs : List Value) (ns : List Int),
      Ground q loose [] XP w s₀ mg mb s₁.heap → YP w s₁.heap →
      s₁.heap.get? fa = some o → o.data = .func (docDef d.name d.params d.body d.scope pm cd doc) → s₁.heap.CodeRec cd d.name → mg d.name = some (.ref fa) →
      s₁.heap.get? a = some { cls := .type "list", data := .seq vs.toArray } → IntsAre vs ns → ns.length ≤ n → s₁.gens = #[] →
      codeAny (model l.prog w) callerA (.call (.ref fa) ⟨[.ref a], []⟩) (fun r s' => r = .ok (.ret (.bool true)) ∧ OldK s₁.heap s'.heap ∧ s'.os = s₁.os ∧ AllBare s'.gens) s₁) :
    WalkO q loose XP YP l.row.toRowW d [] (fun f vs => PySem.call f vs) := by
  intro w s₀ s₁ mg mb G Y fa o pm cd doc dV kV ho hd hcd hD hmg hg args vals as hpre hlay hrd hwl hlo
  obtain rfl : dV = .none := Dflts.none hD hdf
  obtain rfl : kV = .none := Dflts.noKw hD
  obtain ⟨a, vs, ns, rfl, rfl, hobj, hints, hlen⟩ := script_of hn hpre hwl
  refine enter_call (codeAny_mono (call w s₀ s₁ mg mb fa o pm cd doc a vs ns G Y ho (fd_plain hd) hcd hmg hobj hints hlen hg) fun r s' hq => ?_)
  obtain ⟨rfl, h2, h3, h4⟩ := hq
  exact ⟨.inl ⟨.bool true, .bool true, [], rfl, fun _ => rfl, .bool true, post_true l _, fun _ => ⟨List.Pairwise.nil, fun _ hm => (nomatch hm)⟩⟩, h2, h3, h4⟩
section
variable {prog : Program} {w : World} {A : Around} {E : Value → Shared → Prop} {s : Shared} {K : Frag}
def ledger (h : Heap) (L d : Addr) : List (Addr × Obj) := (List.range h.objs.size).filterMap fun a => if a = L ∨ a = d then none else (h.get? a).map fun o => (a, o)
end
end Att
namespace L2
open PySem PySem.Spec PyProof.Rows
theorem vals_ints : ∀ {vs : List Value} {ns : List Int}, IntsAre vs ns → Vals (ns.map V.int) vs
  | _, _, .nil => .nil
  | _, _, .cons n t h => .cons ⟨t, rfl⟩ (vals_ints h)
def Only (H : Hp) : Prop := ∀ b, H b = none ∨ ∃ o xs, H b = some (.frz o (.lst xs))
theorem law_call {P : Program} {w : World} {K : PySem.W.Frag} {mg mb : Str → Option Value} {CX : CXT} {k : Nat} {fa a : Addr} {fd : FuncData} {x : Str} {sp : Sp} {s₁ : Shared} {vs : List Value} {ns : List Int}
    (KX : K.In s₁.heap) (hns : s₁.heap.Ns mainGlobals mg) (hb : s₁.heap.Ns builtinsNs mb) (hbb : ∀ x : Str, x ≠ "__name__" → mb x = bootBuiltins x) (hlim : s₁.heap.NoLimit) (hg : s₁.gens = #[])
    (ha : s₁.heap.get? a = some { cls := .type "list", data := .seq vs.toArray }) (hi : IntsAre vs ns) (hl : ns.length ≤ sizeLine) (hr : Room k callerA)
    (F : ∀ base : Heap, K.In base → base.Ns mainGlobals mg → FnOk P w K mg base CX k fa fd [x] sp) (hbind : ∀ (s : Shared) (u : Value), BindsTo s fd ⟨[u], []⟩ [(x, u)])
    (hsp : ∀ H : Hp, Only H → SqL K H a (ns.map V.int) → sp [.ref a] H (fun v _ => v = .bl true) fun _ _ _ => False)
    (hCX : ∀ H e s', CX [] H s₁ (fun _ _ _ => False) e s' → False) :
    codeAny (model P w) callerA (.call (.ref fa) ⟨[.ref a], []⟩) (fun r s' => r = .ok (.ret (.bool true)) ∧ OldK s₁.heap s'.heap ∧ s'.os = s₁.os ∧ AllBare s'.gens) s₁ := by
  have rv := vals_ints hi
  have lenV := hi.length
  -- from an abstract heap in which nothing but the script may be tracked
  have core : ∀ H : Hp, Only H → SqL K H a (ns.map V.int) → HOk P w H s₁.heap → (∀ b, H b ≠ none → b = a) → (H a ≠ none → K.lookup a = none) →
      codeAny (model P w) callerA (.call (.ref fa) ⟨[.ref a], []⟩) (fun r s' => r = .ok (.ret (.bool true)) ∧ OldK s₁.heap s'.heap ∧ s'.os = s₁.os ∧ AllBare s'.gens) s₁ := by
    intro H hO hS hok hA hK
    have base_of : ∀ {b : Addr} {o : Obj}, s₁.heap.get? b = some o → H b = none → (hidT s₁.heap H).get? b = some o := fun e n => hidT_get e n
    have noA : ∀ {b : Addr} {o : Obj} {es : Array DictEntry} {ep : Nat}, s₁.heap.get? b = some o → o.data = .dict es ep → H b = none := fun {b o es ep} e d => by
      cases q : H b with
      | none => rfl
      | some u =>
        have e' : b = a := hA b (by rw [q]; simp)
        subst e'
        rw [ha] at e; cases e
        have d' : Data.seq vs.toArray _ = Data.dict es ep := d
        cases d'
    have nsK : ∀ {b : Addr} {m : Str → Option Value}, s₁.heap.Ns b m → (hidT s₁.heap H).Ns b m := fun {b m} ⟨o, es, ep, e, d, r⟩ => ⟨o, es, ep, base_of e (noA e d), d, r⟩
    have hKb : K.In (hidT s₁.heap H) := fun b o e => base_of (KX b o e) (by
      cases q : H b with
      | none => rfl
      | some u =>
        have e' : b = a := hA b (by rw [q]; simp)
        subst e'
        rw [hK (by rw [q]; simp)] at e; cases e)
    have hM : Mod K mg (hidT s₁.heap H) := ⟨hKb, nsK hns, ⟨mb, nsK hb, hbb⟩, let ⟨mc, h1, h2⟩ := hlim; ⟨mc, nsK h1, h2⟩⟩
    have e0 : Env0 P w K mg (hidT s₁.heap H) callerA [] s₁ H := ⟨rfl, hM, fun b o e => of_hidT e, Nat.le_of_eq (hidT_size _ _), trivial, fun b hb => absurd (show b ∈ ([] : List Addr) from hb) (by simp), hok, .of_eq hg⟩
    refine codeAny_mono ((F _ hKb (nsK hns)).run callerA [] s₁ H ⟨[.ref a], []⟩ [.ref a] [.ref a] _ _ hr e0 (hbind s₁ (.ref a)) (.cons rfl .nil) (hsp H hO hS)) fun r s' h => ?_
    cases r with
    | error e => exact (hCX H e s' h).elim
    | ok fl =>
      cases fl with
      | next => exact False.elim h
      | brk => exact False.elim h
      | cont => exact False.elim h
      | ret u =>
        obtain ⟨v, H', os, bare, un, hok', r', q⟩ := h
        have q' : v = .bl true := q
        subst q'
        obtain rfl : u = Value.bool true := r'
        refine ⟨rfl, OldK.of_keep fun b o e => ?_, os, bare⟩
        cases q : H b with
        | none => exact un.keep b o e q (by intro z; exact absurd (show b ∈ ([] : List Addr) from z) (by simp)) (by simp)
        | some u =>
          rcases hO b with z | ⟨ob, xs, z⟩
          · rw [q] at z; cases z
          · have z2 := un.frzs b ob _ z
            obtain ⟨e1, _⟩ := hok b _ z
            obtain ⟨e2, _⟩ := hok' b _ z2
            rw [e] at e1; cases e1
            exact e2
  cases hk : K.lookup a with
  | some o =>
    -- the script is one of the module's own objects
    have e := KX a o hk
    rw [ha] at e
    cases e
    refine core (fun _ => none) (fun _ => .inl rfl) (.inr ⟨_, vs.toArray, _, hk, rfl, rfl, rfl, by rw [List.size_toArray, lenV]; exact hl, by simpa using rv⟩) (fun b u z => by have z' : (none : Option HO) = some u := z; cases z') (fun b z => absurd rfl z) fun z => absurd rfl z
  | none =>
    refine core (fun b => if b = a then some (.frz { cls := .type "list", data := .seq vs.toArray } (.lst (ns.map V.int))) else none) (fun b => ?_) (.inl (.inr ⟨{ cls := .type "list", data := .seq vs.toArray }, if_pos rfl⟩)) (fun b u z => ?_) (fun b z => ?_) fun _ => hk
    · by_cases hb : b = a
      · exact .inr ⟨_, _, if_pos hb⟩
      · exact .inl (if_neg hb)
    · by_cases hb : b = a
      · have z' := (if_pos hb).symm.trans z
        cases z'
        subst hb
        exact ⟨ha, by rw [List.length_map]; exact hl, vs, _, rv, ha⟩
      · have z' := (if_neg hb).symm.trans z
        cases z'
    · by_cases hb : b = a
      · exact hb
      · exact absurd (if_neg hb) z
end L2
namespace L2
open PySem PySem.Spec PyProof.Rows
theorem walk_of {l : PySem.W.OpenLaw} {n k : Nat} {q : Program} {loose : List Str} {XP : (Str → Option Value) → Heap → Prop} {YP : World → Heap → Prop} {d : DefRec} {K : Params → PySem.W.Frag} {CX : World → CXT} {sp : World → Sp} {x : Str}
    (hn : l.most = some n) (hn2 : n ≤ sizeLine) (hdf : d.params.defaults = []) (hr : Room k callerA)
    (hY : ∀ (w : World) (h : Heap), YP w h → (K w.params).In h)
    (F : ∀ (w : World) (mg : Str → Option Value) (fa : Addr) (h : Heap), (K w.params).In h → h.Ns mainGlobals mg → mg d.name = some (.ref fa) →
      ∃ fd : FuncData, (∀ (s : Shared) (u : Value), BindsTo s fd ⟨[u], []⟩ [(x, u)]) ∧
        ∀ base : Heap, (K w.params).In base → base.Ns mainGlobals mg → FnOk l.prog w (K w.params) mg base (CX w) k fa fd [x] (sp w))
    (hsp : ∀ (w : World) (H : Hp) (a : Addr) (ns : List Int), ns.length ≤ n → Only H → SqL (K w.params) H a (ns.map V.int) → sp w [.ref a] H (fun v _ => v = .bl true) fun _ _ _ => False)
    (hCX : ∀ (w : World) (H : Hp) (s : Shared) (e : Value) (s' : Shared), CX w [] H s (fun _ _ _ => False) e s' → False) :
    PySem.W.WalkO q loose XP YP l.row.toRowW d [] (fun f vs => PySem.call f vs) := by
  refine Att.attach_call hn hdf fun w s₀ s₁ mg mb fa o pm cd doc a vs ns G Y ho hd hcd hmg hobj hints hlen hg => ?_
  have KX := hY w _ Y
  obtain ⟨fd, hb, hF⟩ := F w mg fa _ KX G.T.g hmg
  exact law_call KX G.T.g G.T.b G.T.builtins G.T.nolimit hg hobj hints (Nat.le_trans hlen hn2) hr hF hb (fun H hO hS => hsp w H a ns hlen hO hS) fun H e s' => hCX w H s₁ e s'
end L2
/- THE LAST THEOREM (shape; LID, My.* are yours):
   My.Adr: a structure of the addresses that your layer names (classes, functions); My.Txt K t: a structure (Prop) of the equations over K;
   My.txt_mk : {K} {implicit addresses ..} (e1 : nsIn K mainGlobals "law" = some (some (.ref f))) (e2 : K.lookup f = some ⟨oc, od, .func (fnOf "law" "law" params body scope dV kV doc pm an cdv ct), sl⟩) (e3 : codeIn K cdv "law" = true) .. : ∃ t, My.Txt K t
(the tactic k_is has no namespace: write k_is) -/
namespace L2
open PySem PySem.Spec PyProof.Rows
def defArgs (s : Stmt) : Arguments := match s with
  | .FunctionDef _ a _ _ _ _ _ _ _ _ => a
  | _ => { posonlyargs := [], args := [], vararg := none, kwonlyargs := [], kw_defaults := [], kwarg := none, defaults := [] }
def defBody (s : Stmt) : List Stmt := match s with
  | .FunctionDef _ _ b _ _ _ _ _ _ _ => b
  | _ => []
def defScope (s : Stmt) : Scope := match s with
  | .FunctionDef _ _ _ _ _ _ sc _ _ _ => sc
  | _ => { kind := .function, names := [], isGenerator := false, isCoroutine := false }
abbrev CX0 : CXT := fun _ _ _ _ _ _ => False
abbrev E0 : XK := fun _ _ _ => False
theorem pass0 {X : Cx} : Passes CX0 X E0 := fun _ _ _ _ _ _ _ h => h.elim
structure Fun (K : PySem.W.Frag) (x qual : Str) (st : Stmt) (f : Addr) (fd : FuncData) : Prop where
  ex : ∃ (oc : Value) (od : Option Addr) (kV doc pm : Value) (an : Option Addr) (cdv ct : Value) (osl : Array (Option Value)),
    fd = PySem.W.fnOf x qual (defArgs st) (defBody st) (defScope st) .none kV doc pm an cdv ct ∧ K.lookup f = some ⟨oc, od, .func fd, osl⟩ ∧ PySem.W.codeIn K cdv qual = true
  kp : PySem.W.keepIn K (.ref f) = true
section
variable {P : Program} {w : World} {K : PySem.W.Frag} {mg : Str → Option Value} {base : Heap}
theorem Fun.ok {x qual : Str} {st : Stmt} {f : Addr} {fd : FuncData} {N ps : List Str} {k : Nat} {sp : Sp} (F : Fun K x qual st f fd) (S : FnScope N ps (defScope st)) (len : ∀ vs H Q E, sp vs H Q E → vs.length = ps.length)
    (hbody : ∀ (cdv : Value) (A : Around) (outer : List Env) (s : Shared) (H : Hp) (vs : List V) (Q : VK) (E : XK), Room k (A.deeper (envOfC qual (defScope st) s.heap.objs.size f cdv)) → sp vs H Q E →
      ∃ t, PSs (cxOf CX0 P w K mg base N qual (defScope st) f cdv A outer s H E).nox (defBody st) t ∧ t { nx := fun _ H' => Q .non H', rt := Q } (start N vs) H) : FnOk P w K mg base CX0 (k + 1) f fd ps sp := by
  obtain ⟨oc, od, kV, doc, pm, an, cdv, ct, osl, rfl, lk, hcd⟩ := F.ex
  refine fn_of lk hcd S len fun A outer s H vs Q E hr hsp => ?_
  obtain ⟨t, h, q⟩ := hbody cdv A outer s H vs Q E hr hsp
  exact ⟨t, h.nox, q⟩
theorem Fun.binds {x qual : Str} {st : Stmt} {f : Addr} {fd : FuncData} {ps : List Str} (F : Fun K x qual st f fd)
    (h : ∀ (kV doc pm : Value) (an : Option Addr) (cdv ct : Value) (us : List Value), us.length = ps.length → bindArgs (PySem.W.fnOf x qual (defArgs st) (defBody st) (defScope st) .none kV doc pm an cdv ct) ⟨us, []⟩ = pure (ps.zip us)) : Binds K fd ps [] := by
  obtain ⟨oc, od, kV, doc, pm, an, cdv, ct, osl, rfl, lk, hcd⟩ := F.ex
  exact .all (h kV doc pm an cdv ct)
theorem fun_mk {x qual : Str} {st : Stmt} {f : Addr} {oc : Value} {od an : Option Addr} {osl : Array (Option Value)} {kV doc pm cdv ct : Value} (l : K.lookup f = some ⟨oc, od, .func (PySem.W.fnOf x qual (defArgs st) (defBody st) (defScope st) .none kV doc pm an cdv ct), osl⟩)
    (c : PySem.W.codeIn K cdv qual = true) (k : PySem.W.keepIn K (.ref f) = true) : Fun K x qual st f (PySem.W.fnOf x qual (defArgs st) (defBody st) (defScope st) .none kV doc pm an cdv ct) := ⟨⟨oc, od, kV, doc, pm, an, cdv, ct, osl, rfl, l, c⟩, k⟩
end
theorem hu_of {A : Around} {k : Nat} (hr : Room k A) : A.units + 1 < cLine := Nat.lt_of_le_of_lt (Nat.add_le_add_left (by decide : 1 ≤ 64) _) hr.units
section
variable {X : Cx}
theorem pv (i : Nat) {x : Str} {pos : Pos} (hN : X.N[i]? = some x := by rfl) (hv : Vis X.env.scope x := by first | exact Or.inl rfl | exact Or.inr (Or.inl rfl) | exact Or.inr (Or.inr rfl)) (hd : (x == ("__debug__" : Str)) = false := by decide)
    (hcd : (x == ("__classdict__" : Str)) = false := by decide) : PE X (.Name x pos) (tVar i) := pe_var hN hv hd hcd
end
theorem iteF {A B : Prop} (h : B) : if false = true then A else B := by
  rw [if_neg Bool.false_ne_true]
  exact h
theorem iteT {A B : Prop} (h : A) : if true = true then A else B := by
  rw [if_pos rfl]
  exact h
theorem ite2 {c A B : Prop} [Decidable c] (h1 : c → A) (h2 : ¬ c → B) : if c then A else B := by
  by_cases h : c
  · rw [if_pos h]
    exact h1 h
  · rw [if_neg h]
    exact h2 h
theorem iteNS {c A B : Prop} [Decidable c] (hc : c) (h : B) : if (!decide c) = true then A else B := by
  rw [decide_eq_true hc]
  exact iteF h
def Same (H H' : Hp) : Prop := ∀ b o, H b = some o → H' b = some o
theorem Same.refl (H : Hp) : Same H H := fun _ _ h => h
theorem Same.trans {H H1 H2 : Hp} (a : Same H H1) (b : Same H1 H2) : Same H H2 := fun c o h => b c o (a c o h)
theorem Same.free {H H' : Hp} (e : Same H H') {l : Addr} (h : H' l = Option.none) : H l = Option.none := by
  cases q : H l with
  | none => rfl
  | some o =>
    rw [e l o q] at h
    cases h
theorem Same.seq {K : PySem.W.Frag} {H H' : Hp} {a : Addr} {xs : List V} (e : Same H H') (h : SqL K H a xs) : SqL K H' a xs := by
  rcases h with (h | ⟨o, h⟩) | h
  · exact .inl (.inl (e _ _ h))
  · exact .inl (.inr ⟨o, e _ _ h⟩)
  · exact .inr h
end L2
namespace L2
open PySem PySem.Spec PyProof.Rows
theorem relabel_some {env : Env} : ∀ {names : List (Str × NameKind)} {y : Str} {k : NameKind}, names.lookup y = some k →
    ∃ k', (names.map fun (n, k) => if (k == NameKind.free && env.scope.kind == .function && env.kindOf n == some .cell) then (n, NameKind.cell) else (n, k)).lookup y = some k' ∧ (k' = k ∨ (k = .free ∧ k' = .cell))
  | [], _, _, h => by simp at h
  | (n, j) :: r, y, k, h => by
    show ∃ k', List.lookup y ((if (j == NameKind.free && env.scope.kind == .function && env.kindOf n == some .cell) = true then (n, NameKind.cell) else (n, j)) :: _) = some k' ∧ _
    by_cases hy : (y == n) = true
    · rw [List.lookup_cons, hy] at h
      cases h
      by_cases hc : (j == NameKind.free && env.scope.kind == .function && env.kindOf n == some .cell) = true
      · rw [if_pos hc, List.lookup_cons, hy]
        refine ⟨_, rfl, .inr ⟨?_, rfl⟩⟩
        rw [Bool.and_eq_true, Bool.and_eq_true] at hc
        exact eq_of_beq hc.1.1
      · rw [if_neg hc, List.lookup_cons, hy]
        exact ⟨_, rfl, .inl rfl⟩
    · have hy' : (y == n) = false := by simpa using hy
      rw [List.lookup_cons, hy'] at h
      obtain ⟨k', e, z⟩ := relabel_some (env := env) h
      refine ⟨k', ?_, z⟩
      by_cases hc : (j == NameKind.free && env.scope.kind == .function && env.kindOf n == some .cell) = true
      · rw [if_pos hc, List.lookup_cons, hy']; exact e
      · rw [if_neg hc, List.lookup_cons, hy']; exact e
theorem relabel_none {env : Env} : ∀ {names : List (Str × NameKind)} {y : Str}, names.lookup y = none →
    (names.map fun (n, k) => if (k == NameKind.free && env.scope.kind == .function && env.kindOf n == some .cell) then (n, NameKind.cell) else (n, k)).lookup y = none
  | [], _, _ => rfl
  | (n, j) :: r, y, h => by
    show List.lookup y ((if (j == NameKind.free && env.scope.kind == .function && env.kindOf n == some .cell) = true then (n, NameKind.cell) else (n, j)) :: _) = none
    by_cases hy : (y == n) = true
    · rw [List.lookup_cons, hy] at h
      cases h
    · have hy' : (y == n) = false := by simpa using hy
      rw [List.lookup_cons, hy'] at h
      have e := relabel_none (env := env) h
      by_cases hc : (j == NameKind.free && env.scope.kind == .function && env.kindOf n == some .cell) = true
      · rw [if_pos hc, List.lookup_cons, hy']; exact e
      · rw [if_neg hc, List.lookup_cons, hy']; exact e
structure Blk (X : Cx) (x : Str) (caps : List Nat) (scope : Scope) (cl : List (Str × Addr)) : Prop where
  clos : closureFor scope X.env = pure cl
  nocell : ∀ y ∈ scope.names, y.2 ≠ .cell
  kind : scope.kind = .function
  names : ∀ y ∈ scope.names, y.2 = .local → scope.names.lookup y.1 = some .local
  loc : scope.names.lookup x = some .local
  sub : ∀ y c, cl.lookup y = some c → X.env.cells.lookup y = some c
  has : ∀ y, scope.names.lookup y = some .free → ∃ c, cl.lookup y = some c
  noloc : ∀ y, scope.names.lookup y = some .local → cl.lookup y = none
  nd : (x :: caps.map fun i => X.N.getD i "").Nodup
  cap : ∀ i ∈ caps, ∃ y, X.N[i]? = some y ∧ scope.names.lookup y = some .free ∧ (X.env.scope.names.lookup y = some .cell ∨ X.env.scope.names.lookup y = some .free)
theorem Blk.plain {X : Cx} {x : Str} {scope : Scope} (hk : scope.kind = .function) (h : (scope.names.all fun y => y.2 != .cell && y.2 != .free && (y.2 != .local || scope.names.lookup y.1 == some .local)) = true) (hx : scope.names.lookup x = some .local) : Blk X x [] scope [] where
  clos := closureFor_none fun y hy => by
    have := List.all_eq_true.mp h y hy
    intro e
    rw [e] at this
    simp at this
  nocell := fun y hy e => by
    have := List.all_eq_true.mp h y hy
    rw [e] at this
    simp at this
  kind := hk
  names := fun y hy e => by
    have := List.all_eq_true.mp h y hy
    rw [e] at this
    simpa using this
  loc := hx
  sub := fun y c e => by cases e
  has := fun y e => by
    have := List.all_eq_true.mp h _ (PySem.mem_of_lookup e)
    simp at this
  noloc := fun _ _ => rfl
  nd := by simp
  cap := fun i hi => by cases hi
def Cx.blkN (X : Cx) (x : Str) (caps : List Nat) : List Str := x :: caps.map fun i => X.N.getD i ""
def Cx.blk (X : Cx) (x : Str) (caps : List Nat) (scope : Scope) (cl : List (Str × Addr)) (C : Addr) (fp : List Addr) (s : Shared) (H : Hp) : Cx :=
  { X with N := X.blkN x caps, s₀ := s, H₀ := H, env := compEnvC scope cl C X.env, outer := X.stack, ex := fp, fn := fun y => (scope.names.lookup y == some .local), pn := [], xe := fun _ _ => False }
def capSt (σ : St) (caps : List Nat) : St := caps.map fun i => σ.getD i none
section
variable {X : Cx} {pins : List (Addr × Obj)} {σ : St} {H : Hp} {s : Shared} {x : Str} {caps : List Nat} {scope : Scope} {cl : List (Str × Addr)} {fp : List Addr} {C : Addr}
theorem Blk.ok (B : Blk X x caps scope cl) (I : Inv X pins σ H s) (hf : ∀ b ∈ fp, FpOk X pins H b) (hfl : ∀ b ∈ fp, b < s.heap.objs.size) (hC : s.heap.objs.size ≤ C) : (X.blk x caps scope cl C fp s H).Ok where
  mod := I.ok.mod
  kind := B.kind
  glob := I.ok.glob
  blt := I.ok.blt
  above := hC
  inj := fun y z c h1 h2 => I.ok.inj y z c (B.sub y c h1) (B.sub z c h2)
  has := fun y hy => by
    cases e : scope.names.lookup y with
    | none =>
      have q : (compEnvC scope cl C X.env).kindOf y = none := relabel_none (env := X.env) e
      have hy' : (compEnvC scope cl C X.env).kindOf y = some .cell ∨ (compEnvC scope cl C X.env).kindOf y = some .free := hy
      rw [q] at hy'
      rcases hy' with z | z <;> cases z
    | some k =>
      obtain ⟨k', q, z⟩ := relabel_some (env := X.env) e
      have hy' : (compEnvC scope cl C X.env).kindOf y = some .cell ∨ (compEnvC scope cl C X.env).kindOf y = some .free := hy
      have q' : (compEnvC scope cl C X.env).kindOf y = some k' := q
      rw [q'] at hy'
      have nc := B.nocell _ (PySem.mem_of_lookup e)
      rcases z with rfl | ⟨rfl, rfl⟩
      · rcases hy' with z | z
        · exact absurd (Option.some.inj z) nc
        · cases z; exact B.has y e
      · exact B.has y e
  cab := fun y c h1 h2 => by
    have e : scope.names.lookup y = some .local := eq_of_beq h1
    have h3 : cl.lookup y = some c := h2
    rw [B.noloc y e] at h3
    cases h3
  hd := I.ok.hd
  frames := I.ok.frames
  stk := .inl rfl
  exf := fun b hb => ⟨Nat.ne_of_lt (Nat.lt_of_lt_of_le (hfl b hb) hC), fun y c e => (hf b hb).2.2.2.2.1 y c (B.sub y c e)⟩
  bs := I.bs
  bsz := Nat.le_trans I.ok.bsz I.sz
  noex := fun b o e hb => by
    rcases (hf b hb).2.2.2.1 with z | z
    · exact I.ok.noex b o e z
    · exact absurd (Nat.lt_of_lt_of_le (Heap.lt_size e) (Nat.le_trans I.ok.bsz z)) (Nat.lt_irrefl _)
  exfs := fun b hb z => by
    rcases List.mem_cons.mp (I.stkSub b z) with e | e
    · exact (hf b hb).2.1 e
    · exact (hf b hb).2.2.1 e
  funs := I.stack
  frf := I.stkFree
theorem capN {X : Cx} {caps : List Nat} {x : Str} {j : Nat} {y : Str} (h : (X.blkN x caps)[j + 1]? = some y) : ∃ i, caps[j]? = some i ∧ y = X.N.getD i "" := by
  unfold Cx.blkN at h
  rw [List.getElem?_cons_succ, List.getElem?_map] at h
  cases e : caps[j]? with
  | none => rw [e] at h; cases h
  | some i => rw [e] at h; exact ⟨i, rfl, (Option.some.inj h).symm⟩
theorem Blk.start (B : Blk X x caps scope cl) (I : Inv X pins σ H s) (hf : ∀ b ∈ fp, FpOk X pins H b) (hfl : ∀ b ∈ fp, b < s.heap.objs.size) (hC : s.heap.objs.size < C) {h₁ : Heap} {t : Nat} {m₁ : Str → Option Value} (k : ∀ b o, s.heap.get? b = some o → h₁.get? b = some o)
    (hns : h₁.Ns C m₁) (hD : h₁.get? s.heap.objs.size = some { cls := .type "list", data := .seq #[] 0 }) :
    Inv (X.blk x caps scope cl C fp s H) [] (none :: capSt σ caps) (upd H s.heap.objs.size (.lst [])) { s with heap := h₁, toks := t } := by
  have fr : H s.heap.objs.size = none := I.hok.fresh (Nat.le_refl _)
  have frC : H C = none := I.hok.fresh (Nat.le_of_lt hC)
  refine ⟨B.ok I hf hfl (Nat.le_of_lt hC), rfl, I.bare, Un.laid k (Nat.le_refl _) fr, ⟨m₁, hns, ?_⟩, ?_, ?_, ?_, ?_, ?_, ?_⟩
  · intro j y v e1 e2 e3
    cases j with
    | zero => cases e2
    | succ j =>
      obtain ⟨i, hi, ey⟩ := capN (X := X) e1
      have e2' : (capSt σ caps)[j]? = some (some v) := e2
      unfold capSt at e2'
      rw [List.getElem?_map, hi] at e2'
      have e2'' : σ.getD i none = some v := Option.some.inj e2'
      obtain ⟨y', hy', l1, l2⟩ := B.cap i (List.mem_of_getElem? hi)
      have eyy : y = y' := by rw [ey, List.getD_eq_getElem?_getD, hy']; rfl
      subst eyy
      have hσ : σ[i]? = some (some v) := by
        rw [List.getD_eq_getElem?_getD] at e2''
        cases q : σ[i]? with
        | none => rw [q] at e2''; cases e2''
        | some z => rw [q] at e2''; have : z = some v := e2''; rw [this]
      obtain ⟨c, hc⟩ := B.has y l1
      have hcX := B.sub y c hc
      obtain ⟨m, hn, hl⟩ := I.loc
      obtain ⟨u, ru, lk⟩ := hl i y v hy' hσ (.inr l2)
      refine ⟨u, ru, .inr ⟨?_, c, hc, ?_⟩⟩
      · obtain ⟨k', q, z⟩ := relabel_some (env := X.env) l1
        have q' : (compEnvC scope cl C X.env).kindOf y = some k' := q
        rcases z with rfl | ⟨_, rfl⟩
        · exact .inr q'
        · exact .inl q'
      · rcases lk with ⟨k1, _⟩ | ⟨_, c', hc', z⟩
        · have k1' : X.env.scope.names.lookup y = some .local := k1
          rcases l2 with l2 | l2 <;> rw [l2] at k1' <;> cases k1'
        · rw [hcX] at hc'
          cases hc'
          obtain ⟨o, ho, hd⟩ := z
          exact ⟨o, k c o ho, hd⟩
  · intro y c e
    obtain ⟨v, o, ho, hd⟩ := I.cell y c (B.sub y c e)
    exact ⟨v, o, k c o ho, hd⟩
  · show upd H s.heap.objs.size (.lst []) C = none
    rw [upd_ne (Nat.ne_of_gt hC)]
    exact frC
  · intro y c e
    obtain ⟨v, o, ho, hd⟩ := I.cell y c (B.sub y c e)
    rw [upd_ne (Nat.ne_of_lt (Heap.lt_size ho))]
    exact I.freeC y c (B.sub y c e)
  · intro p hp
    exact absurd (show p ∈ ([] : List (Addr × Obj)) from hp) (by simp)
  · exact I.hok.laid k (Nat.le_refl _) ⟨Nat.zero_le _, [], 0, .nil, hD⟩
  · show (none :: capSt σ caps).length = (X.blkN x caps).length
    unfold capSt Cx.blkN
    simp
theorem Un.sameBut {fs ex : List Addr} {H H1 : Hp} {h h1 h2 : Heap} {a : Addr} (u : Un fs ex H H1 h h1) (sb : Heap.SameBut a h1 h2) (hn : h.get? a = none) : Un fs ex H H1 h h2 where
  keep := fun b o e n h1 h2 => (sb.2 b (by rintro rfl; rw [hn] at e; cases e)).trans (u.keep b o e n h1 h2)
  slot := fun b o e n h1 h2 => by
    obtain ⟨sl, q⟩ := u.slot b o e n h1 h2
    exact ⟨sl, (sb.2 b (by rintro rfl; rw [hn] at e; cases e)).trans q⟩
  free := u.free
  there := fun b o e hx => by
    obtain ⟨o', q⟩ := u.there b o e hx
    exact ⟨o', (sb.2 b (by rintro rfl; rw [hn] at e; cases e)).trans q⟩
  tups := u.tups
  frzs := u.frzs
  tbls := u.tbls
theorem HOk.sameBut {P : Program} {w : World} {H : Hp} {h h2 : Heap} {a : Addr} (ok : HOk P w H h) (sb : Heap.SameBut a h h2) (hn : H a = none) : HOk P w H h2 := fun b u e =>
  (ok b u e).stay (fun c v hc q => (sb.2 c (by
    rintro rfl
    rcases hc with rfl | hc
    · rw [hn] at e; cases e
    · rw [hn] at hc; cases hc)).trans q) (fun _ q => q) fun _ _ q => q
end
def PTs (X : Cx) (ifs : List Expr) (t : TT) : Prop :=
  ∀ (pins : List (Addr × Obj)) (s : Shared) (σ : St) (H : Hp) (Q : Bool → Hp → Prop), Inv X pins σ H s → t σ H Q →
    wpAny (model X.prog X.w) X.A (forIn ifs true fun c r => if r = true then do let ok ← isTrue c X.env (eval c X.env); pure (ForInStep.yield ok) else pure (ForInStep.yield r)) (TP X pins σ Q) X.xe s
def tYes : TT := fun _ H Q => Q true H
theorem pts_nil {X : Cx} : PTs X [] tYes := fun pins s σ H Q I h => wpAny_tests_nil ⟨H, I, h⟩
theorem pts_one {X : Cx} {c : Expr} {t : TT} (h : PT X c t) : PTs X [c] t := fun pins s σ H Q I q => wpAny_tests_one (h pins s σ H Q I q)
def tComp (wi : TI) (tc : TT) (te : TE) (caps : List Nat) : TE := fun σ H Q => wi σ H fun J H1 => ∀ D, H1 D = none → ∃ W : Nat → Nat → Hp → Prop, (∃ m, W 0 m (upd H1 D (.lst []))) ∧ ∀ i m H, W i m H →
  (J.stop i H ∧ Q (.ref D) H) ∨ (J.go i H ∧ ∃ N : Hp → Prop, (∀ H', N H' → ∃ m', m' < m ∧ W (i + 1) m' H') ∧ ∀ x H', J.yld i H x H' →
    tc (some x :: capSt σ caps) H' fun b H3 => if b = true then te (some x :: capSt σ caps) H3 fun y H4 => ∃ ys, H4 D = some (.lst ys) ∧ ys.length < sizeLine ∧ N (upd H4 D (.lst (ys ++ [y]))) else N H3)
section
variable {X : Cx}
theorem pe_comp {elt iter : Expr} {x : Str} {px : Pos} {ifs : List Expr} {scope : Scope} {pos : Pos} {wi : TI} {tc : TT} {te : TE} {caps : List Nat} {cl : List (Str × Addr)}
    (hc : X.calm = true) (B : Blk X x caps scope cl) (hi : PI X (.Name x px) iter wi)
    (ht : ∀ C fp s H, PTs (X.blk x caps scope cl C fp s H) ifs tc) (he : ∀ C fp s H, PE (X.blk x caps scope cl C fp s H) elt te)
    (hs : ∀ v, foldedSetIterable iter X.env v = pure v := by intro _; rfl) : PE X (.ListComp elt [⟨.Name x px, iter, ifs, 0⟩] scope pos) (tComp wi tc te caps) := by
  intro pins s σ H Q I h
  rw [eval_ListComp]
  refine wpAny_comprehension_free (use := none) rfl hs B.clos B.kind B.names (thn (hi pins s σ H _ I h) fun v s1 h1 => thn h1 fun itv s2 h2 => ?_)
  obtain ⟨it, fp, tn, J, H2, rfl, I2, T, st2, f2, q2⟩ := h2
  obtain ⟨W, ⟨m0, w0⟩, turn⟩ := q2 s2.heap.objs.size (I2.hok.fresh (Nat.le_refl _))
  have hfl : ∀ b ∈ fp, b < s2.heap.objs.size := fun b hb => by
    obtain ⟨o, e, _⟩ := T.obj _ _ st2 b hb
    exact Heap.lt_size e
  refine wpAny_newObj_type (wpAny_newFunctionEnv B.nocell (by intro y hy; simp at hy) (fun h₁ hns₁ hsb₁ => ?_) B.kind)
  dsimp only at hns₁ hsb₁ ⊢
  generalize hH2 : s2.heap.push { cls := .type "list", dict := none, data := .seq ([] : List Value).toArray } = HP at hns₁ hsb₁ ⊢
  have hC : HP.objs.size = s2.heap.objs.size + 1 := by rw [← hH2, Heap.size_push]
  have hClt : s2.heap.objs.size < HP.objs.size := by rw [hC]; exact Nat.lt_succ_self _
  have old : ∀ b o, s2.heap.get? b = some o → h₁.get? b = some o := fun b o e =>
    hsb₁.extBut b o (Nat.ne_of_lt (Nat.lt_trans (Heap.lt_size e) hClt)) (Heap.get?_push_of_some _ (hH2 ▸ Heap.get?_push_of_some _ e))
  have hacc : h₁.get? s2.heap.objs.size = some { cls := .type "list", data := .seq #[] 0 } :=
    hsb₁.extBut _ _ (Nat.ne_of_lt hClt) (Heap.get?_push_of_some _ (hH2 ▸ Heap.get?_push_size _ rfl))
  have I3 := B.start (t := s2.toks + ([] : List (Str × Value)).length) I2 f2 hfl hClt old hns₁ hacc
  have st3 : tn 0 h₁ := T.keep _ _ _ st2 fun b hb o e => old b o e
  have stat : ∀ {H' : Hp}, (∀ b ∈ fp, H' b = none) → ∀ b ∈ fp, FpOk (X.blk x caps scope cl HP.objs.size fp s2 H2) [] H' b := fun hn b hb =>
    ⟨hn b hb, ((B.ok I2 f2 hfl (Nat.le_of_lt hClt)).exf b hb).1, (B.ok I2 f2 hfl (Nat.le_of_lt hClt)).exfs b hb, .inl hb, ((B.ok I2 f2 hfl (Nat.le_of_lt hClt)).exf b hb).2, fun p hp => absurd (show p ∈ ([] : List (Addr × Obj)) from hp) (by simp)⟩
  have fr3 : ∀ b ∈ fp, upd H2 s2.heap.objs.size (.lst []) b = none := fun b hb => by
    rw [upd_ne (Nat.ne_of_lt (hfl b hb))]
    exact (f2 b hb).1
  have nd : (X.blkN x caps)[0]? = some x := rfl
  have loop : ∀ s3 : Shared, s3 = { s2 with heap := h₁, toks := s2.toks + ([] : List (Str × Value)).length } →
      codeAny (model X.prog X.w) X.A (.compLoop (.ListComp elt [⟨.Name x px, iter, ifs, 0⟩] scope pos) 0 (.ref it) (.ref s2.heap.objs.size) (compEnvC scope cl HP.objs.size X.env))
        (compPost (model X.prog X.w) X.A X.xe none (EP X pins σ Q) (.ref s2.heap.objs.size) HP.objs.size) s3 := by
    rintro s3 rfl
    refine codeAny_loop rfl (fun n s' => ∃ i σ' H', Inv (X.blk x caps scope cl HP.objs.size fp s2 H2) [] (σ' :: capSt σ caps) H' s' ∧ tn i s'.heap ∧ (∀ b ∈ fp, H' b = none) ∧ W i n H') (fun n s4 hI => ?_) m0 ⟨0, none, _, I3, st3, fr3, w0⟩
    obtain ⟨i, σ4, H4, I4, st4, fr4, w4⟩ := hI
    show wpAny _ X.A ((compTurn (.ListComp elt [⟨.Name x px, iter, ifs, 0⟩] scope pos) 0 (.ref it) (.ref s2.heap.objs.size) (compEnvC scope cl HP.objs.size X.env)).onRaise (fun x => do noteFrame x (compEnvC scope cl HP.objs.size X.env); theTreesLotGoes x)) _ _ s4
    refine wpAny_noted ?_
    rw [compTurn_list]
    refine wpAny_bind (wpAny_standAt (wpAny_bind ?_))
    rcases turn i n H4 w4 with ⟨stop, qn⟩ | ⟨go, N, hN, step⟩
    · refine thn (T.done (X.blk x caps scope cl HP.objs.size fp s2 H2) rfl rfl rfl hc i [] s4 (σ4 :: capSt σ caps) H4 _ I4 (stat fr4) st4 stop) fun r s5 ⟨hr, I5⟩ => ?_
      subst hr
      refine wpAny_pure ?_
      obtain ⟨m, hn, _⟩ := id I5.loc
      refine ⟨m, hn, fun h' sb => ⟨.ref s2.heap.objs.size, H4, ?_, rfl, qn⟩⟩
      have hnC : s2.heap.get? HP.objs.size = none := Heap.get?_none_of_le (Nat.le_of_lt hClt)
      refine I2.call' (ch := fp) (s' := { s5 with heap := h' }) I5.os (Un.sameBut I5.base sb hnC) (I5.hok.sameBut sb I5.free) I5.bare fun b hb => ?_
      obtain ⟨f0, f1, f2', f3, f4, f5⟩ := f2 b hb
      exact ⟨f3, f1, f4, f5⟩
    · refine thn (T.item (X.blk x caps scope cl HP.objs.size fp s2 H2) rfl rfl rfl hc i [] s4 (σ4 :: capSt σ caps) H4 _ I4 (stat fr4) st4 go) fun r s5 ⟨u, hr, h5⟩ => ?_
      subst hr
      refine wpAny_bind (thn h5 fun _ s6 ⟨y, H6, I6, r6, y6, st6, fr6⟩ => ?_)
      have I6' := I6.pinned (stat fr6) (T.obj _ _ st6)
      have again : ∀ {σ7 : Option V} {H7 : Hp} {s7 : Shared}, Inv (X.blk x caps scope cl HP.objs.size fp s2 H2) ([] ++ pinsAt fp s6.heap) (σ7 :: capSt σ caps) H7 s7 → N H7 →
          ∃ m, m < n ∧ ∃ i σ' H', Inv (X.blk x caps scope cl HP.objs.size fp s2 H2) [] (σ' :: capSt σ caps) H' s7 ∧ tn i s7.heap ∧ (∀ b ∈ fp, H' b = none) ∧ W i m H' := fun {σ7 H7 s7} I7 n7 => by
        obtain ⟨m', hm, w7⟩ := hN H7 n7
        refine ⟨m', hm, i + 1, σ7, H7, I7.unpinned, T.keep _ _ _ st6 fun b hb o e => (I7.pin (b, o) (List.mem_append_right _ (List.mem_append_right _ (mem_pinsAt hb e)))).1, fun b hb => ?_, w7⟩
        obtain ⟨o, e, d⟩ := T.obj _ _ st6 b hb
        exact (I7.pin (b, o) (List.mem_append_right _ (List.mem_append_right _ (mem_pinsAt hb e)))).2.1
      have no : ∀ {E : Value → Shared → Prop} (e : Value) (s' : Shared), (X.blk x caps scope cl HP.objs.size fp s2 H2).xe e s' → E e s' := fun _ _ z => False.elim z
      refine wpAny_bind (wpAny_assign_Name (store_ok (X := X.blk x caps scope cl HP.objs.size fp s2 H2) (i := 0) I6' B.nd rfl (.inl (lookup_relabel_local B.loc)) r6 (fun s7 I7 => ?_) (.inr (lookup_relabel_local B.loc))))
      refine wpAny_bind (wpAny_mono (ht _ _ _ _ _ s7 (some y :: capSt σ caps) H6 _ I7 (step y H6 y6)) (fun ok s8 ⟨H8, I8, q8⟩ => ?_) no)
      cases ok with
      | false => exact wpAny_pure ⟨rfl, again I8 q8⟩
      | true =>
        refine wpAny_bind (wpAny_bind (wpAny_mono (he _ _ _ _ _ s8 (some y :: capSt σ caps) H8 _ I8 q8) (fun u s9 ⟨z, H9, I9, r9, ys, hD, hz, q9⟩ => ?_) no))
        refine wpAny_bind (wpAny_mono (mt_append (X := X.blk x caps scope cl HP.objs.size fp s2 H2) _ s9 (some y :: capSt σ caps) H9 (.ref s2.heap.objs.size) [z] (.ref s2.heap.objs.size) [u] (fun _ H10 => N H10) I9 rfl (.cons r9 .nil) ⟨_, ys, z, rfl, rfl, hD, hz, q9⟩) (fun _ s10 ⟨_, H10, I10, _, q10⟩ => ?_) no)
        exact wpAny_pure (wpAny_pure ⟨rfl, again I10 q10⟩)
  exact codeAny_compStart_list (loop _ rfl) (T.self _ _ _ _ _ st3 (loop _ rfl))
theorem comp_list {K : PySem.W.Frag} {a : Addr} {xs : List V} {tc : TT} {te : TE} {cσ : St} {H1 : Hp} {Qd : Hp → Prop} {D : Addr} (Pv : Nat → Hp → Prop) (h0 : Pv 0 (upd H1 D (.lst []))) (hl : ∀ i H, i ≤ xs.length → Pv i H → SqL K H a xs)
    (hs : ∀ i x H, xs[i]? = some x → Pv i H → tc (some x :: cσ) H fun b H3 => if b = true then te (some x :: cσ) H3 fun y H4 => ∃ ys, H4 D = some (.lst ys) ∧ ys.length < sizeLine ∧ Pv (i + 1) (upd H4 D (.lst (ys ++ [y]))) else Pv (i + 1) H3)
    (hd : ∀ H, Pv xs.length H → Qd H) :
    ∃ W : Nat → Nat → Hp → Prop, (∃ m, W 0 m (upd H1 D (.lst []))) ∧ ∀ i m H, W i m H →
      ((Itl K a).stop i H ∧ Qd H) ∨ ((Itl K a).go i H ∧ ∃ N : Hp → Prop, (∀ H', N H' → ∃ m', m' < m ∧ W (i + 1) m' H') ∧ ∀ x H', (Itl K a).yld i H x H' →
        tc (some x :: cσ) H' fun b H3 => if b = true then te (some x :: cσ) H3 fun y H4 => ∃ ys, H4 D = some (.lst ys) ∧ ys.length < sizeLine ∧ N (upd H4 D (.lst (ys ++ [y]))) else N H3) := by
  refine ⟨fun i m H => m = xs.length - i ∧ i ≤ xs.length ∧ Pv i H, ⟨xs.length, by simp, Nat.zero_le _, h0⟩, ?_⟩
  rintro i m H ⟨rfl, hi, p⟩
  have q := hl i H hi p
  by_cases hlt : i < xs.length
  · refine .inr ⟨⟨xs, xs[i], q, by simp [hlt]⟩, Pv (i + 1), fun H' p' => ⟨xs.length - (i + 1), by omega, rfl, hlt, p'⟩, fun x H' y => ?_⟩
    obtain ⟨e, y⟩ := y
    subst e
    exact hs i x _ (y xs q) p
  · have e : i = xs.length := by omega
    subst e
    exact .inl ⟨⟨xs, q, Nat.le_refl _⟩, hd H p⟩
theorem comp_range {lo : Int} {n : Nat} {tc : TT} {te : TE} {cσ : St} {H1 : Hp} {Qd : Hp → Prop} {D : Addr} (Pv : Nat → Hp → Prop) (h0 : Pv 0 (upd H1 D (.lst [])))
    (hs : ∀ i H, i < n → Pv i H → tc (some (.int (lo + i)) :: cσ) H fun b H3 => if b = true then te (some (.int (lo + i)) :: cσ) H3 fun y H4 => ∃ ys, H4 D = some (.lst ys) ∧ ys.length < sizeLine ∧ Pv (i + 1) (upd H4 D (.lst (ys ++ [y]))) else Pv (i + 1) H3)
    (hd : ∀ H, Pv n H → Qd H) :
    ∃ W : Nat → Nat → Hp → Prop, (∃ m, W 0 m (upd H1 D (.lst []))) ∧ ∀ i m H, W i m H →
      ((Itr lo n).stop i H ∧ Qd H) ∨ ((Itr lo n).go i H ∧ ∃ N : Hp → Prop, (∀ H', N H' → ∃ m', m' < m ∧ W (i + 1) m' H') ∧ ∀ x H', (Itr lo n).yld i H x H' →
        tc (some x :: cσ) H' fun b H3 => if b = true then te (some x :: cσ) H3 fun y H4 => ∃ ys, H4 D = some (.lst ys) ∧ ys.length < sizeLine ∧ N (upd H4 D (.lst (ys ++ [y]))) else N H3) := by
  refine ⟨fun i m H => m = n - i ∧ i ≤ n ∧ Pv i H, ⟨n, by simp, Nat.zero_le _, h0⟩, ?_⟩
  rintro i m H ⟨rfl, hi, p⟩
  by_cases hlt : i < n
  · refine .inr ⟨hlt, Pv (i + 1), fun H' p' => ⟨n - (i + 1), by omega, rfl, hlt, p'⟩, fun x H' y => ?_⟩
    obtain ⟨e, y⟩ := y
    subst e y
    exact hs i _ hlt p
  · have e : i = n := by omega
    subst e
    exact .inl ⟨Nat.le_refl _, hd H p⟩
end
def Itrs (lo c : Int) (n : Nat) : It := ⟨fun i _ => i < n, fun i H x H' => H' = H ∧ x = .int (lo + i * c), fun i _ => n ≤ i⟩
theorem turn_rangeS {P : Program} {w : World} {K : PySem.W.Frag} {tg : Expr} (it : Addr) (lo c : Int) (n : Nat) : Turn P w K tg (Itrs lo c n) [it] it (fun i h => IsRangeIter h it (lo + (i : Nat) * c) ((n : Int) - (i : Nat)) c) where
  mem := by simp
  obj := fun i h st b hb => by
    have e : b = it := by simpa using hb
    subst e
    exact ⟨_, st, fun v z => by
      have z' : Data.fields _ = Data.cell v := z
      cases z'⟩
  keep := fun i h h' st k => k it (by simp) _ st
  item := by
    intro X hP hw hK hc i pins s σ H E I hf st hg
    subst hP hw hK
    obtain ⟨f0, f1, f2, f3, f4, f5⟩ := hf it (by simp)
    have W := Walks.range (prog := X.prog) (w := X.w) (I.ok.hd hc) it lo c n
    refine W.item i s _ _ hg st fun v h' tk hv st' kk => ?_
    obtain ⟨t, rfl⟩ := hv
    have I1 : Inv X pins σ H { s with heap := h', toks := tk } := I.turned (fun b o hb e => kk b o (by simpa using hb) e) f0 f1 f3 f4 f5
    exact ⟨_, rfl, go_of (s := { s with heap := h', toks := tk }) (n := "range_iterator") st' rfl rfl (by decide) ⟨.int (lo + i * c), H, I1, ⟨t, rfl⟩, ⟨rfl, rfl⟩, st', fun b hb => (hf b hb).1⟩⟩
  done := by
    intro X hP hw hK hc i pins s σ H E I hf st hg
    subst hP hw hK
    obtain ⟨f0, f1, f2, f3, f4, f5⟩ := hf it (by simp)
    exact wpAny_pyNext_range_end (I.ok.hd hc) st (by have : n ≤ i := hg; omega) fun h' eb => ⟨rfl, I.turned (t' := s.toks) (fun b o hb e => eb b o hb e) f0 f1 f3 f4 f5⟩
  self := fun _ _ _ _ _ st h => wpAny_pyIter_rangeiter st h
end L2
namespace L2
open PySem PySem.Spec PyProof.Rows
theorem small_step {a b c : Int} (ha : -(2 ^ 62) ≤ a) (ha' : a < 2 ^ 62) (hb : -(2 ^ 62) ≤ b) (hb' : b < 2 ^ 62) (hc : 0 < c) (hc' : c < 2 ^ 30) : Builtin.Range.small a b c = true := by
  have hs : 0 ≤ Builtin.Range.rangeSize a b c ∧ Builtin.Range.rangeSize a b c ≤ 2 ^ 63 - 1 := by
    unfold Builtin.Range.rangeSize
    rw [if_pos hc]
    split
    · have h1 : 0 ≤ (b - a - 1) / c := Int.ediv_nonneg (by omega) (by omega)
      have h2 : (b - a - 1) / c ≤ b - a - 1 := Int.ediv_le_self _ (by omega)
      omega
    · omega
  have fit : ∀ i : Int, -(2 ^ 63) ≤ i → i < 2 ^ 63 → Builtin.Range.rangeFitsLong i = true := fun i h1 h2 => by
    unfold Builtin.Range.rangeFitsLong
    rw [Bool.and_eq_true]
    exact ⟨decide_eq_true h1, decide_eq_true h2⟩
  unfold Builtin.Range.small
  rw [if_pos hc, fit a (by omega) (by omega), fit b (by omega) (by omega), fit c (by omega) (by omega), fit (Builtin.Range.rangeSize a b c) (by omega) (by omega), fit (b + (c - 1)) (by omega) (by omega)]
  simp
def iRng3 (ta : TA) : TI := fun σ H R => ta σ H fun vs H1 => ∃ i j c : Int, vs = [.int i, .int j, .int c] ∧ (-(2 ^ 62) ≤ i ∧ i < 2 ^ 62 ∧ -(2 ^ 62) ≤ j ∧ j < 2 ^ 62 ∧ 0 < c ∧ c < 2 ^ 30) ∧ R (Itrs i c (Builtin.Range.rangeSize i j c).toNat) H1
section
variable {X : Cx} {tg : Expr}
theorem range_itS {pins : List (Addr × Obj)} {σ : St} {H : Hp} {s : Shared} {R : It → Hp → Prop} {E : Value → Shared → Prop} {lo hi c : Int} {t u v : Tok} {tk : Nat} (I : Inv X pins σ H s) (h1 : -(2 ^ 62) ≤ lo) (h2 : lo < 2 ^ 62) (h3 : -(2 ^ 62) ≤ hi) (h4 : hi < 2 ^ 62) (h5 : 0 < c) (h6 : c < 2 ^ 30)
    (q : R (Itrs lo c (Builtin.Range.rangeSize lo hi c).toNat) H) : wpAny (model X.prog X.w) X.A (pyIter (.ref s.heap.objs.size)) (PIE X pins σ tg R) E { s with heap := s.heap.push { cls := .type "range", data := .fields #[.int lo t, .int hi u, .int c v] }, toks := tk } := by
  refine wpAny_pyIter_range (IsRange.new ..) (small_step h1 h2 h3 h4 h5 h6) ?_
  have I1 : Inv X pins σ H { s with heap := s.heap.push { cls := .type "range", data := .fields #[.int lo t, .int hi u, .int c v] }, toks := tk } := I.kept fun b o e => Heap.get?_push_of_some _ e
  refine ⟨(s.heap.push { cls := .type "range", data := .fields #[.int lo t, .int hi u, .int c v] }).objs.size, [(s.heap.push { cls := .type "range", data := .fields #[.int lo t, .int hi u, .int c v] }).objs.size], _, _, H, rfl,
    I1.kept (t' := tk) fun b o e => Heap.get?_push_of_some _ e, turn_rangeS _ lo c (Builtin.Range.rangeSize lo hi c).toNat, ?_, fun b hb => ?_, q⟩
  · have hs : 0 ≤ Builtin.Range.rangeSize lo hi c := by
      unfold Builtin.Range.rangeSize
      rw [if_pos h5]
      split
      · have h1 : 0 ≤ (hi - lo - 1) / c := Int.ediv_nonneg (by omega) (by omega)
        omega
      · omega
    have e1 : lo + ((0 : Nat) : Int) * c = lo := by simp
    have e2 : (((Builtin.Range.rangeSize lo hi c).toNat : Nat) : Int) - ((0 : Nat) : Int) = Builtin.Range.rangeSize lo hi c := by omega
    show IsRangeIter _ _ (lo + ((0 : Nat) : Int) * c) ((((Builtin.Range.rangeSize lo hi c).toNat : Nat) : Int) - ((0 : Nat) : Int)) c
    rw [e1, e2]
    exact Heap.get?_push_size _ rfl
  · have e : b = (s.heap.push { cls := .type "range", data := .fields #[.int lo t, .int hi u, .int c v] }).objs.size := by simpa using hb
    subst e
    exact I1.fpOk (Nat.le_refl _) (I1.hok.fresh (Nat.le_refl _))
theorem pi_range3 {a b c : Expr} {ta : TA} {p pos : Pos} (hg : Gl X "range") (hm : X.mg "range" = none) (ha : PA X [a, b, c] ta) (hs : starEach [a, b, c] X.env = (false, eval a X.env) :: starEach [b, c] X.env := by rfl) (hpl : (backTo pos (starEach [b, c] X.env)).any (·.1) = false := by rfl) :
    PI X tg (.Call (.Name "range" p) [a, b, c] [] pos) (iRng3 ta) := by
  intro pins s σ H R I h
  refine Call_ (ld_blt I hg hm boot_range (PyProof.Rows.callWith_type1 (thn (ha pos pins s σ H _ I h) fun us s1 ⟨vs, H1, I1, r1, q1⟩ => ?_) hs hpl))
  obtain ⟨i, j, k, e, ⟨q1, q2, q3, q4, q5, q6⟩, q⟩ := q1
  subst e
  cases r1 with
  | cons r rr =>
    cases rr with
    | cons r' rr =>
      cases rr with
      | cons r'' rr =>
        cases rr
        obtain ⟨t, rfl⟩ := r
        obtain ⟨t', rfl⟩ := r'
        obtain ⟨t'', rfl⟩ := r''
        exact call_range_3 (by omega) (range_itS I1 q1 q2 q3 q4 q5 q6 q) (.inl (PyProof.noPylong_small (by omega)))
end
theorem for_rangeS {lo c : Int} {n : Nat} {g : TG} {tb : TS} {D : Ends} {σ : St} {H : Hp} (Pv : Nat → St → Hp → Prop) (h0 : Pv 0 σ H)
    (hs : ∀ i σ H, i < n → Pv i σ H → g (.int (lo + i * c)) σ H fun σ2 H2 => tb { D with nx := Pv (i + 1), ct := Pv (i + 1), bk := D.nx } σ2 H2) (hd : ∀ σ H, Pv n σ H → D.nx σ H) :
    ∃ W : Nat → Nat → St → Hp → Prop, (∃ m, W 0 m σ H) ∧ ∀ i m σ H, W i m σ H →
      ((Itrs lo c n).stop i H ∧ D.nx σ H) ∨ ((Itrs lo c n).go i H ∧ ∃ N : St → Hp → Prop, (∀ σ' H', N σ' H' → ∃ m', m' < m ∧ W (i + 1) m' σ' H') ∧ ∀ x H', (Itrs lo c n).yld i H x H' → g x σ H' fun σ2 H2 => tb { D with nx := N, ct := N, bk := D.nx } σ2 H2) := by
  refine ⟨fun i m σ H => m = n - i ∧ i ≤ n ∧ Pv i σ H, ⟨n, by simp, Nat.zero_le _, h0⟩, ?_⟩
  rintro i m σ H ⟨rfl, hi, p⟩
  by_cases hlt : i < n
  · refine .inr ⟨hlt, Pv (i + 1), fun σ' H' p' => ⟨n - (i + 1), by omega, rfl, hlt, p'⟩, fun x H' y => ?_⟩
    obtain ⟨e, y⟩ := y
    subst e y
    exact hs i σ _ hlt p
  · have e : i = n := by omega
    subst e
    exact .inl ⟨Nat.le_refl _, hd σ H p⟩
section
variable {X : Cx}
theorem call_sorted : CallR X (.builtin "sorted") (fun xs H Q => ∃ (p : Addr) (ns : List Int), xs = [.ref p] ∧ SqL X.K H p (ns.map V.int) ∧ ns.length < 64 ∧ ∀ (l : Addr) (ns' : List Int), H l = none → ns'.Perm ns → ns'.Pairwise (· ≤ ·) → Q (.ref l) (upd H l (.lst (ns'.map V.int)))) := by
  intro pins s σ H xs us Q I r h
  obtain ⟨p, ns, rfl, hq, h64, q⟩ := h
  obtain ⟨u, rfl, ru⟩ := vals1 r
  cases ru
  obtain ⟨its, rv, pl, hz⟩ := I.list hq
  have hl := rv.length
  rw [List.length_map] at hl hz
  refine sorted_ints pl.isList (intsAre_of rv) (by omega) fun out ns' a1 a2 a3 => ?_
  obtain ⟨e, he⟩ := sortedAll_at s.heap its out
  refine ⟨.ref (s.heap.objs.size + 1), _, I.laid (t' := s.toks) (o := .lst (ns'.map V.int)) (fun b o z => sortedAll_old z) (Nat.le_succ _) ?_, rfl, q _ ns' (I.hok.fresh (Nat.le_succ _)) a2 a3⟩
  refine ⟨?_, out.toList, e, vals_ints a1, ?_⟩
  · rw [List.length_map, a2.length_eq]; exact hz
  · have q' : (seqObj "list" out e : Obj) = { cls := .type "list", data := .seq out.toList.toArray e } := by simp [seqObj]
    rw [← q']; exact he
theorem call_sum (hc : X.calm = true) : CallR X (.builtin "sum") (fun xs H Q => ∃ (p : Addr) (ns : List Int), xs = [.ref p] ∧ SqL X.K H p (ns.map V.int) ∧ Q (.int ns.sum) H) := by
  intro pins s σ H xs us Q I r h
  obtain ⟨p, ns, rfl, hq, q⟩ := h
  obtain ⟨u, rfl, ru⟩ := vals1 r
  cases ru
  obtain ⟨its, rv, pl, hz⟩ := I.list hq
  have hi := intsAre_of rv
  obtain ⟨zs, hzs⟩ := hi.allInts.items
  have hsum : preSum (numAt zs) zs.size = ns.sum := by
    rw [preSum_eq, List.take_of_length_le (by simp), ← nums_intItems, ← hzs]
    show (numsOf its).sum = ns.sum
    rw [hi.numsOf]
  refine sum_intListG (xs := zs) (I.ok.hd hc) (by rw [← hzs]; exact pl.isList) fun h' tk t' hk => ⟨.int ns.sum, H, I.kept hk, ⟨t', ?_⟩, q⟩
  rw [hsum]
def rIndex (K : PySem.W.Frag) : V → List V → Hp → VK → Prop := fun x vs H Q => ∃ (l : Addr) (ns : List Int) (k : Int), x = .ref l ∧ vs = [.int k] ∧ SqL K H l (ns.map V.int) ∧ k ∈ ns ∧ Q (.int (ns.idxOf k : Nat)) H
theorem mt_index : MtM X "list.index" (rIndex X.K) := by
  intro pins s σ H x vs v us Q I rx rv h
  obtain ⟨l, ns, k, rfl, rfl, hq, hk, q⟩ := h
  cases rx
  obtain ⟨u, rfl, ru⟩ := rv.one
  obtain ⟨t, rfl⟩ := ru
  obtain ⟨its, r, pl, hz⟩ := I.list hq
  have hi := intsAre_of r
  have hlen := hi.length
  rw [List.length_map] at hz
  have hs : sizeLine = 16777216 := sizeLine_eq
  have hj : ns.idxOf k < ns.length := List.idxOf_lt_length_iff.mpr hk
  obtain ⟨⟨cls, dd, data, sl⟩, ho, hc, n, hd⟩ := id pl.isList
  simp only at hc hd
  subst hc hd
  refine call_meets PySem.F.slot_list_index ⟨_, ho, rfl⟩ PySem.F.entry_list_index (PySem.F.args_list_index_2 _ _)
    (SeqAt.list_indexAt l its.toArray n dd sl (.int k t) (isInt k) (ns.idxOf k) (by simpa [hlen] using hj) (by omega) ?_ ?_) ⟨ho, fun y hy => (eq_isInt k t hi y (by simpa using hy)).at _ _, ⟨.int (ns.idxOf k : Nat), H, I.tok _, ⟨_, rfl⟩, q⟩⟩
  · show isInt k its[ns.idxOf k] = true
    rw [isInt_at k hi _ (by omega) hj]
    simpa using List.getElem_idxOf hj
  · intro j hjs hlt
    show isInt k its[j] = false
    rw [isInt_at k hi j (by simpa using hjs) (by omega)]
    exact ne_of_lt_idxOf hlt _
def rInsert : V → List V → Hp → VK → Prop := fun x vs H Q => ∃ l xs i y, x = .ref l ∧ vs = [.int i, y] ∧ H l = some (.lst xs) ∧ 0 ≤ i ∧ i ≤ xs.length ∧ xs.length < sizeLine ∧ Q .non (upd H l (.lst (xs.take i.toNat ++ y :: xs.drop i.toNat)))
theorem mt_insert : MtM X "list.insert" rInsert := by
  intro pins s σ H x vs v us Q I rx rv h
  obtain ⟨l, xs, i, y, rfl, rfl, hH, h0, h1, hz, q⟩ := h
  cases rx
  obtain ⟨u, u', rfl, ru, ry⟩ := rv.two
  obtain ⟨t, rfl⟩ := ru
  obtain ⟨z, its, n, r, hl, e⟩ := I.lstM hH
  have hn := line63
  have hfit : ¬ (!Builtin.List.listFitsIndex i) = true := by
    rw [fitsIndex_both (by omega) (by omega)]
    exact Bool.false_ne_true
  refine call_meets F.slot_list_insert ⟨_, e, rfl⟩ F.entry_list_insert (F.args_list_insert_3 _ _ _) (AutoSeq1.list_insert_list_int_val_1 l its.toArray n i t u' hfit (by rw [List.size_toArray]; omega)) ⟨e, ?_⟩
  refine ⟨.non, _, I.lset (its' := its.take i.toNat ++ u' :: its.drop i.toNat) hH e ?_ ((r.take _).append (.cons ry (r.drop _))) ?_, rfl, q⟩
  · have e1 : (if i < 0 then (i + ((its.toArray.size : Nat) : Int)).toNat else min i.toNat its.toArray.size) = i.toNat := by
      rw [if_neg (by omega), List.size_toArray]
      omega
    show ((its.toArray.extract 0 (if i < 0 then (i + ((its.toArray.size : Nat) : Int)).toNat else min i.toNat its.toArray.size)).push u' ++ its.toArray.extract (if i < 0 then (i + ((its.toArray.size : Nat) : Int)).toNat else min i.toNat its.toArray.size)) = _
    rw [e1]
    apply Array.toList_inj.mp
    simp
    exact List.take_of_length_le (by simp)
  · rw [List.length_append, List.length_cons, List.length_take, List.length_drop]
    omega
end
end L2
namespace Ink
abbrev Rs := List (List Int)
def acr (e : Int) : Int := e + 1 - 2 * (e % 2)
theorem acr_acr (e : Int) : acr (acr e) = e := by unfold acr; omega
theorem acr_lt {e : Int} {n : Nat} (hn : n % 2 = 0) (h0 : 0 ≤ e) (h1 : e < n) : 0 ≤ acr e ∧ acr e < n := by unfold acr; omega
def behind (r : List Int) (e : Int) : Int := r.getD ((r.idxOf e + 1) % r.length) e
def nextIn : Rs → Int → Int
  | [], e => e
  | r :: rs, e => if e ∈ r then behind r e else nextIn rs e
theorem behind_mem {r : List Int} {e : Int} (h : e ∈ r) : behind r e ∈ r := by
  have hl : 0 < r.length := List.length_pos_of_mem h
  have hk : (r.idxOf e + 1) % r.length < r.length := Nat.mod_lt _ hl
  unfold behind
  rw [List.getD_eq_getElem?_getD, List.getElem?_eq_getElem hk]
  exact List.getElem_mem hk
theorem behind_inj {r : List Int} {a b : Int} (nd : r.Nodup) (ha : a ∈ r) (hb : b ∈ r) (h : behind r a = behind r b) : a = b := by
  have hl : 0 < r.length := List.length_pos_of_mem ha
  have ka : (r.idxOf a + 1) % r.length < r.length := Nat.mod_lt _ hl
  have kb : (r.idxOf b + 1) % r.length < r.length := Nat.mod_lt _ hl
  unfold behind at h
  rw [List.getD_eq_getElem?_getD, List.getElem?_eq_getElem ka, List.getD_eq_getElem?_getD, List.getElem?_eq_getElem kb] at h
  have e : (r.idxOf a + 1) % r.length = (r.idxOf b + 1) % r.length := (List.getElem_inj nd).mp h
  have la : r.idxOf a < r.length := List.idxOf_lt_length_iff.mpr ha
  have lb : r.idxOf b < r.length := List.idxOf_lt_length_iff.mpr hb
  have key : ∀ x y n : Nat, x < n → y < n → (x + 1) % n = (y + 1) % n → x = y := by
    intro x y n hx hy he
    by_cases h1 : x + 1 = n
    · by_cases h2 : y + 1 = n
      · omega
      · rw [h1, Nat.mod_self, Nat.mod_eq_of_lt (by omega)] at he; omega
    · by_cases h2 : y + 1 = n
      · rw [h2, Nat.mod_self, Nat.mod_eq_of_lt (by omega)] at he; omega
      · rw [Nat.mod_eq_of_lt (by omega), Nat.mod_eq_of_lt (by omega)] at he; omega
  have i : r.idxOf a = r.idxOf b := key _ _ _ la lb e
  have ga := List.getElem_idxOf la
  have gb := List.getElem_idxOf lb
  rw [← ga, ← gb]
  exact getElem_congr rfl i _
theorem nextIn_mem : ∀ {rs : Rs} {e : Int}, e ∈ rs.flatten → nextIn rs e ∈ rs.flatten
  | [], _, h => by simp at h
  | r :: rs, e, h => by
    unfold nextIn
    rw [List.flatten_cons]
    by_cases he : e ∈ r
    · rw [if_pos he]; exact List.mem_append_left _ (behind_mem he)
    · rw [if_neg he]
      refine List.mem_append_right _ (nextIn_mem ?_)
      rw [List.flatten_cons] at h
      exact (List.mem_append.mp h).resolve_left he
theorem nextIn_inj : ∀ {rs : Rs} {a b : Int}, rs.flatten.Nodup → a ∈ rs.flatten → b ∈ rs.flatten → nextIn rs a = nextIn rs b → a = b
  | [], _, _, _, h, _, _ => by simp at h
  | r :: rs, a, b, nd, ha, hb, h => by
    rw [List.flatten_cons] at nd ha hb
    obtain ⟨n1, n2, n3⟩ := List.nodup_append.mp nd
    unfold nextIn at h
    by_cases h1 : a ∈ r
    · by_cases h2 : b ∈ r
      · rw [if_pos h1, if_pos h2] at h
        exact behind_inj n1 h1 h2 h
      · rw [if_pos h1, if_neg h2] at h
        have q := nextIn_mem ((List.mem_append.mp hb).resolve_left h2)
        exact absurd h (n3 _ (behind_mem h1) _ q)
    · by_cases h2 : b ∈ r
      · rw [if_neg h1, if_pos h2] at h
        have q := nextIn_mem ((List.mem_append.mp ha).resolve_left h1)
        exact absurd h.symm (n3 _ (behind_mem h2) _ q)
      · rw [if_neg h1, if_neg h2] at h
        exact nextIn_inj n2 ((List.mem_append.mp ha).resolve_left h1) ((List.mem_append.mp hb).resolve_left h2) h
structure Dr (rs : Rs) (n : Nat) : Prop where
  nd : rs.flatten.Nodup
  mem : ∀ z : Int, z ∈ rs.flatten ↔ 0 ≤ z ∧ z < n
  len : rs.flatten.length = n
  even : n % 2 = 0
def stp (rs : Rs) (e : Int) : Int := nextIn rs (acr e)
theorem Dr.stp_mem {rs : Rs} {n : Nat} (d : Dr rs n) {e : Int} (h0 : 0 ≤ e) (h1 : e < n) : 0 ≤ stp rs e ∧ stp rs e < n :=
  let ⟨a, b⟩ := acr_lt d.even h0 h1
  (d.mem _).mp (nextIn_mem ((d.mem _).mpr ⟨a, b⟩))
theorem Dr.stp_inj {rs : Rs} {n : Nat} (d : Dr rs n) {a b : Int} (ha : 0 ≤ a ∧ a < n) (hb : 0 ≤ b ∧ b < n) (h : stp rs a = stp rs b) : a = b := by
  have e := nextIn_inj d.nd ((d.mem _).mpr (acr_lt d.even ha.1 ha.2)) ((d.mem _).mpr (acr_lt d.even hb.1 hb.2)) h
  rw [← acr_acr a, ← acr_acr b, e]
def itr (f : Int → Int) : Nat → Int → Int
  | 0, x => x
  | k + 1, x => f (itr f k x)
theorem itr_in {f : Int → Int} {n : Nat} (hm : ∀ x : Int, 0 ≤ x ∧ x < n → 0 ≤ f x ∧ f x < n) {x : Int} (hx : 0 ≤ x ∧ x < (n : Int)) : ∀ k, 0 ≤ itr f k x ∧ itr f k x < n
  | 0 => hx
  | k + 1 => hm _ (itr_in hm hx k)
theorem itr_back {f : Int → Int} {n : Nat} (hm : ∀ x : Int, 0 ≤ x ∧ x < n → 0 ≤ f x ∧ f x < n) (hi : ∀ x y : Int, 0 ≤ x ∧ x < n → 0 ≤ y ∧ y < n → f x = f y → x = y) {x : Int} (hx : 0 ≤ x ∧ x < (n : Int)) :
    ∀ i d, itr f (i + d) x = itr f i x → itr f d x = x
  | 0, d, h => by rw [Nat.zero_add] at h; exact h
  | i + 1, d, h => by
    rw [Nat.succ_add] at h
    exact itr_back hm hi hx i d (hi _ _ (itr_in hm hx _) (itr_in hm hx _) h)
theorem nodup_le : ∀ (n : Nat) (l : List Int), l.Nodup → (∀ z ∈ l, 0 ≤ z ∧ z < n) → l.length ≤ n
  | 0, l, _, h => by
    cases l with
    | nil => simp
    | cons a r => have := h a (by simp); omega
  | n + 1, l, nd, h => by
    have e : (l.erase (n : Int)).length ≤ n := nodup_le n _ (nd.erase _) fun z hz => by
      have h1 := h z (List.mem_of_mem_erase hz)
      have h2 : z ≠ n := by
        intro q
        subst q
        exact (List.Nodup.not_mem_erase nd) hz
      omega
    have := List.length_erase (a := (n : Int)) (l := l)
    split at this <;> omega
theorem go_round {f : Int → Int} {n : Nat} (hm : ∀ x : Int, 0 ≤ x ∧ x < n → 0 ≤ f x ∧ f x < n) (hi : ∀ x y : Int, 0 ≤ x ∧ x < n → 0 ≤ y ∧ y < n → f x = f y → x = y) {x : Int} (hx : 0 ≤ x ∧ x < (n : Int)) :
    ∃ k, 0 < k ∧ k ≤ n ∧ itr f k x = x := by
  by_cases h : ∃ k, 0 < k ∧ k ≤ n ∧ itr f k x = x
  · exact h
  · exfalso
    have nd : ((List.range (n + 1)).map fun k => itr f k x).Nodup := by
      rw [List.nodup_iff_pairwise_ne, List.pairwise_map]
      refine List.Pairwise.imp_of_mem ?_ List.pairwise_lt_range
      intro a b ha hb hab q
      have hb' := List.mem_range.mp hb
      refine h ⟨b - a, by omega, by omega, itr_back hm hi hx a (b - a) ?_⟩
      rw [show a + (b - a) = b by omega]
      exact q.symm
    have l := nodup_le n _ nd fun z hz => by
      obtain ⟨k, _, rfl⟩ := List.mem_map.mp hz
      exact itr_in hm hx k
    rw [List.length_map, List.length_range] at l
    omega
end Ink
namespace Ink
def insAt (r : List Int) (b e : Int) : List Int := r.take (r.idxOf b + 1) ++ e :: r.drop (r.idxOf b + 1)
def putRow (b e : Int) (r : List Int) : List Int := if b ∈ r then insAt r b e else r
def putIn (rs : Rs) (b e : Int) : Rs := rs.map (putRow b e)
theorem insAt_perm (r : List Int) (b e : Int) : (insAt r b e).Perm (e :: r) := by
  unfold insAt
  refine List.perm_middle.trans ?_
  rw [List.take_append_drop]
theorem putRow_no {b e : Int} {r : List Int} (h : b ∉ r) : putRow b e r = r := by unfold putRow; rw [if_neg h]
theorem putIn_no {b e : Int} : ∀ {rs : Rs}, b ∉ rs.flatten → putIn rs b e = rs
  | [], _ => rfl
  | r :: rs, h => by
    rw [List.flatten_cons] at h
    show putRow b e r :: putIn rs b e = r :: rs
    rw [putRow_no fun q => h (List.mem_append_left _ q), putIn_no fun q => h (List.mem_append_right _ q)]
theorem putIn_perm {b e : Int} : ∀ {rs : Rs}, rs.flatten.Nodup → b ∈ rs.flatten → (putIn rs b e).flatten.Perm (e :: rs.flatten)
  | [], _, h => by simp at h
  | r :: rs, nd, h => by
    rw [List.flatten_cons] at nd h
    obtain ⟨n1, n2, n3⟩ := List.nodup_append.mp nd
    show (putRow b e r :: putIn rs b e).flatten.Perm _
    rw [List.flatten_cons, List.flatten_cons]
    by_cases hb : b ∈ r
    · have no : b ∉ rs.flatten := fun q => n3 b hb b q rfl
      rw [putIn_no no]
      unfold putRow
      rw [if_pos hb]
      exact (insAt_perm r b e).append_right _
    · rw [putRow_no hb]
      exact ((putIn_perm n2 ((List.mem_append.mp h).resolve_left hb)).append_left r).trans List.perm_middle
theorem putIn_length (rs : Rs) (b e : Int) : (putIn rs b e).length = rs.length := List.length_map _
theorem Dr.of_perm {rs rs' : Rs} {n : Nat} (d : Dr rs n) {l : List Int} (hl : l = [(n : Int), n + 1] ∨ l = [(n : Int) + 1, n]) (h : rs'.flatten.Perm (l ++ rs.flatten)) : Dr rs' (n + 2) := by
  have hmem : ∀ z, z ∈ l ↔ z = n ∨ z = (n : Int) + 1 := by
    intro z
    rcases hl with rfl | rfl <;> simp [or_comm]
  have hlen : l.length = 2 := by rcases hl with rfl | rfl <;> rfl
  have hnd : l.Nodup := by
    rcases hl with rfl | rfl <;> simp [List.nodup_cons] <;> omega
  refine ⟨(h.nodup_iff).mpr (List.nodup_append.mpr ⟨hnd, d.nd, fun a ha b hb q => ?_⟩), fun z => ?_, ?_, by have := d.even; omega⟩
  · subst q
    have h1 := (hmem a).mp ha
    have h2 := (d.mem a).mp hb
    omega
  · rw [h.mem_iff, List.mem_append, hmem, d.mem]
    omega
  · rw [h.length_eq, List.length_append, hlen, d.len]
    omega
theorem Dr.two : Dr [[0], [1]] 2 := ⟨by decide, fun z => by simp; omega, rfl, rfl⟩
theorem Dr.one : Dr [[0, 1]] 2 := ⟨by decide, fun z => by simp; omega, rfl, rfl⟩
theorem Dr.alone {rs : Rs} {n : Nat} (d : Dr rs n) : Dr (rs ++ [[]]) n := by
  have e : (rs ++ [[]]).flatten = rs.flatten := by simp
  exact ⟨by rw [e]; exact d.nd, fun z => by rw [e]; exact d.mem z, by rw [e]; exact d.len, d.even⟩
theorem Dr.apart {rs : Rs} {n : Nat} (d : Dr rs n) : Dr (rs ++ [[(n : Int)], [(n : Int) + 1]]) (n + 2) := by
  refine d.of_perm (.inl rfl) ?_
  have e : (rs ++ [[(n : Int)], [(n : Int) + 1]]).flatten = rs.flatten ++ [(n : Int), (n : Int) + 1] := by simp
  rw [e]
  exact List.perm_append_comm
theorem Dr.leaf {rs : Rs} {n : Nat} {h : Int} (d : Dr rs n) (h0 : 0 ≤ h ∧ h < n) : Dr (putIn rs h n ++ [[(n : Int) + 1]]) (n + 2) := by
  refine d.of_perm (l := [(n : Int) + 1, n]) (.inr rfl) ?_
  have e : (putIn rs h n ++ [[(n : Int) + 1]]).flatten = (putIn rs h n).flatten ++ [(n : Int) + 1] := by simp
  rw [e]
  exact (((putIn_perm d.nd ((d.mem _).mpr h0)).append_right _).trans List.perm_append_comm).trans (by simp)
theorem Dr.tie {rs : Rs} {n : Nat} {h t : Int} (d : Dr rs n) (h0 : 0 ≤ h ∧ h < n) (t0 : 0 ≤ t ∧ t < n) : Dr (putIn (putIn rs h n) t ((n : Int) + 1)) (n + 2) := by
  refine d.of_perm (l := [(n : Int) + 1, n]) (.inr rfl) ?_
  have p := putIn_perm (e := (n : Int)) d.nd ((d.mem _).mpr h0)
  have nd : (putIn rs h n).flatten.Nodup := p.nodup_iff.mpr (List.nodup_cons.mpr ⟨fun q => by have := (d.mem _).mp q; omega, d.nd⟩)
  have mt : t ∈ (putIn rs h n).flatten := p.mem_iff.mpr (List.mem_cons_of_mem _ ((d.mem _).mpr t0))
  exact (putIn_perm nd mt).trans (p.cons _)
def orb (f : Int → Int) (x : Int) (j : Nat) : List Int := (List.range (j + 1)).map fun i => itr f i x
theorem orb_succ (f : Int → Int) (x : Int) (j : Nat) : orb f x (j + 1) = orb f x j ++ [itr f (j + 1) x] := by
  unfold orb
  rw [List.range_succ, List.map_append]
  rfl
theorem orb_length (f : Int → Int) (x : Int) (j : Nat) : (orb f x j).length = j + 1 := by unfold orb; rw [List.length_map, List.length_range]
structure IsFace (f : Int → Int) (x : Int) (row : List Int) : Prop where
  ex : ∃ j, row = orb f x j ∧ itr f (j + 1) x = x ∧ ∀ i, 0 < i → i ≤ j → itr f i x ≠ x
theorem IsFace.pos {f : Int → Int} {x : Int} {row : List Int} (h : IsFace f x row) : 0 < row.length := by
  obtain ⟨j, rfl, _⟩ := h.ex
  rw [orb_length]; omega
theorem IsFace.mem {f : Int → Int} {n : Nat} (hm : ∀ x : Int, 0 ≤ x ∧ x < n → 0 ≤ f x ∧ f x < n) {x : Int} (hx : 0 ≤ x ∧ x < (n : Int)) {row : List Int} (h : IsFace f x row) : ∀ z ∈ row, 0 ≤ z ∧ z < n := by
  obtain ⟨j, rfl, _⟩ := h.ex
  intro z hz
  obtain ⟨i, _, rfl⟩ := List.mem_map.mp hz
  exact itr_in hm hx i
inductive Made (any : Prop) : Rs → Nat → Prop
  | two : Made any [[0], [1]] 2
  | one : Made any [[0, 1]] 2
  | apart {rs : Rs} {n : Nat} : Made any rs n → Made any (rs ++ [[(n : Int)], [(n : Int) + 1]]) (n + 2)
  | alone {rs : Rs} {n : Nat} : Made any rs n → Made any (rs ++ [[]]) n
  | leaf {rs : Rs} {n : Nat} {h : Int} : Made any rs n → 0 ≤ h ∧ h < (n : Int) → Made any (putIn rs h n ++ [[(n : Int) + 1]]) (n + 2)
  | tie {rs : Rs} {n : Nat} {h t : Int} : Made any rs n → 0 ≤ h ∧ h < (n : Int) → 0 ≤ t ∧ t < (n : Int) →
      (any ∨ ∃ row z, IsFace (stp rs) (nextIn rs h) row ∧ z ∈ row ∧ t = acr z) → Made any (putIn (putIn rs h n) t ((n : Int) + 1)) (n + 2)
theorem Made.dr {any : Prop} {rs : Rs} {n : Nat} (m : Made any rs n) : Dr rs n := by
  induction m with
  | two => exact .two
  | one => exact .one
  | apart _ ih => exact ih.apart
  | alone _ ih => exact ih.alone
  | leaf _ h ih => exact ih.leaf h
  | tie _ h t _ ih => exact ih.tie h t
theorem Made.le2 {any : Prop} {rs : Rs} {n : Nat} (m : Made any rs n) : 2 ≤ n := by
  induction m <;> omega
theorem putRow_ne {b e : Int} {r : List Int} (h : r ≠ []) : putRow b e r ≠ [] := by
  unfold putRow
  split
  · unfold insAt; simp
  · exact h
theorem Made.first {any : Prop} {rs : Rs} {n : Nat} (m : Made any rs n) : ∃ r rest, rs = r :: rest ∧ r ≠ [] := by
  induction m with
  | two => exact ⟨_, _, rfl, by simp⟩
  | one => exact ⟨_, _, rfl, by simp⟩
  | apart _ ih => obtain ⟨r, t, rfl, h⟩ := ih; exact ⟨r, _, rfl, h⟩
  | alone _ ih => obtain ⟨r, t, rfl, h⟩ := ih; exact ⟨r, _, rfl, h⟩
  | leaf _ _ ih => obtain ⟨r, t, rfl, h⟩ := ih; exact ⟨_, _, rfl, putRow_ne h⟩
  | tie _ _ _ _ ih => obtain ⟨r, t, rfl, h⟩ := ih; exact ⟨_, _, rfl, putRow_ne (putRow_ne h)⟩
end Ink
namespace L2
open PySem PySem.Spec PyProof.Rows
inductive IsiV (K : PySem.W.Frag) (H : Hp) : V → String → Bool → Prop
  | ii (i) : IsiV K H (.int i) "int" true
  | ib (i) : IsiV K H (.int i) "bool" false
  | il (i) : IsiV K H (.int i) "list" false
  | it (i) : IsiV K H (.int i) "tuple" false
  | is (i) : IsiV K H (.int i) "str" false
  | bi (b) : IsiV K H (.bl b) "int" true
  | bb (b) : IsiV K H (.bl b) "bool" true
  | bl (b) : IsiV K H (.bl b) "list" false
  | bt (b) : IsiV K H (.bl b) "tuple" false
  | bs (b) : IsiV K H (.bl b) "str" false
  | si (x) : IsiV K H (.str x) "int" false
  | sl (x) : IsiV K H (.str x) "list" false
  | st (x) : IsiV K H (.str x) "tuple" false
  | ss (x) : IsiV K H (.str x) "str" true
  | ll {p xs} : SqL K H p xs → IsiV K H (.ref p) "list" true
  | li {p xs} : SqL K H p xs → IsiV K H (.ref p) "int" false
  | lb {p xs} : SqL K H p xs → IsiV K H (.ref p) "bool" false
  | lt {p xs} : SqL K H p xs → IsiV K H (.ref p) "tuple" false
  | ls {p xs} : SqL K H p xs → IsiV K H (.ref p) "str" false
  | tt {p xs} : SqT K H p xs → IsiV K H (.ref p) "tuple" true
  | tl {p xs} : SqT K H p xs → IsiV K H (.ref p) "list" false
  | ti {p xs} : SqT K H p xs → IsiV K H (.ref p) "int" false
  | tb {p xs} : SqT K H p xs → IsiV K H (.ref p) "bool" false
  | ts {p xs} : SqT K H p xs → IsiV K H (.ref p) "str" false
section
variable {X : Cx}
theorem call_isi : CallR X (.builtin "isinstance") (fun xs H Q => ∃ x T b, xs = [x, .ty T] ∧ IsiV X.K H x T b ∧ Q (.bl b) H) := by
  intro pins s σ H xs us Q I r h
  obtain ⟨x, T, b, rfl, hi, q⟩ := h
  obtain ⟨u, w', rfl, ru, rw'⟩ := vals2 r
  cases rw'
  have fin : ∀ {k : Bool}, Q (.bl k) H → EP X pins σ Q (.bool k) s := fun q => ⟨.bl _, H, I, rfl, q⟩
  have fin' : ∀ {k : Bool}, Q (.bl k) H → EP X pins σ Q (.bool k) { s with toks := s.toks + 1 } := fun q => ⟨.bl _, H, I.tok _, rfl, q⟩
  cases hi with
  | ii i => obtain ⟨t, rfl⟩ := ru; exact call_isinstance_yes (typeIs_int s i t) F.isi_meta_int F.isi_self_int (fin q)
  | ib i => obtain ⟨t, rfl⟩ := ru; exact call_isinstance (isinstance_false_int (by decide) F.isi_meta_bool F.sub_int_bool) (fin' q)
  | il i => obtain ⟨t, rfl⟩ := ru; exact call_isinstance (isinstance_false_int (by decide) F.isi_meta_list F.sub_int_list) (fin' q)
  | it i => obtain ⟨t, rfl⟩ := ru; exact call_isinstance (isinstance_false_int (by decide) F.isi_meta_tuple F.sub_int_tuple) (fin' q)
  | is i => obtain ⟨t, rfl⟩ := ru; exact call_isinstance (isinstance_false_int (by decide) F.isi_meta_str F.sub_int_str) (fin' q)
  | bi b => cases ru; exact call_isinstance_yes (PySem.typeIs_bool s b) F.isi_meta_int F.sub_bool_int (fin q)
  | bb b => cases ru; exact call_isinstance_yes (PySem.typeIs_bool s b) F.isi_meta_bool F.isi_self_bool (fin q)
  | bl b => cases ru; exact call_isinstance (isinstance_false_bool (by decide) F.isi_meta_list F.sub_bool_list) (fin' q)
  | bt b => cases ru; exact call_isinstance (isinstance_false_bool (by decide) F.isi_meta_tuple F.sub_bool_tuple) (fin' q)
  | bs b => cases ru; exact call_isinstance (isinstance_false_bool (by decide) F.isi_meta_str F.sub_bool_str) (fin' q)
  | si x => obtain ⟨t, rfl⟩ := ru; exact call_isinstance (isinstance_false_str (by decide) F.isi_meta_int F.sub_str_int) (fin' q)
  | sl x => obtain ⟨t, rfl⟩ := ru; exact call_isinstance (isinstance_false_str (by decide) F.isi_meta_list F.sub_str_list) (fin' q)
  | st x => obtain ⟨t, rfl⟩ := ru; exact call_isinstance (isinstance_false_str (by decide) F.isi_meta_tuple F.sub_str_tuple) (fin' q)
  | ss x => obtain ⟨t, rfl⟩ := ru; exact call_isinstance_yes (PySem.typeIs_str s x t) F.isi_meta_str F.isi_self_str (fin q)
  | ll hq => cases ru; obtain ⟨its, rv, pl, hz⟩ := I.list hq; exact call_isinstance_yes pl.isList.typeIs F.isi_meta_list F.isi_self_list (fin q)
  | li hq => cases ru; obtain ⟨its, rv, ⟨o, n, e, c, _, _⟩, hz⟩ := I.list hq; exact call_isinstance (isinstance_false_list (by decide) F.isi_meta_int F.sub_list_int) ⟨⟨o, e, c⟩, fin' q⟩
  | lb hq => cases ru; obtain ⟨its, rv, ⟨o, n, e, c, _, _⟩, hz⟩ := I.list hq; exact call_isinstance (isinstance_false_list (by decide) F.isi_meta_bool F.sub_list_bool) ⟨⟨o, e, c⟩, fin' q⟩
  | lt hq => cases ru; obtain ⟨its, rv, ⟨o, n, e, c, _, _⟩, hz⟩ := I.list hq; exact call_isinstance (isinstance_false_list (by decide) F.isi_meta_tuple F.sub_list_tuple) ⟨⟨o, e, c⟩, fin' q⟩
  | ls hq => cases ru; obtain ⟨its, rv, ⟨o, n, e, c, _, _⟩, hz⟩ := I.list hq; exact call_isinstance (isinstance_false_list (by decide) F.isi_meta_str F.sub_list_str) ⟨⟨o, e, c⟩, fin' q⟩
  | tt hq => cases ru; obtain ⟨its, rv, pl, hz⟩ := I.tuple hq; exact call_isinstance_yes pl.typeIs F.isi_meta_tuple F.isi_self_tuple (fin q)
  | tl hq => cases ru; obtain ⟨its, rv, ⟨o, e, c, _, _⟩, hz⟩ := I.tuple hq; exact call_isinstance (isinstance_false_tuple (by decide) F.isi_meta_list F.sub_tuple_list) ⟨⟨o, e, c⟩, fin' q⟩
  | ti hq => cases ru; obtain ⟨its, rv, ⟨o, e, c, _, _⟩, hz⟩ := I.tuple hq; exact call_isinstance (isinstance_false_tuple (by decide) F.isi_meta_int F.sub_tuple_int) ⟨⟨o, e, c⟩, fin' q⟩
  | tb hq => cases ru; obtain ⟨its, rv, ⟨o, e, c, _, _⟩, hz⟩ := I.tuple hq; exact call_isinstance (isinstance_false_tuple (by decide) F.isi_meta_bool F.sub_tuple_bool) ⟨⟨o, e, c⟩, fin' q⟩
  | ts hq => cases ru; obtain ⟨its, rv, ⟨o, e, c, _, _⟩, hz⟩ := I.tuple hq; exact call_isinstance (isinstance_false_tuple (by decide) F.isi_meta_str F.sub_tuple_str) ⟨⟨o, e, c⟩, fin' q⟩
end
mutual
inductive DatV (K : PySem.W.Frag) (H : Hp) : V → PyData → Prop
  | int (i) : DatV K H (.int i) (.int i)
  | bl (b) : DatV K H (.bl b) (.bool b)
  | str (x) : DatV K H (.str x) (.str x)
  | lst {a xs ds} : SqL K H a xs → DatVs K H xs ds → DatV K H (.ref a) (.list ds)
  | tup {a xs ds} : SqT K H a xs → DatVs K H xs ds → DatV K H (.ref a) (.tuple ds)
inductive DatVs (K : PySem.W.Frag) (H : Hp) : List V → List PyData → Prop
  | nil : DatVs K H [] []
  | cons {x xs d ds} : DatV K H x d → DatVs K H xs ds → DatVs K H (x :: xs) (d :: ds)
end
section
variable {X : Cx} {pins : List (Addr × Obj)} {σ : St} {H : Hp} {s : Shared}
theorem DatV.reads (I : Inv X pins σ H s) {v : V} {d : PyData} (h : DatV X.K H v d) : ∀ {u : Value}, RelV v u → ∃ as, Reads s.heap u d as := by
  refine DatV.rec (motive_1 := fun v d _ => ∀ {u : Value}, RelV v u → ∃ as, Reads s.heap u d as) (motive_2 := fun xs ds _ => ∀ {us : List Value}, Vals xs us → ∃ as, ReadsAll s.heap us ds as) ?_ ?_ ?_ ?_ ?_ ?_ ?_ h
  · intro i u r
    obtain ⟨t, rfl⟩ := r
    exact ⟨_, .int i t⟩
  · intro b u r
    cases r
    exact ⟨_, .bool b⟩
  · intro x u r
    obtain ⟨t, rfl⟩ := r
    exact ⟨_, .str x t⟩
  · intro a xs ds hq _ ih u r
    cases r
    obtain ⟨its, rv, ⟨o, n, e, c, _, d⟩, _⟩ := I.list hq
    obtain ⟨as, ra⟩ := ih rv
    exact ⟨_, .list e c d (by simpa using ra)⟩
  · intro a xs ds hq _ ih u r
    cases r
    obtain ⟨its, rv, ⟨o, e, c, n, d⟩, _⟩ := I.tuple hq
    obtain ⟨as, ra⟩ := ih rv
    exact ⟨_, .tuple e c d (by simpa using ra)⟩
  · intro us r
    cases r
    exact ⟨_, .nil⟩
  · intro x xs d ds _ _ ih1 ih2 us r
    cases r with
    | cons r1 r2 =>
      obtain ⟨as, ra⟩ := ih1 r1
      obtain ⟨bs, rb⟩ := ih2 r2
      exact ⟨_, .cons ra rb⟩
end
section
variable {X : Cx}
def rEqD (K : PySem.W.Frag) : R2 := fun x y H Q => ∃ da db, DatV K H x da ∧ DatV K H y db ∧ da.canLay0 = true ∧ db.canLay0 = true ∧ da.depth ≤ 64 ∧ Q (.bl (PyData.eqv da db)) H
def rNeD (K : PySem.W.Frag) : R2 := fun x y H Q => ∃ da db, DatV K H x da ∧ DatV K H y db ∧ da.canLay0 = true ∧ db.canLay0 = true ∧ da.depth ≤ 64 ∧ Q (.bl (!PyData.eqv da db)) H
theorem op_eqD (hu : X.A.units + 64 < cLine) : OpR X (compareOp .Eq) (rEqD X.K) := by
  intro pins s σ H x y v u Q I rx ry h
  obtain ⟨da, db, ha, hb, ca, cb, hd, q⟩ := h
  obtain ⟨as, ra⟩ := ha.reads I rx
  obtain ⟨bs, rb⟩ := hb.reads I ry
  exact SeqAt.compareEq_reads ra rb ca cb (by have : min da.depth db.depth ≤ da.depth := Nat.min_le_left _ _; omega) ⟨.bl _, H, I, rfl, q⟩
theorem op_neD (hu : X.A.units + 64 < cLine) : OpR X (compareOp .NotEq) (rNeD X.K) := by
  intro pins s σ H x y v u Q I rx ry h
  obtain ⟨da, db, ha, hb, ca, cb, hd, q⟩ := h
  obtain ⟨as, ra⟩ := ha.reads I rx
  obtain ⟨bs, rb⟩ := hb.reads I ry
  exact SeqAt.compareNe_reads ra rb ca cb (by have : min da.depth db.depth ≤ da.depth := Nat.min_le_left _ _; omega) ⟨.bl _, H, I, rfl, q⟩
end
def intsD (r : List Int) : PyData := .list (r.map .int)
def rowsD (rs : List (List Int)) : PyData := .list (rs.map intsD)
theorem DatVs.ints {K : PySem.W.Frag} {H : Hp} : ∀ r : List Int, DatVs K H (r.map V.int) (r.map PyData.int)
  | [] => .nil
  | i :: r => .cons (.int i) (DatVs.ints r)
theorem DatV.ints {K : PySem.W.Frag} {H : Hp} {a : Addr} {r : List Int} (h : SqL K H a (r.map V.int)) : DatV K H (.ref a) (intsD r) := .lst h (.ints r)
theorem lay_intsAll : ∀ r : List Int, PyData.canLayAll0 (r.map PyData.int) = true
  | [] => rfl
  | _ :: r => by rw [List.map_cons, PyData.canLayAll0, lay_intsAll r]; rfl
theorem lay_ints (r : List Int) : (intsD r).canLay0 = true := by unfold intsD; rw [PyData.canLay0]; exact lay_intsAll r
theorem lay_rowsAll : ∀ rs : List (List Int), PyData.canLayAll0 (rs.map intsD) = true
  | [] => rfl
  | r :: rs => by rw [List.map_cons, PyData.canLayAll0, lay_rowsAll rs, lay_ints r]; rfl
theorem lay_rows (rs : List (List Int)) : (rowsD rs).canLay0 = true := by unfold rowsD; rw [PyData.canLay0]; exact lay_rowsAll rs
theorem depth_intsAll : ∀ r : List Int, PyData.depthAll (r.map PyData.int) = 0
  | [] => rfl
  | i :: r => by rw [List.map_cons, PyData.depthAll, depth_intsAll r]; rfl
theorem depth_ints (r : List Int) : (intsD r).depth ≤ 1 := by unfold intsD; rw [PyData.depth, depth_intsAll]; decide
theorem depth_rowsAll : ∀ rs : List (List Int), PyData.depthAll (rs.map intsD) ≤ 1
  | [] => Nat.zero_le _
  | r :: rs => by
    rw [List.map_cons, PyData.depthAll]
    have h1 := depth_ints r
    have h2 := depth_rowsAll rs
    omega
theorem depth_rows (rs : List (List Int)) : (rowsD rs).depth ≤ 2 := by
  unfold rowsD
  rw [PyData.depth]
  have := depth_rowsAll rs
  omega
theorem eqv_intsAll : ∀ a b : List Int, PyData.eqvAll (a.map PyData.int) (b.map PyData.int) = decide (a = b)
  | [], [] => by simp [PyData.eqvAll]
  | [], _ :: _ => by simp [PyData.eqvAll]
  | _ :: _, [] => by simp [PyData.eqvAll]
  | x :: a, y :: b => by
    rw [List.map_cons, List.map_cons, PyData.eqvAll, eqv_intsAll a b, PyData.eqv, Bool.eq_iff_iff]
    simp
theorem eqv_ints (a b : List Int) : PyData.eqv (intsD a) (intsD b) = decide (a = b) := by unfold intsD; rw [PyData.eqv]; exact eqv_intsAll a b
structure Rows (H : Hp) (p : Addr) (ps : List Addr) (rs : List (List Int)) : Prop where
  out : H p = some (.lst (ps.map V.ref))
  nd : ps.Nodup
  len : ps.length = rs.length
  row : ∀ (i : Nat) (q : Addr) (r : List Int), ps[i]? = some q → rs[i]? = some r → H q = some (.lst (r.map V.int))
theorem Rows.get {H : Hp} {p : Addr} {ps : List Addr} {rs : List (List Int)} (h : Rows H p ps rs) {i : Nat} {r : List Int} (e : rs[i]? = some r) : ∃ q, ps[i]? = some q ∧ H q = some (.lst (r.map V.int)) := by
  have hi : i < rs.length := (List.getElem?_eq_some_iff.mp e).1
  have hi' : i < ps.length := by rw [h.len]; exact hi
  exact ⟨ps[i], List.getElem?_eq_getElem hi', h.row i _ r (List.getElem?_eq_getElem hi') e⟩
theorem Rows.at {H : Hp} {p : Addr} {ps : List Addr} {rs : List (List Int)} (h : Rows H p ps rs) {i : Nat} {q : Addr} (e : ps[i]? = some q) : ∃ r, rs[i]? = some r ∧ H q = some (.lst (r.map V.int)) := by
  have hi : i < ps.length := (List.getElem?_eq_some_iff.mp e).1
  have hi' : i < rs.length := by rw [← h.len]; exact hi
  exact ⟨rs[i], List.getElem?_eq_getElem hi', h.row i q _ e (List.getElem?_eq_getElem hi')⟩
theorem Rows.mem {H : Hp} {p : Addr} {ps : List Addr} {rs : List (List Int)} (h : Rows H p ps rs) {q : Addr} (e : q ∈ ps) : ∃ r, r ∈ rs ∧ H q = some (.lst (r.map V.int)) := by
  obtain ⟨i, hi⟩ := List.mem_iff_getElem?.mp e
  obtain ⟨r, hr, hq⟩ := h.at hi
  exact ⟨r, List.mem_of_getElem? hr, hq⟩
theorem Rows.notin {H : Hp} {p : Addr} {ps : List Addr} {rs : List (List Int)} (h : Rows H p ps rs) : p ∉ ps := fun e => by
  obtain ⟨r, _, hq⟩ := h.mem e
  have o := h.out
  rw [hq] at o
  have o' : r.map V.int = ps.map V.ref := by
    have := Option.some.inj o
    injection this
  cases ps with
  | nil => cases e
  | cons a ps =>
    cases r with
    | nil => cases o'
    | cons i r =>
      rw [List.map_cons, List.map_cons] at o'
      injection o' with o1 _
      cases o1
theorem Rows.same {H H' : Hp} {p : Addr} {ps : List Addr} {rs : List (List Int)} (h : Rows H p ps rs) (s : Same H H') : Rows H' p ps rs :=
  ⟨s _ _ h.out, h.nd, h.len, fun i q r e1 e2 => s _ _ (h.row i q r e1 e2)⟩
theorem Rows.set {H : Hp} {p : Addr} {ps : List Addr} {rs : List (List Int)} (h : Rows H p ps rs) {i : Nat} {q : Addr} (e : ps[i]? = some q) (r' : List Int) : Rows (upd H q (.lst (r'.map V.int))) p ps (rs.set i r') := by
  have hq : q ∈ ps := List.mem_of_getElem? e
  have np : p ≠ q := fun z => h.notin (z ▸ hq)
  refine ⟨by rw [upd_ne np]; exact h.out, h.nd, by rw [List.length_set]; exact h.len, fun j q' r e1 e2 => ?_⟩
  by_cases hj : j = i
  · subst hj
    rw [e] at e1
    cases e1
    have hlt : j < rs.length := by rw [← h.len]; exact (List.getElem?_eq_some_iff.mp e).1
    rw [List.getElem?_set_self hlt] at e2
    cases e2
    exact upd_same
  · rw [List.getElem?_set_ne (Ne.symm hj)] at e2
    have ne : q' ≠ q := by
      rintro rfl
      obtain ⟨h1, e1'⟩ := List.getElem?_eq_some_iff.mp e1
      obtain ⟨h2, e2'⟩ := List.getElem?_eq_some_iff.mp e
      exact hj ((List.getElem_inj h.nd).mp (e1'.trans e2'.symm))
    rw [upd_ne ne]
    exact h.row j q' r e1 e2
theorem Rows.snoc {H : Hp} {p : Addr} {ps : List Addr} {rs : List (List Int)} (h : Rows H p ps rs) {q : Addr} {r : List Int} (hq : H q = some (.lst (r.map V.int))) (hn : q ∉ ps) (hp : q ≠ p) :
    Rows (upd H p (.lst (ps.map V.ref ++ [.ref q]))) p (ps ++ [q]) (rs ++ [r]) := by
  refine ⟨?_, ?_, by rw [List.length_append, List.length_append, h.len]; rfl, fun j q' r' e1 e2 => ?_⟩
  · rw [upd_same, List.map_append]; rfl
  · refine List.nodup_append.mpr ⟨h.nd, by simp, fun a ha b hb z => ?_⟩
    have : b = q := by simpa using hb
    subst this; subst z
    exact hn ha
  · have key : H q' = some (.lst (r'.map V.int)) ∧ q' ≠ p := by
      by_cases hj : j < ps.length
      · rw [List.getElem?_append_left hj] at e1
        rw [List.getElem?_append_left (by rw [← h.len]; exact hj)] at e2
        exact ⟨h.row j q' r' e1 e2, fun z => h.notin (z ▸ List.mem_of_getElem? e1)⟩
      · have hj' : j = ps.length := by
          have := (List.getElem?_eq_some_iff.mp e1).1
          rw [List.length_append, List.length_singleton] at this
          omega
        subst hj'
        rw [List.getElem?_append_right (Nat.le_refl _), Nat.sub_self] at e1
        rw [List.getElem?_append_right (by rw [h.len]; exact Nat.le_refl _), h.len, Nat.sub_self] at e2
        have z1 : q = q' := by simpa using e1
        have z2 : r = r' := by simpa using e2
        subst z1; subst z2
        exact ⟨hq, hp⟩
    rw [upd_ne key.2]
    exact key.1
theorem Rows.vals {K : PySem.W.Frag} {H : Hp} {ps : List Addr} {rs : List (List Int)} (hl : ps.length = rs.length) (hr : ∀ (i : Nat) (q : Addr) (r : List Int), ps[i]? = some q → rs[i]? = some r → H q = some (.lst (r.map V.int))) : DatVs K H (ps.map V.ref) (rs.map intsD) := by
  induction ps generalizing rs with
  | nil =>
    cases rs with
    | nil => exact .nil
    | cons r rs => cases hl
  | cons q ps ih =>
    cases rs with
    | nil => cases hl
    | cons r rs =>
      refine .cons (.ints (.of (hr 0 q r rfl rfl))) (ih (by simpa using hl) fun i q' r' e1 e2 => hr (i + 1) q' r' (by simpa using e1) (by simpa using e2))
theorem Rows.dat {K : PySem.W.Frag} {H : Hp} {p : Addr} {ps : List Addr} {rs : List (List Int)} (h : Rows H p ps rs) : DatV K H (.ref p) (rowsD rs) := .lst (.of h.out) (Rows.vals h.len h.row)
end L2
namespace L2
open PySem
theorem upd_none {H : Hp} {a b : Addr} {o : HO} (h : upd H a o b = none) : b ≠ a ∧ H b = none := by
  by_cases e : b = a
  · subst e
    rw [upd_same] at h
    cases h
  · rw [upd_ne e] at h
    exact ⟨e, h⟩
theorem Same.put {H H2 : Hp} {l : Addr} {o : HO} (s : Same H H2) (hl : H l = none) : Same H (L2.upd H2 l o) := fun b u e => by
  rw [upd_ne (ne_of_none e hl)]
  exact s b u e
theorem Rows.app {H H' : Hp} {p p' : Addr} {ps qs : List Addr} {rs ts : List (List Int)} (h : Rows H p ps rs) (hs : ∀ q ∈ ps, ∀ o, H q = some o → H' q = some o) (hl : qs.length = ts.length) (hr : ∀ (i : Nat) (q : Addr) (r : List Int), qs[i]? = some q → ts[i]? = some r → H' q = some (.lst (r.map V.int)))
    (nd : qs.Nodup) (dj : ∀ q ∈ qs, q ∉ ps) (ho : H' p' = some (.lst ((ps ++ qs).map V.ref))) : Rows H' p' (ps ++ qs) (rs ++ ts) := by
  refine ⟨ho, List.nodup_append.mpr ⟨h.nd, nd, fun a ha b hb z => dj b hb (z ▸ ha)⟩, by rw [List.length_append, List.length_append, h.len, hl], fun j q r e1 e2 => ?_⟩
  by_cases hj : j < ps.length
  · rw [List.getElem?_append_left hj] at e1
    rw [List.getElem?_append_left (by rw [← h.len]; exact hj)] at e2
    exact hs q (List.mem_of_getElem? e1) _ (h.row j q r e1 e2)
  · rw [List.getElem?_append_right (by omega)] at e1
    rw [List.getElem?_append_right (by rw [← h.len]; omega), ← h.len] at e2
    exact hr _ q r e1 e2
theorem Rows.one {H : Hp} {p a : Addr} {r : List Int} (ho : H p = some (.lst [.ref a])) (ha : H a = some (.lst (r.map V.int))) : Rows H p [a] [r] :=
  ⟨ho, by simp, rfl, fun i q r' e1 e2 => by
    cases i with
    | zero =>
      have z1 : a = q := by simpa using e1
      have z2 : r = r' := by simpa using e2
      subst z1; subst z2
      exact ha
    | succ i => simp at e1⟩
theorem Rows.two {H : Hp} {p a b : Addr} {r t : List Int} (ho : H p = some (.lst [.ref a, .ref b])) (hab : a ≠ b) (ha : H a = some (.lst (r.map V.int))) (hb : H b = some (.lst (t.map V.int))) : Rows H p [a, b] [r, t] :=
  ⟨ho, by simp [hab], rfl, fun i q r' e1 e2 => by
    match i with
    | 0 =>
      have z1 : a = q := by simpa using e1
      have z2 : r = r' := by simpa using e2
      subst z1; subst z2
      exact ha
    | 1 =>
      have z1 : b = q := by simpa using e1
      have z2 : t = r' := by simpa using e2
      subst z1; subst z2
      exact hb
    | i + 2 => simp at e1⟩
section
variable {X : Cx}
theorem call_range1 : CallR X (.type "range") (fun xs H Q => ∃ j : Int, xs = [.int j] ∧ ∀ p, H p = none → Q (.ref p) (upd H p (.rng 0 j))) := by
  intro pins s σ H xs us Q I r h
  obtain ⟨j, rfl, q⟩ := h
  obtain ⟨u, rfl, t, rfl⟩ := vals1 r
  refine call_range_1 ⟨.ref s.heap.objs.size, _, I.laid (fun b o e => Heap.get?_push_of_some _ e) (Nat.le_refl _) ?_, rfl, q _ (I.hok.fresh (Nat.le_refl _))⟩
  exact ⟨_, _, _, Heap.get?_push_size _ rfl⟩
theorem vals_range (acc : List Value) : ∀ (n : Nat), n ≤ acc.length → (∀ (j : Nat) (v : Value), acc[j]? = some v → ∃ t, v = .int (j : Int) t) → Vals ((List.range n).map fun (i : Nat) => V.int (i : Int)) (acc.take n)
  | 0, _, _ => .nil
  | n + 1, hn, h => by
    have e := List.getElem?_eq_getElem (l := acc) (i := n) (by omega)
    rw [List.range_succ, List.map_append, List.take_add_one, e]
    refine Vals.append (vals_range acc n (by omega) h) (.cons ?_ .nil)
    obtain ⟨t, e2⟩ := h n _ e
    exact ⟨t, e2⟩
theorem call_list_rng (hc : X.calm = true) : CallR X (.type "list") (fun xs H Q => ∃ (p : Addr) (n : Nat), xs = [.ref p] ∧ H p = some (.rng 0 (n : Int)) ∧ n ≤ 1000000 ∧ ∀ l, H l = none → Q (.ref l) (upd H l (.lst ((List.range n).map fun (i : Nat) => V.int (i : Int))))) := by
  intro pins s σ H xs us Q I r h
  obtain ⟨p, n, rfl, hp, hn, q⟩ := h
  obtain ⟨u, rfl, ru⟩ := vals1 r
  cases ru
  obtain ⟨t, u, v, e⟩ := I.hok p _ hp
  have hs : sizeLine = 16777216 := sizeLine_eq
  refine call_list_range (n := n) (I.ok.hd hc) e (small_one (by omega) (by omega) (by omega) (by omega)) (by rw [rangeSize_one]; split <;> omega) (by omega) fun h' tk acc' c' hk hS hit => ?_
  refine ⟨.ref s.heap.objs.size, _, I.laid (t' := tk) hk (Nat.le_refl _) (o := .lst ((List.range n).map fun (i : Nat) => V.int (i : Int))) ?_, rfl, q _ (I.hok.fresh (Nat.le_refl _))⟩
  refine ⟨by rw [List.length_map, List.length_range]; omega, acc'.toList, c', ?_, by simpa using hS⟩
  have hl : acc'.toList.length = n := by simpa using hit.1
  have vr := vals_range acc'.toList n (by omega) fun j v e => ?_
  · rw [List.take_of_length_le (by omega)] at vr
    exact vr
  · obtain ⟨t, e2⟩ := hit.2 j v (by simpa using e)
    exact ⟨t, by rw [e2]; congr 1; omega⟩
end
end L2
namespace L2
open PySem PySem.Spec PyProof.Rows
section
variable {κ : Type} [DecidableEq κ]
def valV (kvs : List (κ × V)) (k : κ) : Option V := (kvs.find? fun kv => decide (kv.1 = k)).map (·.2)
def putK (kvs : List (κ × V)) (k : κ) (v : V) : List (κ × V) :=
  if (kvs.any fun kv => decide (kv.1 = k)) = true then kvs.map (fun kv => if kv.1 = k then (kv.1, v) else kv) else kvs ++ [(k, v)]
theorem valV_nil {k : κ} : valV ([] : List (κ × V)) k = none := rfl
theorem valV_pos {p : κ × V} {r : List (κ × V)} {k : κ} (e : p.1 = k) : valV (p :: r) k = some p.2 := by simp [valV, List.find?_cons, e]
theorem valV_neg {p : κ × V} {r : List (κ × V)} {k : κ} (e : ¬ p.1 = k) : valV (p :: r) k = valV r k := by simp [valV, List.find?_cons, e]
theorem valV_any (k : κ) : ∀ kvs : List (κ × V), (kvs.any fun kv => decide (kv.1 = k)) = (valV kvs k).isSome
  | [] => rfl
  | p :: r => by
    rw [List.any_cons]
    by_cases e : p.1 = k
    · simp only [valV_pos e, decide_eq_true e, Bool.true_or, Option.isSome_some]
    · rw [valV_neg e, decide_eq_false e, Bool.false_or]; exact valV_any k r
theorem valV_map (k j : κ) (y : V) : ∀ kvs : List (κ × V), valV (kvs.map fun kv => if kv.1 = k then (kv.1, y) else kv) j = (valV kvs j).map fun x => if j = k then y else x
  | [] => rfl
  | p :: r => by
    have ih := valV_map k j y r
    rw [List.map_cons]
    by_cases h : p.1 = k
    · rw [if_pos h]
      by_cases e : p.1 = j
      · rw [valV_pos (p := (p.1, y)) e, valV_pos e, Option.map_some, if_pos (e.symm.trans h)]
      · rw [valV_neg (p := (p.1, y)) e, valV_neg e, ih]
    · rw [if_neg h]
      by_cases e : p.1 = j
      · rw [valV_pos (p := p) e, valV_pos e, Option.map_some, if_neg (fun z => h (e.trans z))]
      · rw [valV_neg (p := p) e, valV_neg e, ih]
theorem valV_snoc (k j : κ) (y : V) : ∀ kvs : List (κ × V), valV kvs k = none → valV (kvs ++ [(k, y)]) j = if j = k then some y else valV kvs j
  | [], _ => by
    by_cases e : k = j
    · rw [if_pos e.symm]; exact valV_pos (p := (k, y)) e
    · rw [if_neg (fun z => e z.symm)]; exact valV_neg (p := (k, y)) e
  | p :: r, hn => by
    rw [List.cons_append]
    have hk : ¬ p.1 = k := fun z => by rw [valV_pos z] at hn; cases hn
    rw [valV_neg hk] at hn
    have ih := valV_snoc k j y r hn
    by_cases e : p.1 = j
    · rw [valV_pos e, valV_pos e, if_neg (fun z => hk (e.trans z))]
    · rw [valV_neg e, valV_neg e, ih]
theorem valV_put (kvs : List (κ × V)) (k j : κ) (y : V) : valV (putK kvs k y) j = if j = k then some y else valV kvs j := by
  unfold putK
  by_cases a : (kvs.any fun kv => decide (kv.1 = k)) = true
  · rw [if_pos a, valV_map]
    rw [valV_any] at a
    by_cases e : j = k
    · obtain ⟨x, hx⟩ := Option.isSome_iff_exists.mp a
      rw [if_pos e, e, hx, Option.map_some, if_pos rfl]
    · rw [if_neg e]
      cases valV kvs j with
      | none => rfl
      | some x => rw [Option.map_some, if_neg e]
  · rw [if_neg a]
    refine valV_snoc k j y kvs ?_
    rw [valV_any] at a
    cases q : valV kvs k with
    | none => rfl
    | some x => rw [q] at a; exact (a rfl).elim
theorem length_putK (kvs : List (κ × V)) (k : κ) (v : V) : (putK kvs k v).length ≤ kvs.length + 1 := by
  unfold putK
  split
  · rw [List.length_map]; omega
  · rw [List.length_append, List.length_cons, List.length_nil]; omega
theorem putK_new {kvs : List (κ × V)} {k : κ} (v : V) (h : valV kvs k = none) : putK kvs k v = kvs ++ [(k, v)] := by
  unfold putK
  rw [valV_any, h]
  exact if_neg (by decide)
theorem RelO.isSome_eq {o : Option V} {u : Option Value} (r : RelO o u) : o.isSome = u.isSome := by
  cases o with
  | none => cases u with
    | none => rfl
    | some _ => exact (show False from r).elim
  | some _ => cases u with
    | none => exact (show False from r).elim
    | some _ => rfl
theorem KV.val {kvs : List (κ × V)} {vs : List (κ × Value)} (r : KV kvs vs) (k : κ) : RelO (valV kvs k) (valueAt vs k) := by
  unfold KV at r
  induction r with
  | nil => exact True.intro
  | @cons p q ps qs h t ih =>
    obtain ⟨h1, h2⟩ := h
    by_cases e : p.1 = k
    · have e' : q.1 = k := h1.symm.trans e
      have b : valueAt (q :: qs) k = some q.2 := by simp [valueAt, List.find?_cons, e']
      rw [valV_pos e, b]; exact h2
    · have e' : ¬ q.1 = k := fun z => e (h1.trans z)
      have b : valueAt (q :: qs) k = valueAt qs k := by simp [valueAt, List.find?_cons, e']
      rw [valV_neg e, b]; exact ih
theorem KV.any {kvs : List (κ × V)} {vs : List (κ × Value)} (r : KV kvs vs) (k : κ) : (kvs.any fun kv => decide (kv.1 = k)) = vs.any fun kv => decide (kv.1 = k) := by
  unfold KV at r
  induction r with
  | nil => rfl
  | cons h t ih => rw [List.any_cons, List.any_cons, ih, h.1]
theorem KV.repl {kvs : List (κ × V)} {vs : List (κ × Value)} (r : KV kvs vs) (k : κ) {y : V} {u : Value} (ry : RelV y u) :
    KV (kvs.map fun kv => if kv.1 = k then (kv.1, y) else kv) (vs.map fun kv => if kv.1 = k then (kv.1, u) else kv) := by
  unfold KV at r ⊢
  induction r with
  | nil => exact .nil
  | @cons p q ps qs h t ih =>
    rw [List.map_cons, List.map_cons]
    refine .cons ?_ ih
    obtain ⟨h1, h2⟩ := h
    by_cases e : p.1 = k
    · rw [if_pos e, if_pos (h1.symm.trans e)]; exact ⟨h1, ry⟩
    · rw [if_neg e, if_neg (fun z => e (h1.trans z))]; exact ⟨h1, h2⟩
theorem KV.put {kvs : List (κ × V)} {vs : List (κ × Value)} (r : KV kvs vs) (k : κ) {y : V} {u : Value} (ry : RelV y u) : KV (putK kvs k y) (stored vs k u) := by
  unfold putK stored
  rw [r.any k]
  by_cases e : (vs.any fun kv => decide (kv.1 = k)) = true
  · rw [if_pos e, if_pos e]; exact r.repl k ry
  · rw [if_neg e, if_neg e]; exact Paired.snoc r ⟨rfl, ry⟩
theorem KV.length {kvs : List (κ × V)} {vs : List (κ × Value)} (r : KV kvs vs) : kvs.length = vs.length := Paired.length r
end
theorem kV_is {P : Program} {w : World} {k : Key} {u : Value} (r : RelV (kV k) u) : (mixKind P w).is k u = true := by
  cases k with
  | inl i => obtain ⟨t, e⟩ := (show ∃ t, u = Value.int i t from r); subst e; exact mixKind_int P w i t
  | inr x => obtain ⟨t, e⟩ := (show ∃ t, u = Value.str x t from r); subst e; exact mixKind_str P w x t
theorem items_are {P : Program} {w : World} : ∀ {ks : List Key} {us : List Value}, Vals (ks.map kV) us → ItemsAre (mixKind P w) ks us
  | [], _, r => by rw [List.map_nil] at r; cases r; exact .nil
  | k :: ks, _, r => by
    rw [List.map_cons] at r
    cases r with
    | cons h t => exact .cons (kV_is h) (items_are t)
abbrev KT (H : Hp) : List (List Key × V) → List (List Key × Addr × Value) → Prop := Paired fun p q => p.1 = q.1 ∧ H q.2.1 = some (.tup (p.1.map kV)) ∧ RelV p.2 q.2.2
theorem KT.val {H : Hp} {kvs : List (List Key × V)} {xs : List (List Key × Addr × Value)} (r : KT H kvs xs) (k : List Key) : RelO (valV kvs k) ((atKey xs k).map (·.2)) := by
  induction r with
  | nil => exact True.intro
  | @cons p q ps qs h t ih =>
    obtain ⟨h1, _, h2⟩ := h
    by_cases e : p.1 = k
    · have e' : q.1 = k := h1.symm.trans e
      have b : atKey (q :: qs) k = some q.2 := by simp [atKey, List.find?_cons, e']
      rw [valV_pos e, b]; exact h2
    · have e' : ¬ q.1 = k := fun z => e (h1.trans z)
      have b : atKey (q :: qs) k = atKey qs k := by simp [atKey, List.find?_cons, e']
      rw [valV_neg e, b]; exact ih
theorem KT.repl {H : Hp} {kvs : List (List Key × V)} {xs : List (List Key × Addr × Value)} (r : KT H kvs xs) (k : List Key) {y : V} {u : Value} (ry : RelV y u) :
    KT H (kvs.map fun kv => if kv.1 = k then (kv.1, y) else kv) (xs.map (putAt k u)) := by
  induction r with
  | nil => exact .nil
  | @cons p q ps qs h t ih =>
    rw [List.map_cons, List.map_cons]
    refine .cons ?_ ih
    obtain ⟨h1, h2, h3⟩ := h
    unfold putAt
    by_cases e : p.1 = k
    · rw [if_pos e, if_pos (h1.symm.trans e)]; exact ⟨h1, h2, ry⟩
    · rw [if_neg e, if_neg (fun z => e (h1.trans z))]; exact ⟨h1, h2, h3⟩
theorem KT.put {H : Hp} {kvs : List (List Key × V)} {xs : List (List Key × Addr × Value)} (r : KT H kvs xs) (k : List Key) {b : Addr} {y : V} {u : Value} (hb : H b = some (.tup (k.map kV))) (ry : RelV y u) :
    KT H (putK kvs k y) (storedH xs k b u) := by
  have e : (kvs.any fun kv => decide (kv.1 = k)) = (atKey xs k).isSome := by
    rw [valV_any, (r.val k).isSome_eq, Option.isSome_map]
  unfold putK storedH
  rw [e]
  by_cases q : (atKey xs k).isSome = true
  · rw [if_pos q, if_pos q]; exact r.repl k ry
  · rw [if_neg q, if_neg q]; exact Paired.snoc r ⟨rfl, hb, ry⟩
theorem KT.keeps {H H' : Hp} {kvs : List (List Key × V)} {xs : List (List Key × Addr × Value)} (r : KT H kvs xs) (ht : ∀ b ys, H b = some (.tup ys) → H' b = some (.tup ys)) : KT H' kvs xs :=
  Paired.mapP r fun _ _ z => ⟨z.1, ht _ _ z.2.1, z.2.2⟩
section
variable {P : Program} {w : World} {H : Hp} {h : Heap} {a : Addr}
theorem rd_of {u : HO} (ok : HOk P w H h) (e : Rd H a u) : ObjOk P w H h a u := e.ok ok
theorem dk_rd {kvs : List (Key × V)} (ok : HOk P w H h) (e : Rd H a (.dK kvs)) : kvs.length ≤ sizeLine ∧ (a == sysModules) = false ∧ ∃ vs, KV kvs vs ∧ h.DictOf (mixKind P w) a vs :=
  show ObjOk P w H h a (.dK kvs) from rd_of ok e
theorem dk_of {kvs : List (Key × V)} (ok : HOk P w H h) (e : H a = some (.dK kvs)) : kvs.length ≤ sizeLine ∧ (a == sysModules) = false ∧ ∃ vs, KV kvs vs ∧ h.DictOf (mixKind P w) a vs := dk_rd ok (.inl e)
theorem key_of {ks : List Key} (ok : HOk P w H h) (e : H a = some (.tup (ks.map kV))) : (tupleKind (mixKind P w)).is h ks a := by
  obtain ⟨_, its, r, o, h1, h2, n, h3⟩ := (show ObjOk P w H h a (.tup (ks.map kV)) from ok a _ e)
  exact ⟨o, its.toArray, n, h1, h2, h3, by simpa using items_are r⟩
theorem dt_rd {kvs : List (List Key × V)} (ok : HOk P w H h) (e : Rd H a (.dT kvs)) : kvs.length ≤ sizeLine ∧ (a == sysModules) = false ∧
    ∃ xs, KT H kvs xs ∧ h.DictOfH (tupleKind (mixKind P w)) a xs := by
  obtain ⟨z, y, xs, r, o, es, ep, h1, h2, h3, h4, h5⟩ := (show ObjOk P w H h a (.dT kvs) from rd_of ok e)
  refine ⟨z, y, xs, r, o, es, ep, h1, h2, h3, h4, fun x hx => ?_, h5⟩
  have all : ∀ {l : List (List Key × V)} {m : List (List Key × Addr × Value)}, KT H l m → ∀ x ∈ m, (tupleKind (mixKind P w)).is h x.1 x.2.1 := by
    intro l m q
    induction q with
    | nil => intro x hx; exact nomatch hx
    | @cons p q ps qs hq t ih =>
      intro x hx
      rcases List.mem_cons.mp hx with e | hx
      · subst e
        exact key_of ok (by rw [← hq.1]; exact hq.2.1)
      · exact ih x hx
  exact all r x hx
theorem dt_of {kvs : List (List Key × V)} (ok : HOk P w H h) (e : H a = some (.dT kvs)) : kvs.length ≤ sizeLine ∧ (a == sysModules) = false ∧
    ∃ xs, KT H kvs xs ∧ h.DictOfH (tupleKind (mixKind P w)) a xs := dt_rd ok (.inl e)
end
def DGet (H : Hp) (a : Addr) (y : V) (r : Option V) : Prop :=
  (∃ kvs k, Rd H a (.dK kvs) ∧ y = kV k ∧ r = valV kvs k) ∨ ∃ kvs k b, Rd H a (.dT kvs) ∧ y = .ref b ∧ H b = some (.tup (k.map kV)) ∧ r = valV kvs k
def DPut (H : Hp) (a : Addr) (y v : V) (H' : Hp) : Prop :=
  (∃ kvs k, H a = some (.dK kvs) ∧ y = kV k ∧ kvs.length < sizeLine ∧ H' = upd H a (.dK (putK kvs k v))) ∨
  ∃ kvs k b, H a = some (.dT kvs) ∧ y = .ref b ∧ H b = some (.tup (k.map kV)) ∧ kvs.length < sizeLine ∧ H' = upd H a (.dT (putK kvs k v))
theorem DGet.k {H : Hp} {a : Addr} {kvs : List (Key × V)} {k : Key} (e : H a = some (.dK kvs)) : DGet H a (kV k) (valV kvs k) := .inl ⟨kvs, k, .inl e, rfl, rfl⟩
theorem DPut.k {H : Hp} {a : Addr} {kvs : List (Key × V)} {k : Key} {v : V} (e : H a = some (.dK kvs)) (hl : kvs.length < sizeLine) : DPut H a (kV k) v (upd H a (.dK (putK kvs k v))) := .inl ⟨kvs, k, e, rfl, hl, rfl⟩
section
variable {X : Cx} {pins : List (Addr × Obj)} {σ : St} {H : Hp} {s : Shared} {a : Addr} {y v : V} {u r : Value} {o : Option V} {A : Around} {E : Value → Shared → Prop}
theorem Inv.big (I : Inv X pins σ H s) : sysModules < s.heap.objs.size := by
  have h : mainGlobals < s.heap.objs.size := (I.mod.glob.keeps I.bk).lt
  exact Nat.lt_trans (by decide) h
theorem d_getItem {Q : Value → Shared → Prop} (hu : A.units + 1 < cLine) (I : Inv X pins σ H s) (g : DGet H a y (some v)) (ry : RelV y u) (h : ∀ w' s', Inv X pins σ H s' → RelV v w' → Q w' s') :
    wpAny (model X.prog X.w) A (getItem (.ref a) u) Q E s := by
  rcases g with ⟨kvs, k, e, ey, l⟩ | ⟨kvs, k, b, e, ey, eb, l⟩
  · subst ey
    obtain ⟨z, hd, vs, rel, dd⟩ := dk_rd I.hok e
    obtain ⟨w', hw, rw'⟩ := RelO.some_of (v := v) (o := valueAt vs k) (by rw [l]; exact rel.val k)
    exact wpAny_getItem_of (kV_is ry) dd.mapOf hw (h w' _ (I.tok _) rw')
  · subst ey
    cases (show u = Value.ref b from ry)
    obtain ⟨z, hd, xs, rel, dd⟩ := dt_rd I.hok e
    obtain ⟨w', hw, rw'⟩ := RelO.some_of (v := v) (o := (atKey xs k).map (·.2)) (by rw [l]; exact rel.val k)
    obtain ⟨p, hp, hp2⟩ := Option.map_eq_some_iff.mp hw
    refine wpAny_getItem_heap (tupleKind_room_in1 hu) (key_of I.hok eb) dd hp ?_
    rw [hp2]
    exact h w' _ (I.tok _) rw'
theorem d_in {Q : Value → Shared → Prop} (hu : A.units + 1 < cLine) (I : Inv X pins σ H s) (g : DGet H a y o) (ry : RelV y u) (h : ∀ s', Inv X pins σ H s' → Q (.bool o.isSome) s') :
    wpAny (model X.prog X.w) A (compareOp .In u (.ref a)) Q E s := by
  rcases g with ⟨kvs, k, e, ey, l⟩ | ⟨kvs, k, b, e, ey, eb, l⟩
  · subst ey
    obtain ⟨z, hd, vs, rel, dd⟩ := dk_rd I.hok e
    refine wpAny_in_of (kV_is ry) hd dd.mapOf ?_
    rw [← (rel.val k).isSome_eq, ← l]
    exact h _ (I.tok _)
  · subst ey
    cases (show u = Value.ref b from ry)
    obtain ⟨z, hd, xs, rel, dd⟩ := dt_rd I.hok e
    refine wpAny_in_heap (tupleKind_room_in1 hu) (key_of I.hok eb) hd dd ?_
    have q := (rel.val k).isSome_eq
    rw [Option.isSome_map] at q
    rw [← q, ← l]
    exact h _ (I.tok _)
theorem d_notIn {Q : Value → Shared → Prop} (hu : A.units + 1 < cLine) (I : Inv X pins σ H s) (g : DGet H a y o) (ry : RelV y u) (h : ∀ s', Inv X pins σ H s' → Q (.bool (!o.isSome)) s') :
    wpAny (model X.prog X.w) A (compareOp .NotIn u (.ref a)) Q E s := by
  rcases g with ⟨kvs, k, e, ey, l⟩ | ⟨kvs, k, b, e, ey, eb, l⟩
  · subst ey
    obtain ⟨z, hd, vs, rel, dd⟩ := dk_rd I.hok e
    refine wpAny_notIn_of (kV_is ry) hd dd.mapOf ?_
    rw [← (rel.val k).isSome_eq, ← l]
    exact h _ (I.tok _)
  · subst ey
    cases (show u = Value.ref b from ry)
    obtain ⟨z, hd, xs, rel, dd⟩ := dt_rd I.hok e
    refine wpAny_notIn_heap (tupleKind_room_in1 hu) (key_of I.hok eb) hd dd ?_
    have q := (rel.val k).isSome_eq
    rw [Option.isSome_map] at q
    rw [← q, ← l]
    exact h _ (I.tok _)
theorem d_write {h' : Heap} {t' : Nat} {ob : HO} (I : Inv X pins σ H s) (mu : Mut (H a)) (hs : Heap.SameBut a s.heap h') (he : ∃ q, h'.get? a = some q) (new : ObjOk X.prog X.w (upd H a ob) h' a ob) :
    Inv X pins σ (upd H a ob) { s with heap := h', toks := t' } :=
  I.write (x := a) (e := a) mu (.inl rfl) (fun b q hb z => (hs.2 b hb).trans z) he new
theorem dk_new {P : Program} {w : World} {H' : Hp} {h' : Heap} {kvs : List (Key × V)} {vs : List (Key × Value)} (z : kvs.length ≤ sizeLine) (hd : (a == sysModules) = false) (rel : KV kvs vs) (dd : h'.DictOf (mixKind P w) a vs) :
    ObjOk P w H' h' a (.dK kvs) := ⟨z, hd, vs, rel, dd⟩
theorem d_setItem {H' : Hp} {Q : Unit → Shared → Prop} (hu : A.units + 1 < cLine) (I : Inv X pins σ H s) (g : DPut H a y v H') (ry : RelV y u) (rv : RelV v r) (h : ∀ s', Inv X pins σ H' s' → Q () s') :
    wpAny (model X.prog X.w) A (setItem (.ref a) u r) Q E s := by
  rcases g with ⟨kvs, k, e, ey, l, eH⟩ | ⟨kvs, k, b, e, ey, eb, l, eH⟩
  · subst ey eH
    obtain ⟨z, hd, vs, rel, dd⟩ := dk_of I.hok e
    have hz : vs.length ≤ sizeLine := by rw [← rel.length]; exact z
    have hl : (putK kvs k v).length ≤ sizeLine := by have := length_putK kvs k v; omega
    refine wpAny_setItem_pairs (hsz := hz) (kV_is ry) dd fun h' dd' hs => h _ ?_
    have he : ∃ q, h'.get? a = some q := let ⟨q, _, _, hq, _⟩ := dd'; ⟨q, hq⟩
    exact d_write I (by rw [e]; exact True.intro) hs he (dk_new hl hd (rel.put k rv) dd')
  · subst ey eH
    cases (show u = Value.ref b from ry)
    obtain ⟨z, hd, xs, rel, dd⟩ := dt_of I.hok e
    have hz : xs.length ≤ sizeLine := by rw [← Paired.length rel]; exact z
    have hl : (putK kvs k v).length ≤ sizeLine := by have := length_putK kvs k v; omega
    refine wpAny_setItem_heap (hsz := hz) (tupleKind_room_in1 hu) (key_of I.hok eb) dd fun h' dd' hs => h _ ?_
    obtain ⟨q, es, ep, hq, h2, h3, h4, _, h5⟩ := dd'
    refine d_write I (by rw [e]; exact True.intro) hs ⟨q, hq⟩ ⟨hl, hd, _, (rel.put k eb rv).keeps fun c ys ec => ?_, q, es, ep, hq, h2, h3, h4, h5⟩
    rw [upd_ne (ne_of ec e (fun z => nomatch z))]
    exact ec
end
section
variable {X : Cx} {pins : List (Addr × Obj)} {σ : St} {H : Hp} {s : Shared} {a : Addr} {kvs : List (Key × V)} {k : Key} {u : Value} {A : Around} {E : Value → Shared → Prop}
theorem d_len {Q : Value → Shared → Prop} (I : Inv X pins σ H s) (e : Rd H a (.dK kvs)) (h : ∀ t s', Inv X pins σ H s' → Q (.int kvs.length t) s') : wpAny (model X.prog X.w) A (call (.builtin "len") [.ref a]) Q E s := by
  obtain ⟨z, hd, vs, rel, dd⟩ := dk_rd I.hok e
  refine call_len_dict hd dd (by rw [← rel.length]; rw [sizeLine_eq] at z; omega) ?_
  rw [← rel.length]
  exact h _ _ (I.tok _)
end
def NoSl (i : Expr) : Prop := ∀ ov iv, subscripted i false ov iv = operate [ov, iv] (getItem ov iv)
theorem subD_of {prog : Program} {w : World} {A : Around} {E : Value → Shared → Prop} {s : Shared} {env : Env} {value slice : Expr} {pos : Pos} {T id : String} {Q : Value → Shared → Prop}
    (hl : typeLookup (.type T) "__getitem__" = pure (some (.builtin id))) (hs : NoSl slice)
    (h : wpAny (model prog w) A (eval value env) (fun o s₁ => wpAny (model prog w) A (eval slice env) (fun i s₂ => s₂.TypeIs o T ∧ wpAny (model prog w) A (getItem o i) Q E s₂) E s₁) E s) :
    wpAny (model prog w) A (eval (.Subscript value slice pos) env) Q E s := by
  refine Subscript_ (wpAny_mono h (fun o s₁ h₁ => wpAny_mono h₁ (fun i s₂ h₂ => ?_) fun _ _ x => x) fun _ _ x => x)
  obtain ⟨hT, h₂⟩ := h₂
  unfold subscriptTail
  refine wpAny_bind ?_
  rw [getitemInPython_of_ne hT.not_modules]
  refine wpAny_bind (wpAny_specialOf hT hl ?_)
  have fin : wpAny (model prog w) A (subscripted slice false o i) (fun r s₃ => wpAny (model prog w) A (letTemporaryGo value o r >>= fun _ => pure r) Q E s₃) E s₂ := by
    rw [hs o i]
    exact wpAny_operating (wpAny_mono h₂ (fun r s₃ h₃ => wpAny_bind (wpAny_letTemporaryGo (wpAny_pure h₃))) fun _ _ x => x)
  first
    | exact wpAny_pure (wpAny_bind fin)
    | exact wpAny_bind (wpAny_pure (wpAny_bind fin))
    | exact wpAny_bind fin
theorem dict_typeIs {X : Cx} {pins : List (Addr × Obj)} {σ : St} {H : Hp} {s : Shared} {a : Addr} {y : V} {o : Option V} (I : Inv X pins σ H s) (g : DGet H a y o) : s.TypeIs (.ref a) "dict" := by
  rcases g with ⟨kvs, k, e, _, _⟩ | ⟨kvs, k, b, e, _, _, _⟩
  · obtain ⟨_, _, vs, _, dd⟩ := dk_rd I.hok e
    exact dd.typeIs
  · obtain ⟨_, _, xs, _, dd⟩ := dt_rd I.hok e
    exact dd.typeIs
def tDGet (td ty : TE) : TE := fun σ H Q => td σ H fun x H1 => ty σ H1 fun y H2 => ∃ a v, x = .ref a ∧ DGet H2 a y (some v) ∧ Q v H2
def tDIn (ty td : TE) : TE := fun σ H Q => ty σ H fun y H1 => td σ H1 fun x H2 => ∃ a o, x = .ref a ∧ DGet H2 a y o ∧ Q (.bl o.isSome) H2
def tDNotIn (ty td : TE) : TE := fun σ H Q => ty σ H fun y H1 => td σ H1 fun x H2 => ∃ a o, x = .ref a ∧ DGet H2 a y o ∧ Q (.bl (!o.isSome)) H2
def sDPut (td ty tv : TE) : TS := fun D σ H => tv σ H fun v H1 => td σ H1 fun x H2 => ty σ H2 fun y H3 => ∃ a H4, x = .ref a ∧ DPut H3 a y v H4 ∧ D.nx σ H4
section
variable {X : Cx} {o i e value : Expr} {pos pos' tpos : Pos} {td ty tv : TE}
theorem pe_dget (hu : X.A.units + 1 < cLine) (ho : PE X o td) (hi : PE X i ty) (hs : NoSl i) : PE X (.Subscript o i pos) (tDGet td ty) := by
  intro pins s σ H Q I h
  refine subD_of PySem.F.slot_dict_getitem.lookup hs (thn (ho pins s σ H _ I h) fun u s1 ⟨x, H1, I1, rx, q1⟩ => thn (hi pins s1 σ H1 _ I1 q1) fun iv s2 ⟨y, H2, I2, ry, a, v, ex, g, q2⟩ => ?_)
  subst ex
  obtain rfl : u = Value.ref a := rx
  exact ⟨dict_typeIs I2 g, d_getItem hu I2 g ry fun w' s3 I3 rw' => ⟨v, H2, I3, rw', q2⟩⟩
theorem pc_din (hu : X.A.units + 1 < cLine) (hi : PE X i ty) (ho : PE X o td) : PC X .In i o (tDIn ty td) := by
  intro pins s σ H Q I h
  refine thn (hi pins s σ H _ I h) fun iv s1 ⟨y, H1, I1, ry, q1⟩ => thn (ho pins s1 σ H1 _ I1 q1) fun u s2 ⟨x, H2, I2, rx, a, ov, ex, g, q2⟩ => ?_
  subst ex
  obtain rfl : u = Value.ref a := rx
  exact d_in hu I2 g ry fun s3 I3 => ⟨.bl ov.isSome, H2, I3, rfl, q2⟩
theorem pc_dnotin (hu : X.A.units + 1 < cLine) (hi : PE X i ty) (ho : PE X o td) : PC X .NotIn i o (tDNotIn ty td) := by
  intro pins s σ H Q I h
  refine thn (hi pins s σ H _ I h) fun iv s1 ⟨y, H1, I1, ry, q1⟩ => thn (ho pins s1 σ H1 _ I1 q1) fun u s2 ⟨x, H2, I2, rx, a, ov, ex, g, q2⟩ => ?_
  subst ex
  obtain rfl : u = Value.ref a := rx
  exact d_notIn hu I2 g ry fun s3 I3 => ⟨.bl (!ov.isSome), H2, I3, rfl, q2⟩
theorem ps_dput (hu : X.A.units + 1 < cLine) (ho : PE X o td) (hi : PE X i ty) (hv : PE X value tv) (hs : swapsWith value (some (.Subscript o i pos')) pos.line X.env = pure false) :
    PS X (.Assign [.Subscript o i pos'] value pos) (sDPut td ty tv) := by
  intro pins s σ H D I h
  refine wpAny_Assign_Subscript (thn (hv pins s σ H _ I h) fun r s1 ⟨v, H1, I1, rv, q1⟩ => thn (ho pins s1 σ H1 _ I1 q1) fun u s2 ⟨x, H2, I2, rx, q2⟩ => thn (hi pins s2 σ H2 _ I2 q2) fun iv s3 ⟨y, H3, I3, ry, a, H4, ex, g, q3⟩ => ?_) hs
  subst ex
  obtain rfl : u = Value.ref a := rx
  exact d_setItem hu I3 g ry rv fun s4 I4 => ⟨σ, H4, I4, q3⟩
end
theorem dk_empty {P : Program} {w : World} {H : Hp} (h : Heap) (hb : sysModules < h.objs.size) : ObjOk P w H (h.push { cls := .type "dict", data := .dict #[] }) h.objs.size (.dK []) :=
  ⟨Nat.zero_le _, beq_eq_false_iff_ne.mpr (Ne.symm (Nat.ne_of_lt hb)), [], .nil, Heap.DictOf.new h⟩
def tDNewK : TE := fun _ H Q => ∀ p, H p = none → Q (.ref p) (upd H p (.dK []))
section
variable {X : Cx} {pos : Pos}
theorem pe_dnewK : PE X (.Dict [] [] pos) tDNewK := fun pins s σ H Q I h =>
  wpAny_Dict_empty ⟨.ref s.heap.objs.size, _, I.laid (a := s.heap.objs.size) (o := .dK []) (t' := s.toks) (fun _ _ q => Heap.get?_push_of_some _ q) (Nat.le_refl _) (dk_empty s.heap I.big), rfl, h _ (I.hok.fresh (Nat.le_refl _))⟩
end
def tPairs : List (TE × TE) → St → Hp → (List (V × V) → Hp → Prop) → Prop
  | [], _, H, Q => Q [] H
  | (tk, tv) :: r, σ, H, Q => tk σ H fun x H1 => tv σ H1 fun y H2 => tPairs r σ H2 fun ps H3 => Q ((x, y) :: ps) H3
abbrev VV : List (V × V) → List (Value × Value) → Prop := Paired fun p q => RelV p.1 q.1 ∧ RelV p.2 q.2
def PPs (X : Cx) (pos : Pos) (keys : List (Option Expr)) (values : List Expr) (trs : List (TE × TE)) : Prop :=
  ∀ (pins : List (Addr × Obj)) (s : Shared) (σ : St) (H : Hp) (Q : List (V × V) → Hp → Prop), Inv X pins σ H s → tPairs trs σ H Q →
    wpAny (model X.prog X.w) X.A (evalPairs (pairTrees keys values X.env pos)) (fun vs s' => ∃ ps H', Inv X pins σ H' s' ∧ VV ps vs ∧ Q ps H') X.xe s
theorem pps_nil {X : Cx} {pos : Pos} : PPs X pos [] [] [] := fun pins s σ H Q I h => pairTrees_nil_walk ⟨[], H, I, .nil, h⟩
theorem pps_cons {X : Cx} {pos : Pos} {k v : Expr} {ks : List (Option Expr)} {vs : List Expr} {tk tv : TE} {trs : List (TE × TE)} (hk : PE X k tk) (hv : PE X v tv) (hr : PPs X pos ks vs trs) :
    PPs X pos (some k :: ks) (v :: vs) ((tk, tv) :: trs) := fun pins s σ H Q I h =>
  pairTrees_cons_walk (thn (hk pins s σ H _ I h) fun u s1 ⟨x, H1, I1, rx, q1⟩ => thn (hv pins s1 σ H1 _ I1 q1) fun w2 s2 ⟨y, H2, I2, ry, q2⟩ =>
    thn (hr pins s2 σ H2 _ I2 q2) fun ws s3 ⟨ps, H3, I3, rel, q3⟩ => ⟨(x, y) :: ps, H3, I3, .cons ⟨rx, ry⟩ rel, q3⟩)
def mergeK (kvs more : List (Key × V)) : List (Key × V) := more.foldl (fun acc kv => putK acc kv.1 kv.2) kvs
theorem KV.merge : ∀ {more : List (Key × V)} {rs : List (Key × Value)} {kvs : List (Key × V)} {vs : List (Key × Value)}, KV more rs → KV kvs vs → KV (mergeK kvs more) (merged vs rs) := by
  intro more rs kvs vs r
  unfold KV at r
  induction r generalizing kvs vs with
  | nil => intro q; exact q
  | @cons p q ps qs h t ih =>
    intro r0
    have e : KV (putK kvs p.1 p.2) (stored vs q.1 q.2) := by
      have := r0.put p.1 h.2
      rw [← h.1]; exact this
    exact ih e
theorem length_mergeK : ∀ (more kvs : List (Key × V)), (mergeK kvs more).length ≤ kvs.length + more.length
  | [], kvs => by show kvs.length ≤ kvs.length + 0; omega
  | p :: r, kvs => by
    have h1 := length_mergeK r (putK kvs p.1 p.2)
    have h2 := length_putK kvs p.1 p.2
    show (mergeK (putK kvs p.1 p.2) r).length ≤ _
    rw [List.length_cons]; omega
theorem carries_of {P : Program} {w : World} : ∀ {kvs : List (Key × V)} {ws : List (Value × Value)}, VV (kvs.map fun kv => (kV kv.1, kv.2)) ws → ∃ rs, Carries (mixKind P w) ws rs ∧ KV kvs rs
  | [], _, r => by rw [List.map_nil] at r; cases r; exact ⟨[], True.intro, .nil⟩
  | p :: kvs, _, r => by
    rw [List.map_cons] at r
    cases r with
    | @cons a b as bs h t =>
      obtain ⟨rs, c, q⟩ := carries_of (P := P) (w := w) t
      obtain ⟨b1, b2⟩ := b
      exact ⟨(p.1, b2) :: rs, ⟨kV_is h.1, rfl, c⟩, .cons ⟨rfl, h.2⟩ q⟩
def tDisp (trs : List (TE × TE)) : TE := fun σ H Q => ∀ p, H p = none → tPairs trs σ (upd H p (.dK [])) fun ps H2 => H2 p = some (.dK []) ∧ ∃ kvs : List (Key × V), ps = kvs.map (fun kv => (kV kv.1, kv.2)) ∧ kvs.length ≤ 15 ∧ Q (.ref p) (upd H2 p (.dK (mergeK [] kvs)))
theorem pe_disp {X : Cx} {pos : Pos} {keys : List (Option Expr)} {values : List Expr} {trs : List (TE × TE)} (h : PPs X pos keys values trs) (hall : keys.all (·.isSome) = true) (hl : keys.length = values.length) (h0 : keys ≠ [])
    (h15 : keys.length ≤ 15) : PE X (.Dict keys values pos) (tDisp trs) := by
  intro pins s σ H Q I q
  have hn := I.hok.fresh (Nat.le_refl s.heap.objs.size)
  have I1 := I.laid (a := s.heap.objs.size) (o := .dK []) (h' := s.heap.push { cls := .type "dict", data := .dict #[] }) (t' := s.toks) (fun _ _ q => Heap.get?_push_of_some _ q) (Nat.le_refl _) (dk_empty s.heap I.big)
  refine wpAny_Dict_walk (knd := mixKind X.prog X.w) hall hl h0 h15 (thn (h pins _ σ _ _ I1 (q _ hn)) fun ws s2 ⟨ps, H2, I2, rel, e, kvs, ep, lk, q2⟩ => ?_)
  subst ep
  obtain ⟨rs, c, rk⟩ := carries_of (P := X.prog) (w := X.w) rel
  obtain ⟨z, hd, vs0, r0, dd⟩ := dk_of I2.hok e
  cases r0
  refine ⟨rs, c, dd, fun h' dd' hs => ⟨.ref s.heap.objs.size, _, ?_, rfl, q2⟩⟩
  have hz : (mergeK [] kvs).length ≤ sizeLine := by
    have h1 := length_mergeK kvs []
    rw [List.length_nil] at h1
    rw [sizeLine_eq]; omega
  have he : ∃ q, h'.get? s.heap.objs.size = some q := let ⟨q, _, _, hq, _⟩ := dd'; ⟨q, hq⟩
  exact d_write I2 (by rw [e]; exact True.intro) hs he (dk_new hz hd (rk.merge .nil) dd')
structure M1 (X : Cx) (o : Expr) (m : Str) (apos : Pos) (e : Expr) (cpos : Pos) : Prop where
  base : attributeBase o m X.env (eval o X.env) = eval o X.env
  few : ((backTo cpos (starEach [e] X.env)).all (fun x => !x.1) && (backToKw cpos (keywordEach [] X.env)).all (fun x => x.1.isSome)
    && decide (([e] : List Expr).length + ([] : List Keyword).length + (if ([] : List Keyword).isEmpty then 0 else 1) < 30)) = true
  line : (apos.endLine == cpos.line) = true
  trees : backTo cpos (starEach [e] X.env) = [(false, eval e X.env)]
structure M2 (X : Cx) (o : Expr) (m : Str) (apos : Pos) (e f : Expr) (cpos : Pos) : Prop where
  base : attributeBase o m X.env (eval o X.env) = eval o X.env
  few : ((backTo cpos (starEach [e, f] X.env)).all (fun x => !x.1) && (backToKw cpos (keywordEach [] X.env)).all (fun x => x.1.isSome)
    && decide (([e, f] : List Expr).length + ([] : List Keyword).length + (if ([] : List Keyword).isEmpty then 0 else 1) < 30)) = true
  line : (apos.endLine == cpos.line) = true
  trees : backTo cpos (starEach [e, f] X.env) = [(false, eval e X.env), (false, eval f X.env)]
section
variable {X : Cx} {pins : List (Addr × Obj)} {σ : St} {H : Hp} {s : Shared} {a : Addr} {y d : V} {u r : Value} {o : Option V} {A : Around} {E : Value → Shared → Prop}
end
section
variable {X : Cx} {o e f : Expr} {apos cpos : Pos} {td ty tx : TE}
end
section
variable {X : Cx} {pins : List (Addr × Obj)} {σ : St} {H : Hp} {s : Shared} {a : Addr} {kvs : List (Key × V)} {A : Around} {E : Value → Shared → Prop}
end
section
variable {X : Cx} {pins : List (Addr × Obj)} {σ : St} {H : Hp} {s : Shared} {a : Addr} {y : V} {u : Value} {A : Around} {E : Value → Shared → Prop}
end
end L2
namespace L2
open PySem PySem.Spec PyProof.Rows
section
variable {X : Cx}
theorem call_lenD : CallR X (.builtin "len") (fun xs H Q => ∃ a kvs, xs = [V.ref a] ∧ H a = some (.dK kvs) ∧ Q (.int kvs.length) H) := by
  intro pins s σ H xs us Q I r h
  obtain ⟨a, kvs, rfl, ha, q⟩ := h
  obtain ⟨u, rfl, ru⟩ := vals1 r
  cases ru
  exact d_len I (.inl ha) fun t s' I' => ⟨.int kvs.length, H, I', ⟨t, rfl⟩, q⟩
end
section
variable {κ : Type} [DecidableEq κ]
end
end L2
namespace L2
open PySem PySem.Spec PyProof.Rows
theorem Inv.turnedLay {X : Cx} {pins : List (Addr × Obj)} {σ : St} {H : Hp} {s : Shared} {h' : Heap} {ch : List Addr} {a : Addr} {o : HO} {t' : Nat} (I : Inv X pins σ H s) (hf : ∀ b ∈ ch, FpOk X pins H b)
    (k : ∀ b u, b ∉ ch → s.heap.get? b = some u → h'.get? b = some u) (hp : s.heap.objs.size ≤ a) (new : ObjOk X.prog X.w (upd H a o) h' a o) : Inv X pins σ (upd H a o) { s with heap := h', toks := t' } := by
  have hn : H a = none := I.hok.fresh hp
  have nch : ∀ b u, H b = some u → b ∉ ch := fun b u e z => by rw [(hf b z).1] at e; cases e
  have nea : ∀ b u, H b = some u → b ≠ a := fun b u e => ne_of_none e hn
  refine I.step (g' := s.gens) (d' := s.drawn) (ch := ch) (fun b hb => ?_) (fun b o _ _ hc e _ => k b o hc e) (fun b o _ _ hc e _ => ⟨o.slots, k b o hc e⟩) (fun b u _ e n => ?_) (fun b o hc e => ⟨o, k b o hc e⟩)
    (fun b xs e => by rw [upd_ne (nea b _ e)]; exact e) (fun b ob xs e => by rw [upd_ne (nea b _ e)]; exact e) (fun b ps e => ⟨#[], by rw [upd_ne (nea b _ e), e]; simp⟩) (fun m hm => ?_) (fun b u e => ?_) I.bare
  · obtain ⟨_, f1, _, f3, f4, f5⟩ := hf b hb
    exact ⟨f3, f1, f4, f5⟩
  · rw [upd_ne (Nat.ne_of_lt (Nat.lt_of_lt_of_le (Heap.lt_size e) hp))]
    exact n
  · obtain ⟨ob, es, ep, ho, r⟩ := hm
    exact ⟨ob, es, ep, k _ ob (fun z => (hf _ z).2.1 rfl) ho, r⟩
  · by_cases hb : b = a
    · subst hb
      rw [upd_same] at e
      cases e
      exact new
    · rw [upd_ne hb] at e
      refine (I.hok b u e).stay (fun c v hc q => k c v ?_ q) (fun c q => by rw [upd_ne (nea c _ q)]; exact q) fun c xs q => by rw [upd_ne (nea c _ q)]; exact q
      rcases hc with z | z
      · rw [z]; exact nch b u e
      · exact nch c _ z
def Ite (K : PySem.W.Frag) (a : Addr) : It :=
  ⟨fun i H => ∃ xs x, SqL K H a xs ∧ xs[i]? = some x, fun i H x H' => ∃ t y, x = .ref t ∧ H t = none ∧ H' = upd H t (.tup [.int (i : Int), y]) ∧ ∀ xs, SqL K H a xs → xs[i]? = some y, fun i H => ∃ xs, SqL K H a xs ∧ xs.length ≤ i⟩
theorem turn_enum {P : Program} {w : World} {K : PySem.W.Frag} {es : List Expr} {k1 : Nat} {pos : Pos} (a e it : Addr) (hne : e ≠ it) :
    Turn P w K (.Tuple es k1 pos) (Ite K a) [e, it] e (fun i h => (∃ old, IsEnum h e it i old) ∧ h.IsListIter it a i) where
  mem := by simp
  obj := fun i h st b hb => by
    obtain ⟨⟨old, st1⟩, st2⟩ := st
    rcases List.mem_cons.mp hb with z | z
    · subst z
      exact ⟨_, st1, fun v z => by
        have z' : Data.fields _ = Data.cell v := z
        cases z'⟩
    · have z' : b = it := by simpa using z
      subst z'
      obtain ⟨o, e, c, d⟩ := st2
      exact ⟨o, e, fun v z => by rw [d] at z; cases z⟩
  keep := fun i h h' st k => ⟨let ⟨old, s1⟩ := st.1; ⟨old, k e (by simp) _ s1⟩, st.2.at fun o q => k it (by simp) o q⟩
  item := by
    intro X hP hw hK hc i pins s σ H E I hf st hg
    subst hP hw hK
    obtain ⟨⟨old, st1⟩, st2⟩ := st
    obtain ⟨xs, x, hq, hx⟩ := hg
    obtain ⟨its, rv, p, hz⟩ := I.list hq
    obtain ⟨u, hu, ru⟩ := rv.get hx
    refine wpAny_pyNext_enum_item st1 st2 p.isList (x := u) (by simpa using hu) hne fun h' o1 o2 o3 o4 kk => ⟨_, rfl, ?_⟩
    refine wpAny_letOwnedTupleGo_enum (s := { s with heap := h', toks := s.toks + 1 }) o1 fun h'' e1 sb => ?_
    have hel : e < s.heap.objs.size := Heap.lt_size st1
    have hil : it < s.heap.objs.size := by obtain ⟨o, z, _⟩ := st2; exact Heap.lt_size z
    have sb' : Heap.SameBut e h' h'' := sb
    refine ⟨.ref s.heap.objs.size, _, I.turnedLay (ch := [e, it]) (o := .tup [.int (i : Int), x]) (t' := s.toks + 1) hf (fun b ob hb q => ?_) (Nat.le_refl _) ?_, rfl, ⟨_, x, rfl, I.hok.fresh (Nat.le_refl _), rfl, fun ys hy => by rw [I.list_inj hy hq]; exact hx⟩, ⟨⟨u, e1⟩, ?_⟩, fun b hb => ?_⟩
    · have n1 : b ≠ e := fun z => hb (by simp [z])
      have n2 : b ≠ it := fun z => hb (by simp [z])
      exact (sb'.2 b n1).trans (kk b ob n1 n2 q)
    · refine ⟨by show 2 ≤ sizeLine; rw [sizeLine_eq]; decide, [.int (i : Int) s.toks, u], .cons ⟨_, rfl⟩ (.cons ru .nil), _, (sb'.2 _ (Nat.ne_of_gt hel)).trans o3, rfl, _, rfl⟩
    · obtain ⟨o, z, r⟩ := o2
      exact ⟨o, (sb'.2 it (Ne.symm hne)).trans z, r⟩
    · have hb' : b < s.heap.objs.size := by
        rcases List.mem_cons.mp hb with z | z
        · rw [z]; exact hel
        · have z' : b = it := by simpa using z
          rw [z']; exact hil
      rw [upd_ne (Nat.ne_of_lt hb')]
      exact (hf b hb).1
  done := by
    intro X hP hw hK hc i pins s σ H E I hf st hg
    subst hP hw hK
    obtain ⟨⟨old, st1⟩, st2⟩ := st
    obtain ⟨xs, hq, hx⟩ := hg
    obtain ⟨its, rv, p, hz⟩ := I.list hq
    have hl := rv.length
    obtain ⟨f0, f1, f2, f3, f4, f5⟩ := hf it (by simp)
    exact wpAny_pyNext_enum_end (I.ok.hd hc) st1 st2 p.isList (by simp; omega) fun h' eb => ⟨rfl, I.turned (t' := s.toks) (fun b o hb q => eb b o hb q) f0 f1 f3 f4 f5⟩
  self := fun A i s Q E st h => by
    obtain ⟨⟨old, st1⟩, _⟩ := st
    exact wpAny_pyIter_enum st1 h
def iEnum (K : PySem.W.Frag) (ta : TA) : TI := fun σ H R => ta σ H fun vs H1 => ∃ a, vs = [.ref a] ∧ (∃ xs, SqL K H1 a xs) ∧ R (Ite K a) H1
section
variable {X : Cx}
theorem pi_enum {es : List Expr} {k1 : Nat} {tp : Pos} {a : Expr} {ta : TA} {p pos : Pos} (hg : Gl X "enumerate") (hm : X.mg "enumerate" = none) (ha : PA X [a] ta) (hs : starEach [a] X.env = [(false, eval a X.env)] := by rfl) : PI X (.Tuple es k1 tp) (.Call (.Name "enumerate" p) [a] [] pos) (iEnum X.K ta) := by
  intro pins s σ H R I h
  refine Call_ (ld_blt I hg hm boot_enumerate (PyProof.Rows.callWith_type1 (thn (ha pos pins s σ H _ I h) fun us s1 ⟨vs, H1, I1, r1, q1⟩ => ?_) hs rfl))
  obtain ⟨b, e, ⟨xs, hq⟩, q⟩ := q1
  subst e
  obtain ⟨u, rfl, ru⟩ := vals1 r1
  cases ru
  obtain ⟨its, rv, pl, hz⟩ := I1.list hq
  refine call_enumerate_list pl.isList fun h' e1 e2 e3 kk => ?_
  have I2 : Inv X pins σ H1 { s1 with heap := h' } := I1.kept (t' := s1.toks) kk
  refine wpAny_pyIter_enum (s := { s1 with heap := h' }) e1 ?_
  refine ⟨_, [s1.heap.objs.size + 1, s1.heap.objs.size], _, _, H1, rfl, I2, turn_enum b _ _ (Nat.ne_of_gt (Nat.lt_succ_self _)), ⟨⟨_, e1⟩, e2⟩, fun c hc => ?_, q⟩
  have hc' : s1.heap.objs.size ≤ c := by
    rcases List.mem_cons.mp hc with z | z
    · rw [z]; exact Nat.le_succ _
    · have z' : c = s1.heap.objs.size := by simpa using z
      rw [z']; exact Nat.le_refl _
  exact I1.fpOk hc' (I1.hok.fresh hc')
end
theorem for_enum {K : PySem.W.Frag} {a : Addr} {xs : List V} {g : TG} {tb : TS} {D : Ends} {σ : St} {H : Hp} (Pv : Nat → St → Hp → Prop) (h0 : Pv 0 σ H) (hl : ∀ i σ H, i ≤ xs.length → Pv i σ H → SqL K H a xs)
    (hs : ∀ i x σ H t, xs[i]? = some x → Pv i σ H → H t = none → g (.ref t) σ (upd H t (.tup [.int (i : Int), x])) fun σ2 H2 => tb { D with nx := Pv (i + 1), ct := Pv (i + 1), bk := D.nx } σ2 H2) (hd : ∀ σ H, Pv xs.length σ H → D.nx σ H) :
    ∃ W : Nat → Nat → St → Hp → Prop, (∃ m, W 0 m σ H) ∧ ∀ i m σ H, W i m σ H →
      ((Ite K a).stop i H ∧ D.nx σ H) ∨ ((Ite K a).go i H ∧ ∃ N : St → Hp → Prop, (∀ σ' H', N σ' H' → ∃ m', m' < m ∧ W (i + 1) m' σ' H') ∧ ∀ x H', (Ite K a).yld i H x H' → g x σ H' fun σ2 H2 => tb { D with nx := N, ct := N, bk := D.nx } σ2 H2) := by
  refine ⟨fun i m σ H => m = xs.length - i ∧ i ≤ xs.length ∧ Pv i σ H, ⟨xs.length, by simp, Nat.zero_le _, h0⟩, ?_⟩
  rintro i m σ H ⟨rfl, hi, p⟩
  have q := hl i σ H hi p
  by_cases hlt : i < xs.length
  · refine .inr ⟨⟨xs, xs[i], q, by simp [hlt]⟩, Pv (i + 1), fun σ' H' p' => ⟨xs.length - (i + 1), by omega, rfl, hlt, p'⟩, fun x H' y => ?_⟩
    obtain ⟨t, z, rfl, ht, rfl, y⟩ := y
    exact hs i z σ H t (y xs q) p ht
  · have e : i = xs.length := by omega
    subst e
    exact .inl ⟨⟨xs, q, Nat.le_refl _⟩, hd σ H p⟩
end L2
namespace Ink
inductive Fcs (f : Int → Int) : Nat → Rs → Prop
  | zero : Fcs f 0 []
  | skip {i : Nat} {fs : Rs} : Fcs f i fs → (i : Int) ∈ fs.flatten → Fcs f (i + 1) fs
  | add {i : Nat} {fs : Rs} {row : List Int} : Fcs f i fs → (i : Int) ∉ fs.flatten → IsFace f i row → Fcs f (i + 1) (fs ++ [row])
theorem IsFace.len {f : Int → Int} {n : Nat} (hm : ∀ x : Int, 0 ≤ x ∧ x < n → 0 ≤ f x ∧ f x < n) (hi : ∀ x y : Int, 0 ≤ x ∧ x < n → 0 ≤ y ∧ y < n → f x = f y → x = y) {x : Int} (hx : 0 ≤ x ∧ x < (n : Int)) {row : List Int} (h : IsFace f x row) : row.length ≤ n := by
  obtain ⟨j, rfl, _, l⟩ := h.ex
  obtain ⟨k, k0, k1, k2⟩ := go_round hm hi hx
  rw [orb_length]
  rcases Nat.lt_or_ge j k with z | z
  · omega
  · exact absurd k2 (l k k0 z)
theorem Fcs.bound {f : Int → Int} {n : Nat} (hm : ∀ x : Int, 0 ≤ x ∧ x < n → 0 ≤ f x ∧ f x < n) (hi : ∀ x y : Int, 0 ≤ x ∧ x < n → 0 ≤ y ∧ y < n → f x = f y → x = y) {i : Nat} {fs : Rs} (h : Fcs f i fs) (hin : i ≤ n) : fs.length ≤ i ∧ fs.flatten.length ≤ i * n := by
  induction h with
  | zero => exact ⟨Nat.le_refl _, Nat.zero_le _⟩
  | skip _ _ ih =>
    have := ih (by omega)
    refine ⟨by omega, ?_⟩
    rw [Nat.succ_mul]; omega
  | add _ _ hf ih =>
    have := ih (by omega)
    have hl := hf.len hm hi (by omega)
    rename_i row _ _
    have e1 : ([row] : Rs).flatten.length = row.length := by simp
    rw [List.length_append, List.flatten_append, List.length_append, Nat.succ_mul, e1]
    refine ⟨?_, by omega⟩
    show _ + 1 ≤ _
    omega
theorem nextIn_at : ∀ {rs : Rs} {i j : Nat} {r : List Int} {e : Int}, rs.flatten.Nodup → rs[i]? = some r → r[j]? = some e → nextIn rs e = r.getD ((j + 1) % r.length) e
  | [], _, _, _, _, _, h, _ => by simp at h
  | r0 :: rs, 0, j, r, e, nd, h, hj => by
    have : r0 = r := by simpa using h
    subst this
    obtain ⟨hl, he⟩ := List.getElem?_eq_some_iff.mp hj
    have hm : e ∈ r0 := he ▸ List.getElem_mem hl
    have nd0 : r0.Nodup := by rw [List.flatten_cons] at nd; exact (List.nodup_append.mp nd).1
    have hx : r0.idxOf e = j := by
      have h1 : r0.idxOf e < r0.length := List.idxOf_lt_length_iff.mpr hm
      exact (List.getElem_inj nd0 (h₀ := h1) (h₁ := hl)).mp ((List.getElem_idxOf h1).trans he.symm)
    show (if e ∈ r0 then behind r0 e else nextIn rs e) = _
    rw [if_pos hm]
    unfold behind
    rw [hx]
  | r0 :: rs, i + 1, j, r, e, nd, h, hj => by
    have h' : rs[i]? = some r := by simpa using h
    rw [List.flatten_cons] at nd
    obtain ⟨_, nd2, dj⟩ := List.nodup_append.mp nd
    have hm : e ∈ rs.flatten := List.mem_flatten.mpr ⟨r, List.mem_of_getElem? h', List.mem_of_getElem? hj⟩
    have hn : e ∉ r0 := fun z => dj e z e hm rfl
    show (if e ∈ r0 then behind r0 e else nextIn rs e) = _
    rw [if_neg hn]
    exact nextIn_at nd2 h' hj
def pre (n k : Nat) : Nat := (k + n - 1) % n
theorem later_new {rs : Rs} {i j : Nat} {r : List Int} {e : Int} (nd : rs.flatten.Nodup) (h : rs[i]? = some r) (hj : r[j]? = some e) : e ∉ (rs.take i).flatten := by
  intro z
  obtain ⟨hi, hr⟩ := List.getElem?_eq_some_iff.mp h
  have e1 : rs.flatten = (rs.take i).flatten ++ (rs.drop i).flatten := by rw [← List.flatten_append, List.take_append_drop]
  rw [e1] at nd
  have hd : e ∈ (rs.drop i).flatten := by
    rw [List.drop_eq_getElem_cons hi, hr, List.flatten_cons]
    exact List.mem_append_left _ (List.mem_of_getElem? hj)
  exact (List.nodup_append.mp nd).2.2 e z e hd rfl
end Ink
namespace Ink
open PySem L2
def top (i : Nat) : Stmt := PySem.Challenge.pw_inkmap_k11_refused.main.body.getD i (.Pass ⟨0, 0, 0, 0⟩)
abbrev sIsDrawing : Stmt := top 7
abbrev sRefuse : Stmt := top 8
abbrev sAllEnds : Stmt := top 9
abbrev sAcrossP : Stmt := top 10
abbrev sNextEnds : Stmt := top 11
abbrev sFaceFrom : Stmt := top 12
abbrev sFaces : Stmt := top 13
abbrev sInside : Stmt := top 14
abbrev sMirrored : Stmt := top 15
abbrev sPointsOf : Stmt := top 17
abbrev sPieceFrom : Stmt := top 18
abbrev sPieces : Stmt := top 19
abbrev sRopes : Stmt := top 20
abbrev sManyFaces : Stmt := top 21
abbrev sBuilt : Stmt := top 22
abbrev sHandles : Stmt := top 23
abbrev sFlat : Stmt := top 24
abbrev sWithout : Stmt := top 26
abbrev sPtsAcross : Stmt := top 28
abbrev sNear : Stmt := top 29
abbrev sAmongP : Stmt := top 30
abbrev sPeeled : Stmt := top 31
abbrev sDense : Stmt := top 32
abbrev sLeastFree : Stmt := top 33
abbrev sColoured : Stmt := top 34
abbrev sRefNoEnds : Stmt := top 36
abbrev sSides : Stmt := top 41
abbrev sTreeOf : Stmt := top 43
abbrev sAllBut : Stmt := top 44
abbrev sTwoTrees : Stmt := top 45
abbrev sUpto : Stmt := top 47
abbrev sAt : Stmt := top 48
abbrev sAcross : Stmt := top 49
abbrev sNextIn : Stmt := top 50
abbrev sFaceOf : Stmt := top 51
abbrev sPut : Stmt := top 52
abbrev sDrawn : Stmt := top 53
abbrev sCopies : Stmt := top 54
abbrev sOfRounds : Stmt := top 55
abbrev sAskedL : Stmt := top 56
abbrev sRefuses : Stmt := top 57
abbrev sLike : Stmt := top 58
abbrev sLaw : Stmt := top 59
end Ink
namespace Ink
open PySem L2
structure Txt (mg : Str → Option Value) : Prop where
  len : mg "len" = none
  range : mg "range" = none
  sum : mg "sum" = none
  list : mg "list" = none
  int : mg "int" = none
  bool : mg "bool" = none
  isi : mg "isinstance" = none
  sorted : mg "sorted" = none
  enum : mg "enumerate" = none
structure Def (P : Program) (w : World) (K : PySem.W.Frag) (mg : Str → Option Value) (base : Heap) (x : Str) (k : Nat) (ps : List Str) (sp : Sp) : Prop where
  ex : ∃ f fd, FnOk P w K mg base CX0 k f fd ps sp ∧ mg x = some (.ref f) ∧ PySem.W.keepIn K (.ref f) = true ∧ Binds K fd ps []
theorem pcall {X : Cx} {x : Str} {k : Nat} {ps : List Str} {sp : Sp} {p pos : Pos} {e : Expr} {es : List Expr} {t : TA} (D : Def X.prog X.w X.K X.mg X.base x k ps sp) (hr : Room k X.A) (ha : PA X (e :: es) t) (hg : Gl X x := by rfl) (hdb : (x == ("__debug__" : Str)) = false := by decide)
    (he : starEach (e :: es) X.env = (false, eval e X.env) :: starEach es X.env := by rfl) (hpl : (backTo pos (starEach es X.env)).any (·.1) = false := by rfl) : PE X (.Call (.Name x p) (e :: es) [] pos) (tCall sp [] E0 t) := by
  obtain ⟨f, fd, F, m, kp, b⟩ := D.ex
  exact pe_call F hr hg m kp b .nil pass0 ha hdb he hpl
def spUpto (K : PySem.W.Frag) : Sp := fun vs H Q _ => ∃ (a : Addr) (ns : List Int) (x y : Int), vs = [.ref a, .int x, .int y] ∧ SqL K H a (ns.map V.int) ∧ ns.length ≤ 63 ∧ Q (.int x) H
def spAt (K : PySem.W.Frag) : Sp := fun vs H Q _ => ∃ (a : Addr) (ns : List Int) (k : Nat), vs = [.ref a, .int k] ∧ SqL K H a (ns.map V.int) ∧ Q (.int (ns.getD k 0)) H
def spAcross : Sp := fun vs H Q _ => ∃ (e : Int), vs = [.int e] ∧ Q (.int (acr e)) H
def spNextIn : Sp := fun vs H Q _ => ∃ (p : Addr) (ps : List Addr) (rs : Rs) (e : Int), vs = [.ref p, .int e] ∧ Rows H p ps rs ∧ Q (.int (nextIn rs e)) H
section
variable {P : Program} {w : World} {K : PySem.W.Frag} {mg : Str → Option Value} {base : Heap}
theorem scUpto : FnScope ["_law_script", "_law_small", "_law_great"] ["_law_script", "_law_small", "_law_great"] (defScope sUpto) := ⟨rfl, rfl, rfl, by decide +kernel, rfl, by decide +kernel, by decide +kernel⟩
theorem ok_upto {f : Addr} {fd : FuncData} (F : Fun K "_law_upto" "_law_upto" sUpto f fd) (T : Txt mg) : FnOk P w K mg base CX0 1 f fd ["_law_script", "_law_small", "_law_great"] (spUpto K) := by
  refine F.ok scUpto (fun vs H Q E h => ?_) (fun cdv A outer s H vs Q E hr h => ?_)
  · obtain ⟨a, ns, x, y, rfl, _⟩ := h
    rfl
  · obtain ⟨a, ns, x, y, rfl, hS, hl, k⟩ := h
    refine ⟨_, pss_cons (ps_if (pt_cmpR op_gt (pe_callB call_len_seq (by rfl) T.len PySem.boot_len (pa_cons (pv 0) pa_nil)) pe_int (nomark _)) (pss_one (ps_ret (pv 2))) pss_nil) (pss_one (ps_ret (pv 1))), ?_⟩
    refine ⟨_, rfl, a, _, rfl, .inl hS, _, _, rfl, rfl, _, rfl, ?_⟩
    refine ite2 (fun h => ?_) (fun _ => ?_)
    · exfalso
      have h' := of_decide_eq_true h
      rw [List.length_map] at h'
      omega
    · exact ⟨_, rfl, k⟩
theorem scAt : FnScope ["_law_script", "_law_k"] ["_law_script", "_law_k"] (defScope sAt) := ⟨rfl, rfl, rfl, by decide +kernel, rfl, by decide +kernel, by decide +kernel⟩
theorem ok_at {f : Addr} {fd : FuncData} (F : Fun K "_law_at" "_law_at" sAt f fd) (T : Txt mg) : FnOk P w K mg base CX0 1 f fd ["_law_script", "_law_k"] (spAt K) := by
  refine F.ok scAt (fun vs H Q E h => ?_) (fun cdv A outer s H vs Q E hr h => ?_)
  · obtain ⟨a, ns, x, rfl, _⟩ := h
    rfl
  · obtain ⟨a, ns, x, rfl, hS, k⟩ := h
    refine ⟨_, pss_cons (ps_if (pt_cmpR op_lt (pv 1) (pe_callB call_len_seq (by rfl) T.len PySem.boot_len (pa_cons (pv 0) pa_nil)) (nomark _)) (pss_one (ps_ret (pe_ix ix_list (pv 0) (pv 1) (fun _ _ => rfl)))) pss_nil) (pss_one (ps_ret pe_int)), ?_⟩
    refine ⟨_, rfl, _, rfl, a, _, rfl, .inl hS, _, _, rfl, rfl, _, rfl, ?_⟩
    refine ite2 (fun h => ?_) (fun h => ?_)
    · have h' := of_decide_eq_true h
      rw [List.length_map] at h'
      have hx : x < ns.length := by omega
      refine ⟨_, rfl, _, rfl, a, _, _, _, rfl, rfl, hS, atI_nat (j := x) (v := V.int (ns.getD x 0)) ?_, k⟩
      rw [List.getElem?_map, List.getElem?_eq_getElem hx, List.getD_eq_getElem?_getD, List.getElem?_eq_getElem hx]
      rfl
    · have h' : ¬ ((x : Int) < ((ns.map V.int).length : Int)) := fun z => h (decide_eq_true z)
      rw [List.length_map] at h'
      have e : ns.getD x 0 = 0 := by rw [List.getD_eq_getElem?_getD, List.getElem?_eq_none (by omega)]; rfl
      rw [e] at k
      exact k
theorem scAcross : FnScope ["_law_end"] ["_law_end"] (defScope sAcross) := ⟨rfl, rfl, rfl, by decide +kernel, rfl, by decide +kernel, by decide +kernel⟩
theorem ok_across {f : Addr} {fd : FuncData} (F : Fun K "_law_across" "_law_across" sAcross f fd) : FnOk P w K mg base CX0 1 f fd ["_law_end"] spAcross := by
  refine F.ok scAcross (fun vs H Q E h => ?_) (fun cdv A outer s H vs Q E hr h => ?_)
  · obtain ⟨e, rfl, _⟩ := h
    rfl
  · obtain ⟨e, rfl, k⟩ := h
    refine ⟨_, pss_one (ps_ret (pe_op op_sub (pe_op op_add (pv 0) pe_int) (pe_op op_mul pe_int (pe_op op_mod (pv 0) pe_int)))), ?_⟩
    refine ⟨_, rfl, _, _, rfl, rfl, _, rfl, _, _, rfl, rfl, (by show (0 : Int) < 2; decide), _, _, rfl, rfl, .inl ⟨by decide, by decide⟩, _, _, rfl, rfl, k⟩
theorem in_ints (e : Int) : ∀ r : List Int, inV (.int e) (r.map V.int) = decide (e ∈ r)
  | [] => rfl
  | x :: r => by
    have ih := in_ints e r
    have e1 : inV (.int e) ((x :: r).map V.int) = ((x == e) || inV (.int e) (r.map V.int)) := rfl
    rw [e1, ih]
    by_cases h : e ∈ r
    · rw [decide_eq_true h, Bool.or_true, decide_eq_true (List.mem_cons_of_mem _ h)]
    · rw [decide_eq_false h, Bool.or_false]
      by_cases hx : x = e
      · subst hx
        rw [decide_eq_true List.mem_cons_self]
        exact beq_self_eq_true x
      · rw [decide_eq_false fun z => (List.mem_cons.mp z).elim (fun q => hx q.symm) h]
        exact beq_eq_false_iff_ne.mpr hx
theorem flat_ints : ∀ r : List Int, (r.map V.int).all flatV = true
  | [] => rfl
  | x :: r => by rw [List.map_cons, List.all_cons, flat_ints r]; rfl
theorem ref_at {ps : List Addr} {i : Nat} {y : V} (h : (ps.map V.ref)[i]? = some y) : ∃ q, ps[i]? = some q ∧ y = .ref q := by
  rw [List.getElem?_map] at h
  cases e : ps[i]? with
  | none => rw [e] at h; cases h
  | some q => rw [e] at h; exact ⟨q, rfl, (Option.some.inj h).symm⟩
theorem drop_at {α : Type} {l : List α} {i : Nat} {r : α} (h : l[i]? = some r) : l.drop i = r :: l.drop (i + 1) := by
  obtain ⟨hi, e⟩ := List.getElem?_eq_some_iff.mp h
  rw [List.drop_eq_getElem_cons hi, e]
theorem take_at {α : Type} {l : List α} {i : Nat} {r : α} (h : l[i]? = some r) : l.take (i + 1) = l.take i ++ [r] := by
  rw [List.take_add_one, h]; rfl
theorem behind_ix {r : List Int} {e : Int} (h : e ∈ r) : atI (r.map V.int) ((((r.idxOf e : Nat) : Int) + 1) % (((r.map V.int).length : Nat) : Int)) = some (V.int (behind r e)) := by
  have hl : 0 < r.length := List.length_pos_of_mem h
  have hk : (r.idxOf e + 1) % r.length < r.length := Nat.mod_lt _ hl
  have e1 : (((r.idxOf e : Nat) : Int) + 1) % (((r.map V.int).length : Nat) : Int) = (((r.idxOf e + 1) % r.length : Nat) : Int) := by
    rw [List.length_map, Int.natCast_emod]; rfl
  rw [e1]
  refine atI_nat ?_
  rw [List.getElem?_map, List.getElem?_eq_getElem hk]
  unfold behind
  rw [List.getD_eq_getElem?_getD, List.getElem?_eq_getElem hk]
  rfl
theorem nextIn_pos {r : List Int} {rs : Rs} {e : Int} (h : e ∈ r) : nextIn (r :: rs) e = behind r e := if_pos h
theorem nextIn_neg {r : List Int} {rs : Rs} {e : Int} (h : ¬ e ∈ r) : nextIn (r :: rs) e = nextIn rs e := if_neg h
theorem scNextIn : FnScope ["_law_rounds", "_law_end", "_law_row"] ["_law_rounds", "_law_end"] (defScope sNextIn) := ⟨rfl, rfl, rfl, by decide +kernel, rfl, by decide +kernel, by decide +kernel⟩
theorem ok_nextIn {f : Addr} {fd : FuncData} (F : Fun K "_law_next_in" "_law_next_in" sNextIn f fd) (T : Txt mg) : FnOk P w K mg base CX0 1 f fd ["_law_rounds", "_law_end"] spNextIn := by
  refine F.ok scNextIn (fun vs H Q E h => ?_) (fun cdv A outer s H vs Q E hr h => ?_)
  · obtain ⟨p, ps, rs, e, rfl, _⟩ := h
    rfl
  · obtain ⟨p, ps, rs, e, rfl, R, k⟩ := h
    refine ⟨_, pss_cons (ps_for PassesOwn.never rfl (pi_list (pv 0)) (pg_name (i := 2) scNextIn.nd rfl (Or.inl rfl))
      (pss_one (ps_if (pt_cmpR op_in_seq (pv 1) (pv 2) rfl) (pss_one (ps_ret (pe_ix ix_list (pv 2) (pe_op op_mod (pe_op op_add (pe_bm PySem.F.plainAttrs_list PySem.F.slot_list_index PySem.F.type_list_index mt_index (pv 2) (pa_cons (pv 1) pa_nil)) pe_int)
        (pe_callB call_len_seq (by rfl) T.len PySem.boot_len (pa_cons (pv 2) pa_nil))) (fun _ _ => rfl)))) pss_nil)))
      (pss_one (ps_ret (pv 1))), ?_⟩
    refine ⟨_, rfl, p, rfl, ⟨_, .of R.out⟩, for_list (K := K) (a := p) (xs := ps.map V.ref) (fun i σ H2 => H2 = H ∧ ∃ v, σ = [some (.ref p), some (.int e), v] ∧ nextIn rs e = nextIn (rs.drop i) e) ⟨rfl, none, rfl, rfl⟩
      (fun i σ H2 _ ⟨e2, _⟩ => by rw [e2]; exact .of R.out) ?_ ?_⟩
    · rintro i y σ H2 hi ⟨rfl, v, rfl, hn⟩
      obtain ⟨q, hq, rfl⟩ := ref_at hi
      obtain ⟨r, hr', hH⟩ := R.at hq
      rw [drop_at hr'] at hn
      refine ⟨_, rfl, _, rfl, q, _, rfl, .inl (.of hH), rfl, flat_ints r, _, rfl, ?_⟩
      rw [in_ints]
      refine ite2 (fun h => ?_) (fun h => ?_)
      · have hm : e ∈ r := of_decide_eq_true h
        have hl : 0 < r.length := List.length_pos_of_mem hm
        rw [nextIn_pos hm] at hn
        rw [hn] at k
        exact ⟨_, rfl, _, rfl, .inl ⟨rfl, _, .of hH⟩, _, rfl, q, r, e, rfl, rfl, .of hH, hm, _, _, rfl, rfl, _, rfl, q, _, rfl, .inl (.of hH), _, _, rfl, rfl, (by rw [List.length_map]; omega), q, _, _, _, rfl, rfl, .of hH, behind_ix hm, k⟩
      · have hm : ¬ e ∈ r := fun z => h (decide_eq_true z)
        rw [nextIn_neg hm] at hn
        exact ⟨rfl, _, rfl, hn⟩
    · rintro σ H2 ⟨rfl, v, rfl, hn⟩
      rw [List.length_map, R.len, List.drop_length] at hn
      refine ⟨_, rfl, ?_⟩
      rw [hn] at k
      exact k
def spFaceOf : Sp := fun vs H Q _ => ∃ (p : Addr) (ps : List Addr) (rs : Rs) (n : Nat) (e : Int), vs = [.ref p, .int e] ∧ Rows H p ps rs ∧ Dr rs n ∧ n ≤ 1000 ∧ 0 ≤ e ∧ e < n ∧
  ∀ (q : Addr) (row : List Int) (H' : Hp), IsFace (stp rs) e row → H q = none → H' q = some (.lst (row.map V.int)) → Same H H' → Q (.ref q) H'
theorem scFaceOf : FnScope ["_law_rounds", "_law_end", "_law_row", "_law_here"] ["_law_rounds", "_law_end"] (defScope sFaceOf) := ⟨rfl, rfl, rfl, by decide +kernel, rfl, by decide +kernel, by decide +kernel⟩
theorem ok_faceOf {f : Addr} {fd : FuncData} (F : Fun K "_law_face_of" "_law_face_of" sFaceOf f fd) (DA : Def P w K mg base "_law_across" 1 ["_law_end"] spAcross) (DN : Def P w K mg base "_law_next_in" 1 ["_law_rounds", "_law_end"] spNextIn) :
    FnOk P w K mg base CX0 2 f fd ["_law_rounds", "_law_end"] spFaceOf := by
  refine F.ok scFaceOf (fun vs H Q E h => ?_) (fun cdv A outer s H vs Q E hr h => ?_)
  · obtain ⟨p, ps, rs, n, e, rfl, _⟩ := h
    rfl
  · obtain ⟨p, ps, rs, n, e, rfl, R, D, hn, e0, e1, k⟩ := h
    have hs : sizeLine = 16777216 := sizeLine_eq
    refine ⟨_, pss_cons (ps_set (i := 2) scFaceOf.nd rfl (Or.inl rfl) (pe_lst (pa_cons (pv 1) pa_nil)))
      (pss_cons (ps_set (i := 3) scFaceOf.nd rfl (Or.inl rfl) (pcall DN hr (pa_cons (pv 0) (pa_cons (pcall DA hr (pa_cons (pv 1) pa_nil)) pa_nil))))
      (pss_cons (ps_while PassesOwn.never (pt_cmpR op_ne (pv 3) (pv 1) (nomark _)) (pss_cons (ps_expr (pe_bm PySem.F.plainAttrs_list PySem.F.slot_list_append PySem.F.type_list_append mt_append (pv 2) (pa_cons (pv 3) pa_nil)))
        (pss_one (ps_set (i := 3) scFaceOf.nd rfl (Or.inl rfl) (pcall DN hr (pa_cons (pv 0) (pa_cons (pcall DA hr (pa_cons (pv 3) pa_nil)) pa_nil)))))))
      (pss_one (ps_ret (pv 2))))), ?_⟩
    refine ⟨_, rfl, (by show 1 ≤ sizeLine; omega), fun l hl => ?_⟩
    have s0 : Same H (L2.upd H l (.lst [.int e])) := (Same.refl H).put hl
    refine ⟨_, rfl, _, rfl, e, rfl, p, ps, rs, acr e, rfl, R.same s0, ?_⟩
    obtain ⟨per, hp0, hp1, hp2⟩ := go_round (f := stp rs) (n := n) (fun x h => D.stp_mem h.1 h.2) (fun x y hx hy h => D.stp_inj hx hy h) ⟨e0, e1⟩
    refine ⟨fun m σ H2 => ∃ j, σ = [some (.ref p), some (.int e), some (.ref l), some (.int (itr (stp rs) (j + 1) e))] ∧ H2 l = some (.lst ((orb (stp rs) e j).map V.int)) ∧ Same H H2 ∧ j + 1 ≤ per ∧ (∀ i, 0 < i → i ≤ j → itr (stp rs) i e ≠ e) ∧ m = per - j,
      ⟨per, 0, rfl, upd_same, s0, hp0, fun i h1 h2 => absurd h1 (by omega), rfl⟩, ?_⟩
    rintro m σ H2 ⟨j, rfl, hL, s2, hj, hno, rfl⟩
    refine ⟨_, rfl, _, rfl, rfl, _, rfl, ?_⟩
    refine ite2 (fun h => ?_) (fun h => ?_)
    · have hne : itr (stp rs) (j + 1) e ≠ e := by
        intro z
        rw [z] at h
        simp at h
      have hlt : j + 1 < per := by
        rcases Nat.lt_or_ge (j + 1) per with z | z
        · exact z
        · have : j + 1 = per := by omega
          rw [this] at hne
          exact absurd hp2 hne
      have s3 : Same H (L2.upd H2 l (.lst ((orb (stp rs) e j).map V.int ++ [.int (itr (stp rs) (j + 1) e)]))) := s2.put hl
      refine ⟨fun σ' H' => σ' = [some (.ref p), some (.int e), some (.ref l), some (.int (itr (stp rs) (j + 2) e))] ∧ H' l = some (.lst ((orb (stp rs) e (j + 1)).map V.int)) ∧ Same H H',
        fun σ' H' ⟨a, b, c⟩ => ⟨per - (j + 1), by omega, j + 1, a, b, c, by omega, fun i h1 h2 => ?_, rfl⟩, ?_⟩
      · rcases Nat.lt_or_ge j i with z | z
        · have : i = j + 1 := by omega
          rw [this]; exact hne
        · exact hno i h1 z
      · refine ⟨_, rfl, .inl ⟨rfl, _, .of hL⟩, _, rfl, l, _, _, rfl, rfl, hL, (by rw [List.length_map, orb_length]; omega), ?_⟩
        refine ⟨_, rfl, _, rfl, _, rfl, p, ps, rs, acr (itr (stp rs) (j + 1) e), rfl, R.same s3, rfl, ?_, s3⟩
        rw [upd_same, orb_succ, List.map_append]
        rfl
    · have heq : itr (stp rs) (j + 1) e = e := by
        by_cases z : itr (stp rs) (j + 1) e = e
        · exact z
        · exact absurd (by simp [z]) h
      exact ⟨_, rfl, k l _ H2 ⟨j, rfl, heq, hno⟩ hl hL s2⟩
def spPut : Sp := fun vs H Q _ => ∃ (p : Addr) (ps : List Addr) (rs : Rs) (b e : Int), vs = [.ref p, .int b, .int e] ∧ Rows H p ps rs ∧ (∀ r ∈ rs, r.length ≤ 1000) ∧
  ∀ (H' : Hp), Rows H' p ps (putIn rs b e) → (∀ c o, H c = some o → c ∉ ps → H' c = some o) → Q .non H'
theorem scPut : FnScope ["_law_rounds", "_law_behind", "_law_end", "_law_row"] ["_law_rounds", "_law_behind", "_law_end"] (defScope sPut) := ⟨rfl, rfl, rfl, by decide +kernel, rfl, by decide +kernel, by decide +kernel⟩
def mix (g : List Int → List Int) (rs : Rs) (i : Nat) : Rs := (rs.take i).map g ++ rs.drop i
theorem mix_at {g : List Int → List Int} {rs : Rs} {i : Nat} {r : List Int} (h : rs[i]? = some r) : (mix g rs i)[i]? = some r := by
  have hi : i < rs.length := (List.getElem?_eq_some_iff.mp h).1
  unfold mix
  rw [List.getElem?_append_right (by rw [List.length_map, List.length_take]; omega), List.length_map, List.length_take, Nat.min_eq_left (by omega), Nat.sub_self, drop_at h]
  rfl
theorem mix_set {g : List Int → List Int} {rs : Rs} {i : Nat} {r : List Int} (h : rs[i]? = some r) : (mix g rs i).set i (g r) = mix g rs (i + 1) := by
  have hi : i < rs.length := (List.getElem?_eq_some_iff.mp h).1
  unfold mix
  have hl : ((rs.take i).map g).length = i := by rw [List.length_map, List.length_take]; omega
  rw [List.set_append_right _ _ (by rw [hl]; exact Nat.le_refl _), hl, Nat.sub_self, drop_at h, take_at h, List.map_append]
  simp
theorem mix_same {g : List Int → List Int} {rs : Rs} {i : Nat} {r : List Int} (h : rs[i]? = some r) (e : g r = r) : mix g rs (i + 1) = mix g rs i := by
  unfold mix
  rw [take_at h, drop_at h, List.map_append]
  simp [e]
theorem mix_all {g : List Int → List Int} {rs : Rs} {n : Nat} (h : rs.length ≤ n) : mix g rs n = rs.map g := by
  unfold mix
  rw [List.take_of_length_le h, List.drop_of_length_le h, List.append_nil]
theorem ok_put {f : Addr} {fd : FuncData} (F : Fun K "_law_put" "_law_put" sPut f fd) : FnOk P w K mg base CX0 1 f fd ["_law_rounds", "_law_behind", "_law_end"] spPut := by
  refine F.ok scPut (fun vs H Q E h => ?_) (fun cdv A outer s H vs Q E hr h => ?_)
  · obtain ⟨p, ps, rs, b, e, rfl, _⟩ := h
    rfl
  · obtain ⟨p, ps, rs, b, e, rfl, R, hsz, k⟩ := h
    have hs : sizeLine = 16777216 := sizeLine_eq
    refine ⟨_, pss_one (ps_for PassesOwn.never rfl (pi_list (pv 0)) (pg_name (i := 3) scPut.nd rfl (Or.inl rfl))
      (pss_one (ps_if (pt_cmpR op_in_seq (pv 1) (pv 3) rfl) (pss_one (ps_expr (pe_bm PySem.F.plainAttrs_list PySem.F.slot_list_insert PySem.F.type_list_insert mt_insert (pv 3)
        (pa_cons (pe_op op_add (pe_bm PySem.F.plainAttrs_list PySem.F.slot_list_index PySem.F.type_list_index mt_index (pv 3) (pa_cons (pv 1) pa_nil)) pe_int) (pa_cons (pv 2) pa_nil))))) pss_nil))), ?_⟩
    refine ⟨_, rfl, p, rfl, ⟨_, .of R.out⟩, for_list (K := K) (a := p) (xs := ps.map V.ref) (fun i σ H2 => ∃ v, σ = [some (.ref p), some (.int b), some (.int e), v] ∧ Rows H2 p ps (mix (putRow b e) rs i) ∧ ∀ c o, H c = some o → c ∉ ps → H2 c = some o) ⟨none, rfl, R, fun _ _ z _ => z⟩
      (fun i σ H2 _ ⟨_, _, R2, _⟩ => .of R2.out) ?_ ?_⟩
    · rintro i y σ H2 hi ⟨v, rfl, R2, kp⟩
      obtain ⟨q, hq, rfl⟩ := ref_at hi
      obtain ⟨r, hr', _⟩ := R.at hq
      have hH := R2.row i q r hq (mix_at hr')
      refine ⟨_, rfl, _, rfl, q, _, rfl, .inl (.of hH), rfl, flat_ints r, _, rfl, ?_⟩
      rw [in_ints]
      refine ite2 (fun h => ?_) (fun h => ?_)
      · have hm : b ∈ r := of_decide_eq_true h
        have hl : r.idxOf b < r.length := List.idxOf_lt_length_iff.mpr hm
        have hz := hsz r (List.mem_of_getElem? hr')
        refine ⟨_, rfl, .inl ⟨rfl, _, .of hH⟩, _, rfl, .inl ⟨rfl, _, .of hH⟩, _, rfl, q, r, b, rfl, rfl, .of hH, hm, _, _, rfl, rfl, _, rfl, q, _, _, _, rfl, rfl, hH, by omega, (by rw [List.length_map]; omega), (by rw [List.length_map]; omega), ?_⟩
        have e1 : (r.map V.int).take (((r.idxOf b : Nat) : Int) + 1).toNat ++ V.int e :: (r.map V.int).drop (((r.idxOf b : Nat) : Int) + 1).toNat = (putRow b e r).map V.int := by
          have e2 : (((r.idxOf b : Nat) : Int) + 1).toNat = r.idxOf b + 1 := by omega
          unfold putRow insAt
          rw [if_pos hm, e2, List.map_append, List.map_cons, List.map_take, List.map_drop]
        rw [e1]
        refine ⟨_, rfl, ?_, fun c o z hc => ?_⟩
        · have := R2.set hq (putRow b e r)
          rw [mix_set hr'] at this
          exact this
        · have ncq : c ≠ q := fun z' => hc (z' ▸ List.mem_of_getElem? hq)
          rw [upd_ne ncq]
          exact kp c o z hc
      · have hm : ¬ b ∈ r := fun z => h (decide_eq_true z)
        refine ⟨_, rfl, ?_, kp⟩
        rw [mix_same hr' (putRow_no hm)]
        exact R2
    · rintro σ H2 ⟨v, rfl, R2, kp⟩
      rw [List.length_map, R.len, mix_all (Nat.le_refl _)] at R2
      exact k H2 R2 kp
end
end Ink
namespace Ink
open PySem L2
structure Dn (any : Prop) (H H2 : Hp) (p : Addr) (ps : List Addr) (rs : Rs) (n : Nat) : Prop where
  made : Made any rs n
  rows : Rows H2 p ps rs
  same : Same H H2
  fp : H p = none
  fr : ∀ q ∈ ps, H q = none
theorem row_le {rs : Rs} {n : Nat} (d : Dr rs n) {r : List Int} (h : r ∈ rs) : r.length ≤ n := by
  have := d.len
  have q : r.length ≤ rs.flatten.length := by
    obtain ⟨a, b, rfl⟩ := List.append_of_mem h
    simp
    omega
  omega
theorem sum_lens : ∀ rs : Rs, (rs.map fun r => (r.length : Int)).sum = (rs.flatten.length : Int)
  | [] => rfl
  | r :: rs => by
    rw [List.map_cons, List.sum_cons, sum_lens rs, List.flatten_cons, List.length_append]
    omega
def spDrawn (K : PySem.W.Frag) : Sp := fun vs H Q _ => ∃ (a : Addr) (cs : List Int) (mode : Int), vs = [.ref a, .int mode] ∧ SqL K H a (cs.map V.int) ∧ cs.length ≤ 100 ∧
  ∀ (p : Addr) (ps : List Addr) (rs : Rs) (n : Nat) (H' : Hp), Dn (mode = 2) H H' p ps rs n → n ≤ 2 + cs.length → rs.length ≤ 2 + cs.length → Q (.ref p) H'
section
variable {P : Program} {w : World} {K : PySem.W.Frag} {mg : Str → Option Value} {base : Heap}
theorem scDrawn : FnScope ["_law_cells", "_law_mode", "_law_rounds", "_law_ends", "_law_k", "_law_way", "_law_here", "_law_row", "_law_there"] ["_law_cells", "_law_mode"] (defScope sDrawn) := ⟨rfl, rfl, rfl, by decide +kernel, rfl, by decide +kernel, by decide +kernel⟩
theorem int_at {cs : List Int} {i : Nat} {z : Int} (h : i < cs.length) (e : z = (i : Int)) : atI (cs.map V.int) z = some (V.int (cs.getD i 0)) := by
  subst e
  refine atI_nat ?_
  rw [List.getElem?_map, List.getElem?_eq_getElem h, List.getD_eq_getElem?_getD, List.getElem?_eq_getElem h]
  rfl
abbrev tLen (K : PySem.W.Frag) (i : Nat) : TE := tCB (fun xs H Q => ∃ p ys, xs = [.ref p] ∧ (SqL K H p ys ∨ SqT K H p ys) ∧ Q (.int ys.length) H) (tCons (tVar i) tNil)
theorem yes_go {te : TE} {σ : St} {H : Hp} {k : V → Hp → Prop} {N : Hp → Prop} (h : te σ H k) : tYes σ H fun b H3 => if b = true then te σ H3 k else N H3 := iteT (A := te σ H k) (B := N H) h
theorem lens_comp {K : PySem.W.Frag} {p D : Addr} {ps : List Addr} {rs : Rs} {H : Hp} {Qd : Hp → Prop} {cσ : St} (R : Rows H p ps rs) (hD : H D = none) (hsz : rs.length ≤ 1000)
    (q : ∀ H', Same H H' → H' D = some (.lst (rs.map fun r => V.int (r.length : Int))) → Qd H') :
    ∃ W : Nat → Nat → Hp → Prop, (∃ m, W 0 m (upd H D (.lst []))) ∧ ∀ i m H, W i m H →
      ((Itl K p).stop i H ∧ Qd H) ∨ ((Itl K p).go i H ∧ ∃ N : Hp → Prop, (∀ H', N H' → ∃ m', m' < m ∧ W (i + 1) m' H') ∧ ∀ x H', (Itl K p).yld i H x H' →
        tYes (some x :: cσ) H' fun b H3 => if b = true then tLen K 0 (some x :: cσ) H3 fun y H4 => ∃ ys, H4 D = some (.lst ys) ∧ ys.length < sizeLine ∧ N (upd H4 D (.lst (ys ++ [y]))) else N H3) := by
  have hs : sizeLine = 16777216 := sizeLine_eq
  refine comp_list (xs := ps.map V.ref) (fun i H2 => Same H H2 ∧ H2 D = some (.lst ((rs.take i).map fun r => V.int (r.length : Int)))) ⟨(Same.refl H).put hD, upd_same⟩ (fun i H2 _ ⟨s, _⟩ => .of (s _ _ R.out)) ?_ ?_
  · rintro i y H2 hi ⟨s, hd⟩
    obtain ⟨a, ha, rfl⟩ := ref_at hi
    obtain ⟨r, hr, hH⟩ := R.at ha
    refine yes_go ⟨_, rfl, a, _, rfl, .inl (.of (s _ _ hH)), _, hd, ?_, s.put hD, ?_⟩
    · rw [List.length_map, List.length_take]; omega
    · rw [upd_same, take_at hr, List.map_append, List.length_map]; rfl
  · rintro H2 ⟨s, hd⟩
    rw [List.length_map, R.len, List.take_length] at hd
    exact q H2 s hd
abbrev tEnds (K : PySem.W.Frag) : TS := tAsg (tCB (fun xs H Q => ∃ (p : Addr) (ns : List Int), xs = [.ref p] ∧ SqL K H p (ns.map V.int) ∧ Q (.int ns.sum) H) (tCons (tComp (iList K (tVar 2)) tYes (tLen K 0) []) tNil)) (gName 3)
theorem ends_ok {K : PySem.W.Frag} {any : Prop} {H H3 : Hp} {p : Addr} {ps : List Addr} {rs : Rs} {n : Nat} {D : Ends} {v0 v1 v3 v4 v5 v6 v7 v8 : Option V} (d : Dn any H H3 p ps rs n) (hsz : rs.length ≤ 1000)
    (q : ∀ H4, Dn any H H4 p ps rs n → D.nx [v0, v1, some (.ref p), some (.int n), v4, v5, v6, v7, v8] H4) : tEnds K D [v0, v1, some (.ref p), v3, v4, v5, v6, v7, v8] H3 := by
  refine ⟨_, rfl, p, rfl, ⟨_, .of d.rows.out⟩, fun D hD => lens_comp d.rows hD hsz fun H4 s hd => ?_⟩
  refine ⟨D, rs.map fun r => (r.length : Int), rfl, .of (by rw [List.map_map]; exact hd), ?_⟩
  rw [sum_lens, d.made.dr.len]
  exact q H4 ⟨d.made, d.rows.same s, d.same.trans s, d.fp, d.fr⟩
theorem if_and {t u : TS} {D : Ends} {σ : St} {H : Hp} {c1 c2 : TT} (b1 b2 : Bool) (h1 : ∀ Q : Bool → Hp → Prop, Q b1 H → c1 σ H Q) (h2 : ∀ Q : Bool → Hp → Prop, Q b2 H → c2 σ H Q) (hT : b1 = true → b2 = true → t D σ H) (hF : (b1 && b2) = false → u D σ H) : tIfS (tAnd c1 c2) t u D σ H := by
  refine h1 _ ?_
  cases b1 with
  | false => exact hF rfl
  | true =>
    refine h2 _ ?_
    cases b2 with
    | false => exact hF rfl
    | true => exact hT rfl rfl
theorem _root_.L2.Rows.app2 {H H' : Hp} {p p' p2 : Addr} {ps qs : List Addr} {rs ts : List (List Int)} (h : Rows H p ps rs) (s : Same H H') (g : Rows H' p2 qs ts) (dj : ∀ q ∈ qs, q ∉ ps) (ho : H' p' = some (.lst ((ps ++ qs).map V.ref))) : Rows H' p' (ps ++ qs) (rs ++ ts) :=
  h.app (fun q _ o e => s q o e) g.len g.row g.nd dj ho
theorem _root_.L2.Same.off {H H2 H3 : Hp} {ps : List Addr} (s : Same H H2) (hf : ∀ q ∈ ps, H q = none) (kp : ∀ c o, H2 c = some o → c ∉ ps → H3 c = some o) : Same H H3 := fun c o e =>
  kp c o (s c o e) fun z => by rw [hf c z] at e; cases e
theorem mem_ne {H2 : Hp} {p : Addr} {ps : List Addr} {rs : Rs} {q : Addr} (h : Rows H2 p ps rs) (hq : H2 q = none) : q ∉ ps := fun z => by
  obtain ⟨r, _, e⟩ := h.mem z
  rw [hq] at e
  cases e
theorem at_any {row : List Int} {i : Int} (h0 : -(row.length : Int) ≤ i) (h1 : i < row.length) : ∃ z, z ∈ row ∧ atI (row.map V.int) i = some (V.int z) := by
  by_cases hi : 0 ≤ i
  · have hk : i.toNat < row.length := by omega
    refine ⟨row[i.toNat], List.getElem_mem hk, ?_⟩
    have e : atI (row.map V.int) ((i.toNat : Nat) : Int) = some (V.int row[i.toNat]) := atI_nat (by rw [List.getElem?_map, List.getElem?_eq_getElem hk]; rfl)
    rw [show ((i.toNat : Nat) : Int) = i by omega] at e
    exact e
  · have hk : (i + row.length).toNat < row.length := by omega
    refine ⟨row[(i + row.length).toNat], List.getElem_mem hk, ?_⟩
    unfold atI ixN
    rw [if_neg hi, List.length_map, if_pos h0]
    show (row.map V.int)[(i + row.length).toNat]? = _
    rw [List.getElem?_map, List.getElem?_eq_getElem hk]
    rfl
theorem putIn_le {rs : Rs} {n : Nat} {b e : Int} (d : ∀ r ∈ rs, r.length ≤ n) : ∀ r ∈ putIn rs b e, r.length ≤ n + 1 := by
  intro r hr
  obtain ⟨t, ht, rfl⟩ := List.mem_map.mp hr
  have := d t ht
  unfold putRow
  split
  · rw [(insAt_perm t b e).length_eq, List.length_cons]; omega
  · omega
theorem seq_via {t U : TS} {D : Ends} {σ : St} {H : Hp} (R : St → Hp → Prop) (hU : ∀ σ H, R σ H → U D σ H) (ht : ∀ Kn : St → Hp → Prop, (∀ σ H, R σ H → Kn σ H) → t { D with nx := Kn } σ H) : tSeq t U D σ H := ht (U D) hU
theorem ok_drawn {f : Addr} {fd : FuncData} (F : Fun K "_law_drawn" "_law_drawn" sDrawn f fd) (T : Txt mg) (DA : Def P w K mg base "_law_across" 1 ["_law_end"] spAcross) (DN : Def P w K mg base "_law_next_in" 1 ["_law_rounds", "_law_end"] spNextIn)
    (DF : Def P w K mg base "_law_face_of" 2 ["_law_rounds", "_law_end"] spFaceOf) (DP : Def P w K mg base "_law_put" 1 ["_law_rounds", "_law_behind", "_law_end"] spPut) : FnOk P w K mg base CX0 3 f fd ["_law_cells", "_law_mode"] (spDrawn K) := by
  refine F.ok scDrawn (fun vs H Q E h => ?_) (fun cdv A outer s H vs Q E hr h => ?_)
  · obtain ⟨a, cs, mode, rfl, _⟩ := h
    rfl
  · obtain ⟨a, cs, mode, rfl, hS, hcs, k⟩ := h
    have hs : sizeLine = 16777216 := sizeLine_eq
    have hr1 : Room 1 _ := hr.mono (by decide)
    have nd := scDrawn.nd
    refine ⟨_, pss_cons (ps_set (i := 2) nd rfl (Or.inl rfl) (pe_lst (pa_cons (pe_lst (pa_cons pe_int pa_nil)) (pa_cons (pe_lst (pa_cons pe_int pa_nil)) pa_nil))))
      (pss_cons (ps_if (pt_cmpR op_eq (pe_op op_mod (pe_callB call_len_seq (by rfl) T.len PySem.boot_len (pa_cons (pv 0) pa_nil)) pe_int) pe_int (nomark _)) (pss_one (ps_set (i := 2) nd rfl (Or.inl rfl) (pe_lst (pa_cons (pe_lst (pa_cons pe_int (pa_cons pe_int pa_nil))) pa_nil)))) (pss_nil))
      (pss_cons (ps_set (i := 3) nd rfl (Or.inl rfl) pe_int)
      (pss_cons (ps_for PassesOwn.never rfl (pi_range3 (by rfl) T.range (pa_cons pe_int (pa_cons (pe_op op_sub (pe_callB call_len_seq (by rfl) T.len PySem.boot_len (pa_cons (pv 0) pa_nil)) pe_int) (pa_cons pe_int pa_nil)))) (pg_name (i := 4) nd rfl (Or.inl rfl)) (pss_cons (ps_set (i := 5) nd rfl (Or.inl rfl) (pe_op op_mod (pe_ix ix_list (pv 0) (pv 4) (fun _ _ => rfl)) pe_int))
      (pss_cons (ps_set (i := 6) nd rfl (Or.inl rfl) (pe_op op_mod (pe_ix ix_list (pv 0) (pe_op op_add (pv 4) pe_int) (fun _ _ => rfl)) (pv 3)))
      (pss_cons (ps_if (pw_and (pt_cmpR op_eq (pv 5) pe_int (nomark _)) (pw_and1 (pt_cmpR op_gt (pv 1) pe_int (nomark _)))).pt (pss_one (ps_set (i := 2) nd rfl (Or.inl rfl) (pe_op op_cat (pv 2) (pe_lst (pa_cons (pe_lst (pa_cons (pv 3) pa_nil)) (pa_cons (pe_lst (pa_cons (pe_op op_add (pv 3) pe_int) pa_nil)) pa_nil)))))) (pss_one (ps_if (pw_and (pt_cmpR op_eq (pv 5) pe_int (nomark _)) (pw_and1 (pt_cmpR op_gt (pv 1) pe_int (nomark _)))).pt (pss_one (ps_expr (pe_bm PySem.F.plainAttrs_list PySem.F.slot_list_append PySem.F.type_list_append mt_append (pv 2) (pa_cons (pe_lst pa_nil) pa_nil)))) (pss_one (ps_if (pt_cmpR op_lt (pv 5) pe_int (nomark _)) (pss_cons (ps_expr (pcall DP hr1 (pa_cons (pv 2) (pa_cons (pv 6) (pa_cons (pv 3) pa_nil)))))
      (pss_one (ps_expr (pe_bm PySem.F.plainAttrs_list PySem.F.slot_list_append PySem.F.type_list_append mt_append (pv 2) (pa_cons (pe_lst (pa_cons (pe_op op_add (pv 3) pe_int) pa_nil)) pa_nil))))) (pss_cons (ps_set (i := 7) nd rfl (Or.inl rfl) (pcall DF hr (pa_cons (pv 2) (pa_cons (pcall DN hr1 (pa_cons (pv 2) (pa_cons (pv 6) pa_nil))) pa_nil))))
      (pss_cons (ps_set (i := 8) nd rfl (Or.inl rfl) (pcall DA hr1 (pa_cons (pe_ix ix_list (pv 7) (pe_op op_sub (pe_op op_mod (pe_op op_fdiv (pe_ix ix_list (pv 0) (pv 4) (fun _ _ => rfl)) pe_int) (pe_callB call_len_seq (by rfl) T.len PySem.boot_len (pa_cons (pv 7) pa_nil))) pe_int) (fun _ _ => rfl)) pa_nil)))
      (pss_cons (ps_if (pt_cmpR op_eq (pv 1) pe_int (nomark _)) (pss_one (ps_set (i := 8) nd rfl (Or.inl rfl) (pe_op op_mod (pe_op op_fdiv (pe_ix ix_list (pv 0) (pv 4) (fun _ _ => rfl)) pe_int) (pv 3)))) (pss_nil))
      (pss_cons (ps_expr (pcall DP hr1 (pa_cons (pv 2) (pa_cons (pv 6) (pa_cons (pv 3) pa_nil)))))
      (pss_one (ps_expr (pcall DP hr1 (pa_cons (pv 2) (pa_cons (pv 8) (pa_cons (pe_op op_add (pv 3) pe_int) pa_nil)))))))))))))))
      (pss_one (ps_set (i := 3) nd rfl (Or.inl rfl) (pe_callB (call_sum rfl) (by rfl) T.sum PyProof.Rows.boot_sum (pa_cons (pe_comp (te := tLen K 0) rfl (Blk.plain rfl (by decide +kernel) (by decide +kernel)) (pi_list (pv 2)) (fun _ _ _ _ => pts_nil) (fun _ _ _ _ => (pe_callB call_len_seq (by rfl) T.len PySem.boot_len (pa_cons (pv 0) pa_nil)))) pa_nil))))))))
      (pss_one (ps_ret (pv 2)))))), ?_⟩
    -- rounds = [[0], [1]]
    refine ⟨(by show 1 ≤ sizeLine; omega), fun l1 h1 => ⟨(by show 1 ≤ sizeLine; omega), fun l2 h2 => ⟨(by show 2 ≤ sizeLine; omega), fun p0 h3 => ?_⟩⟩⟩
    obtain ⟨n21, h2'⟩ := upd_none h2
    obtain ⟨n32, h3'⟩ := upd_none h3
    obtain ⟨n31, h3''⟩ := upd_none h3'
    have s0 : Same H (L2.upd (L2.upd (L2.upd H l1 (.lst [.int 0])) l2 (.lst [.int 1])) p0 (.lst [.ref l1, .ref l2])) := (((Same.refl H).put h1).put h2').put h3''
    dsimp only [gName]
    with_reducible refine seq_via (fun σ' H' => ∃ p ps rs, σ' = [some (.ref a), some (.int mode), some (.ref p), none, none, none, none, none, none] ∧ Dn (mode = 2) H H' p ps rs 2 ∧ rs.length ≤ 2) ?loop (fun Kn hK => ?ini)
    case ini =>
      refine ⟨_, rfl, a, _, rfl, .inl (s0.seq hS), _, _, rfl, rfl, (by show (0 : Int) < 5; decide), rfl, _, rfl, ?_⟩
      refine ite2 (fun h => ?_) (fun h => ?_)
      · refine ⟨(by show 2 ≤ sizeLine; omega), fun l3 h4 => ⟨(by show 1 ≤ sizeLine; omega), fun p1 h5 => ?_⟩⟩
        obtain ⟨n53, h5'⟩ := upd_none h5
        have f4 := s0.free h4
        have f5 := s0.free h5'
        refine hK _ _ ⟨p1, [l3], [[0, 1]], rfl, ⟨.one, Rows.one upd_same (by rw [upd_ne (Ne.symm n53), upd_same]; rfl), (s0.put f4).put f5, f5, fun q hq => ?_⟩, by decide⟩
        have : q = l3 := by simpa using hq
        subst this
        exact f4
      · refine hK _ _ ⟨p0, [l1, l2], [[0], [1]], rfl, ⟨.two, Rows.two upd_same (Ne.symm n21) (by rw [upd_ne (Ne.symm n31), upd_ne (Ne.symm n21), upd_same]; rfl) (by rw [upd_ne (Ne.symm n32), upd_same]; rfl), s0, h3'', fun q hq => ?_⟩, by decide⟩
        rcases List.mem_cons.mp hq with rfl | hq
        · exact h1
        · have : q = l2 := by simpa using hq
          subst this
          exact h2'
    case loop =>
      rintro σ H2 ⟨p, ps, rs, rfl, d, hl⟩
      refine ⟨_, rfl, a, _, rfl, .inl (d.same.seq hS), _, _, rfl, rfl, _, _, _, rfl, ⟨by decide, by decide, by rw [List.length_map]; omega, by rw [List.length_map]; omega, by decide, by decide⟩,
        for_rangeS (fun i σ H2 => ∃ p ps rs n v4 v5 v6 v7 v8, σ = [some (.ref a), some (.int mode), some (.ref p), some (.int (n : Nat)), v4, v5, v6, v7, v8] ∧ Dn (mode = 2) H H2 p ps rs n ∧ n ≤ 2 + 2 * i ∧ rs.length ≤ 2 + 2 * i) ⟨p, ps, rs, 2, _, _, _, _, _, rfl, d, by omega, by omega⟩ ?_ ?_⟩
      · rintro i σ H3 hi ⟨p, ps, rs, n, v4, v5, v6, v7, v8, rfl, d, hn, hrs⟩
        have hi2 : 2 * i + 1 < cs.length := by
          rw [List.length_map] at hi
          unfold Builtin.Range.rangeSize at hi
          split at hi <;> split at hi <;> omega
        have hS3 : SqL K H3 a (cs.map V.int) := d.same.seq hS
        have h2n := d.made.le2
        have hn' : n ≤ 300 := by omega
        have hsz : ∀ r ∈ rs, r.length ≤ 300 := fun r hr => Nat.le_trans (row_le d.made.dr hr) hn'
        have hout := d.rows.out
        have hlen := d.rows.len
        refine ⟨_, rfl, _, rfl, a, _, _, _, rfl, rfl, hS3, int_at (i := 2 * i) (by omega) (by omega), _, _, rfl, rfl, (by show (0 : Int) < 8; decide), ?_⟩
        refine ⟨_, rfl, _, rfl, _, _, rfl, rfl, a, _, _, _, rfl, rfl, hS3, int_at (i := 2 * i + 1) (by omega) (by omega), _, rfl, _, _, rfl, rfl, (by show (0 : Int) < (n : Int); omega), ?_⟩
        have here0 : 0 ≤ cs.getD (2 * i + 1) 0 % (n : Int) ∧ cs.getD (2 * i + 1) 0 % (n : Int) < n := ⟨Int.emod_nonneg _ (by omega), Int.emod_lt_of_pos _ (by omega)⟩
        dsimp only [gName]
        generalize cs.getD (2 * i + 1) 0 % (n : Int) = here at here0 ⊢
        generalize cs.getD (2 * i) 0 % (8 : Int) = way
        with_reducible refine seq_via (fun σ' H' => ∃ p' ps' rs' n' w7 w8, σ' = [some (.ref a), some (.int mode), some (.ref p'), some (.int (n : Nat)), some (.int (0 + i * 2)), some (.int way), some (.int here), w7, w8] ∧ Dn (mode = 2) H H' p' ps' rs' n' ∧ n' ≤ n + 2 ∧ rs'.length ≤ rs.length + 2) ?_ (fun Kn hK => ?_)
        · rintro σ' H4 ⟨p', ps', rs', n', w7, w8, rfl, d', hn2, hrs'⟩
          exact ends_ok d' (by omega) fun H5 d5 => ⟨p', ps', rs', n', _, _, _, _, _, rfl, d5, by omega, by omega⟩
        · refine if_and _ _ (fun Q q => ⟨_, rfl, rfl, _, rfl, q⟩) (fun Q q => ⟨_, rfl, _, _, rfl, rfl, _, rfl, q⟩) (fun _ _ => ?_) (fun _ => ?_)
          · -- two points of their own
            refine ⟨_, rfl, _, rfl, (by show 1 ≤ sizeLine; omega), fun l1 h1 => ⟨_, rfl, _, _, rfl, rfl, (by show 1 ≤ sizeLine; omega), fun l2 h2 => ⟨(by show 2 ≤ sizeLine; omega), fun l3 h3 => ?_⟩⟩⟩
            obtain ⟨n21, h2'⟩ := upd_none h2
            obtain ⟨n32, h3'⟩ := upd_none h3
            obtain ⟨n31, h3c⟩ := upd_none h3'
            have s3 : Same H3 (L2.upd (L2.upd (L2.upd H3 l1 (.lst [.int n])) l2 (.lst [.int (n + 1)])) l3 (.lst [.ref l1, .ref l2])) := (((Same.refl H3).put h1).put h2').put h3c
            refine ⟨p, l3, _, _, rfl, rfl, s3 _ _ hout, upd_same, (by rw [List.length_map]; show ps.length + 2 ≤ sizeLine; omega), fun l4 h4 => ?_⟩
            obtain ⟨n43, h4'⟩ := upd_none h4
            obtain ⟨n42, h4c⟩ := upd_none h4'
            obtain ⟨n41, h4d⟩ := upd_none h4c
            refine hK _ _ ⟨l4, ps ++ [l1, l2], rs ++ [[(n : Int)], [(n : Int) + 1]], n + 2, _, _, rfl, ⟨d.made.apart, ?_, d.same.trans (s3.put h4d), d.same.free h4d, fun q hq => ?_⟩, Nat.le_refl _, by rw [List.length_append]; exact Nat.le_refl _⟩
            · refine Rows.app2 (p2 := l3) d.rows (s3.put h4d) (Rows.two ?_ (Ne.symm n21) ?_ ?_) (fun q hq => ?_) ?_
              · rw [upd_ne (Ne.symm n43), upd_same]
              · rw [upd_ne (Ne.symm n41), upd_ne (Ne.symm n31), upd_ne (Ne.symm n21), upd_same]; rfl
              · rw [upd_ne (Ne.symm n42), upd_ne (Ne.symm n32), upd_same]; rfl
              · rcases List.mem_cons.mp hq with rfl | hq
                · exact mem_ne d.rows h1
                · have : q = l2 := by simpa using hq
                  subst this
                  exact mem_ne d.rows h2'
              · rw [upd_same, List.map_append]; rfl
            · rcases List.mem_append.mp hq with z | z
              · exact d.fr q z
              · rcases List.mem_cons.mp z with rfl | z
                · exact d.same.free h1
                · have : q = l2 := by simpa using z
                  subst this
                  exact d.same.free h2'
          · refine if_and _ _ (fun Q q => ⟨_, rfl, rfl, _, rfl, q⟩) (fun Q q => ⟨_, rfl, _, _, rfl, rfl, _, rfl, q⟩) (fun _ _ => ?_) (fun _ => ?_)
            · -- a point alone
              refine ⟨_, rfl, .inl ⟨rfl, _, .of hout⟩, (by show 0 ≤ sizeLine; omega), fun l1 h1 => ?_⟩
              have s1 : Same H3 (L2.upd H3 l1 (.lst [])) := (Same.refl H3).put h1
              have n1p : l1 ≠ p := fun z => by rw [z, hout] at h1; cases h1
              refine ⟨p, _, _, rfl, rfl, s1 _ _ hout, (by rw [List.length_map]; omega), ?_⟩
              refine hK _ _ ⟨p, ps ++ [l1], rs ++ [[]], n, _, _, rfl, ⟨d.made.alone, (d.rows.same s1).snoc (r := []) upd_same (mem_ne d.rows h1) n1p, (d.same.trans s1).put d.fp, d.fp, fun q hq => ?_⟩, by omega, by rw [List.length_append]; show rs.length + 1 ≤ _; omega⟩
              rcases List.mem_append.mp hq with z | z
              · exact d.fr q z
              · have : q = l1 := by simpa using z
                subst this
                exact d.same.free h1
            · refine ⟨_, rfl, _, _, rfl, rfl, _, rfl, ?_⟩
              refine ite2 (fun _ => ?_) (fun _ => ?_)
              · -- a rope to a new point
                refine ⟨_, rfl, _, rfl, _, rfl, p, ps, rs, here, n, rfl, d.rows, fun r hr => Nat.le_trans (hsz r hr) (by decide), fun H4 R4 kp => ?_⟩
                have s4 : Same H H4 := d.same.off d.fr kp
                have hout4 := R4.out
                refine ⟨_, rfl, .inl ⟨rfl, _, .of hout4⟩, _, rfl, _, _, rfl, rfl, (by show 1 ≤ sizeLine; omega), fun l1 h1 => ?_⟩
                have s5 : Same H4 (L2.upd H4 l1 (.lst [.int ((n : Int) + 1)])) := (Same.refl H4).put h1
                have n1p : l1 ≠ p := fun z => by rw [z, hout4] at h1; cases h1
                refine ⟨p, _, _, rfl, rfl, s5 _ _ hout4, (by rw [List.length_map]; omega), ?_⟩
                refine hK _ _ ⟨p, ps ++ [l1], putIn rs here n ++ [[(n : Int) + 1]], n + 2, _, _, rfl, ⟨d.made.leaf here0, (R4.same s5).snoc (r := [(n : Int) + 1]) upd_same (mem_ne R4 h1) n1p, (s4.trans s5).put d.fp, d.fp, fun q hq => ?_⟩, by omega, by rw [List.length_append, putIn_length]; show rs.length + 1 ≤ _; omega⟩
                rcases List.mem_append.mp hq with z | z
                · exact d.fr q z
                · have : q = l1 := by simpa using z
                  subst this
                  exact s4.free h1
              · -- a rope between two spots
                have nx0 : 0 ≤ nextIn rs here ∧ nextIn rs here < n := (d.made.dr.mem _).mp (nextIn_mem ((d.made.dr.mem _).mpr here0))
                refine ⟨_, rfl, _, rfl, _, rfl, p, ps, rs, here, rfl, d.rows, p, ps, rs, n, nextIn rs here, rfl, d.rows, d.made.dr, by omega, nx0.1, nx0.2, fun q row H4 hf hq hL s4 => ?_⟩
                have hpos := hf.pos
                have hmem := hf.mem (n := n) (fun x h => d.made.dr.stp_mem h.1 h.2) nx0
                have hS4 : SqL K H4 a (cs.map V.int) := s4.seq hS3
                have m0 : 0 ≤ cs.getD (2 * i) 0 / 8 % (((row.map V.int).length : Nat) : Int) ∧ cs.getD (2 * i) 0 / 8 % (((row.map V.int).length : Nat) : Int) < (((row.map V.int).length : Nat) : Int) := ⟨Int.emod_nonneg _ (by rw [List.length_map]; omega), Int.emod_lt_of_pos _ (by rw [List.length_map]; omega)⟩
                obtain ⟨z, hz, hat⟩ := at_any (row := row) (i := cs.getD (2 * i) 0 / 8 % (((row.map V.int).length : Nat) : Int) - 1) (by rw [List.length_map] at m0 ⊢; omega) (by rw [List.length_map] at m0 ⊢; omega)
                refine ⟨_, rfl, _, rfl, _, rfl, a, _, _, _, rfl, rfl, hS4, int_at (i := 2 * i) (by omega) (by omega), _, _, rfl, rfl, ⟨by decide, by decide⟩, _, rfl, q, _, rfl, .inl (.of hL), _, _, rfl, rfl, (by rw [List.length_map]; omega), _, _, rfl, rfl, q, _, _, _, rfl, rfl, .of hL, hat, z, rfl, ?_⟩
                dsimp only [gName]
                with_reducible refine seq_via (fun σ' H' => ∃ t, σ' = [some (.ref a), some (.int mode), some (.ref p), some (.int (n : Nat)), some (.int (0 + i * 2)), some (.int way), some (.int here), some (.ref q), some (.int t)] ∧ H' = H4 ∧ (0 ≤ t ∧ t < n) ∧ (mode = 2 ∨ ∃ row z, IsFace (stp rs) (nextIn rs here) row ∧ z ∈ row ∧ t = acr z)) ?_ (fun Kn2 hK2 => ?_)
                · rintro σ' H5 ⟨t, rfl, rfl, t0, hany⟩
                  refine ⟨_, rfl, _, rfl, _, rfl, p, ps, rs, here, n, rfl, d.rows.same s4, fun r hr => Nat.le_trans (hsz r hr) (by decide), fun H6 R6 kp6 => ?_⟩
                  refine ⟨_, rfl, _, rfl, _, rfl, _, _, rfl, rfl, p, ps, putIn rs here n, t, n + 1, rfl, R6, fun r hr => Nat.le_trans (putIn_le hsz r hr) (by decide), fun H7 R7 kp7 => ?_⟩
                  refine hK _ _ ⟨p, ps, putIn (putIn rs here n) t ((n : Int) + 1), n + 2, _, _, rfl, ⟨d.made.tie here0 t0 hany, R7, ((d.same.trans s4).off d.fr kp6).off d.fr kp7, d.fp, d.fr⟩, Nat.le_refl _, by rw [putIn_length, putIn_length]; omega⟩
                · refine ⟨_, rfl, rfl, _, rfl, ?_⟩
                  refine ite2 (fun hm => ?_) (fun hm => ?_)
                  · have hm2 : mode = 2 := by
                      have := of_decide_eq_true hm
                      injection this
                    refine ⟨_, rfl, _, rfl, a, _, _, _, rfl, rfl, hS4, int_at (i := 2 * i) (by omega) (by omega), _, _, rfl, rfl, ⟨by decide, by decide⟩, _, rfl, _, _, rfl, rfl, (by show (0 : Int) < (n : Int); omega), ?_⟩
                    exact hK2 _ _ ⟨_, rfl, rfl, ⟨Int.emod_nonneg _ (by omega), Int.emod_lt_of_pos _ (by omega)⟩, .inl hm2⟩
                  · exact hK2 _ _ ⟨_, rfl, rfl, acr_lt d.made.dr.even (hmem z hz).1 (hmem z hz).2, .inr ⟨row, z, hf, hz, rfl⟩⟩
      · rintro σ H3 ⟨p, ps, rs, n, v4, v5, v6, v7, v8, rfl, d, hn, hrs⟩
        have hN : 2 * (Builtin.Range.rangeSize 0 (((cs.map V.int).length : Int) - 1) 2).toNat ≤ cs.length := by
          rw [List.length_map]
          unfold Builtin.Range.rangeSize
          split <;> split <;> omega
        exact ⟨_, rfl, k p ps rs n H3 d (by omega) (by omega)⟩
end
end Ink
namespace Ink
open PySem L2
def spCopies : Sp := fun vs H Q _ => ∃ (p : Addr) (ps : List Addr) (rs : Rs), vs = [.ref p] ∧ Rows H p ps rs ∧ rs.length ≤ 1000 ∧
  ∀ (p' : Addr) (ps' : List Addr) (H' : Hp), Rows H' p' ps' rs → Same H H' → H p' = none → (∀ q ∈ ps', H q = none) → Q (.ref p') H'
def spAllEnds : Sp := fun vs H Q _ => ∃ (p : Addr) (ps : List Addr) (rs : Rs), vs = [.ref p] ∧ Rows H p ps rs ∧ rs.flatten.length ≤ 1000 ∧
  ∀ (l : Addr) (H' : Hp), H l = none → H' l = some (.lst (rs.flatten.map V.int)) → Same H H' → Q (.ref l) H'
def upTo (n : Nat) : List Int := (List.range n).map fun (i : Nat) => (i : Int)
def told (l : List Int) : Bool := decide (l.length % 2 = 0 ∧ l.Perm (upTo l.length))
def spIsDrawing : Sp := fun vs H Q _ => ∃ (p : Addr) (ps : List Addr) (rs : Rs), vs = [.ref p] ∧ Rows H p ps rs ∧ rs.flatten.length < 64 ∧ ∀ (H' : Hp), Same H H' → Q (.bl (told rs.flatten)) H'
theorem sorted_same : ∀ {a b : List Int}, a.Perm b → a.Pairwise (· ≤ ·) → b.Pairwise (· ≤ ·) → a = b
  | [], b, h, _, _ => by rw [List.nil_perm.mp h]
  | x :: a, [], h, _, _ => by cases List.perm_nil.mp h
  | x :: a, y :: b, h, ha, hb => by
    obtain ⟨a1, a2⟩ := List.pairwise_cons.mp ha
    obtain ⟨b1, b2⟩ := List.pairwise_cons.mp hb
    have hx : x ∈ y :: b := h.mem_iff.mp List.mem_cons_self
    have hy : y ∈ x :: a := h.mem_iff.mpr List.mem_cons_self
    have e : x = y := by
      rcases List.mem_cons.mp hx with z | z
      · exact z
      · rcases List.mem_cons.mp hy with z' | z'
        · exact z'.symm
        · have := b1 x z
          have := a1 y z'
          omega
    subst e
    rw [sorted_same (List.perm_cons x |>.mp h) a2 b2]
theorem upTo_sorted (n : Nat) : (upTo n).Pairwise (· ≤ ·) := by
  unfold upTo
  rw [List.pairwise_map]
  exact List.Pairwise.imp (fun h => by omega) (List.pairwise_lt_range (n := n))
theorem sorted_told {l l' : List Int} (h : l'.Perm l) (hs : l'.Pairwise (· ≤ ·)) : (l' = upTo l.length) ↔ l.Perm (upTo l.length) :=
  ⟨fun e => e ▸ h.symm, fun e => sorted_same (h.trans e) hs (upTo_sorted _)⟩
section
variable {P : Program} {w : World} {K : PySem.W.Frag} {mg : Str → Option Value} {base : Heap}
abbrev tListOf (K : PySem.W.Frag) (i : Nat) : TE := tCB (fun xs H Q => ∃ p ys, xs = [.ref p] ∧ (SqL K H p ys ∨ SqT K H p ys) ∧ ∀ l, H l = none → Q (.ref l) (upd H l (.lst ys))) (tCons (tVar i) tNil)
theorem scCopies : FnScope ["_law_rounds"] ["_law_rounds"] (defScope sCopies) := ⟨rfl, rfl, rfl, by decide +kernel, rfl, by decide +kernel, by decide +kernel⟩
theorem ok_copies {f : Addr} {fd : FuncData} (F : Fun K "_law_copies" "_law_copies" sCopies f fd) (T : Txt mg) : FnOk P w K mg base CX0 1 f fd ["_law_rounds"] spCopies := by
  refine F.ok scCopies (fun vs H Q E h => ?_) (fun cdv A outer s H vs Q E hr h => ?_)
  · obtain ⟨p, ps, rs, rfl, _⟩ := h
    rfl
  · obtain ⟨p, ps, rs, rfl, R, hsz, k⟩ := h
    have hs : sizeLine = 16777216 := sizeLine_eq
    refine ⟨_, pss_one (ps_ret (pe_comp (te := tListOf K 0) rfl (Blk.plain rfl (by decide +kernel) (by decide +kernel)) (pi_list (pv 0)) (fun _ _ _ _ => pts_nil) (fun _ _ _ _ => pe_callTy call_list_of (by rfl) T.list PyProof.Rows.boot_list (pa_cons (pv 0) pa_nil)))), ?_⟩
    refine ⟨_, rfl, p, rfl, ⟨_, .of R.out⟩, fun D hD => comp_list (xs := ps.map V.ref) (fun i H2 => ∃ qs : List Addr, Same H H2 ∧ qs.length = i ∧ i ≤ rs.length ∧ H2 D = some (.lst (qs.map V.ref)) ∧ qs.Nodup ∧ (∀ q ∈ qs, H q = none ∧ q ≠ D) ∧ ∀ (j : Nat) (q : Addr) (r : List Int), qs[j]? = some q → rs[j]? = some r → H2 q = some (.lst (r.map V.int)))
      ⟨[], (Same.refl H).put hD, rfl, Nat.zero_le _, upd_same, List.nodup_nil, (fun q hq => by cases hq), (fun j q r e => by simp at e)⟩ (fun i H2 _ ⟨_, s2, _⟩ => .of (s2 _ _ R.out)) ?_ ?_⟩
    · rintro i y H2 hi ⟨qs, s2, hl, hle, hd, nd, hn, hrow⟩
      obtain ⟨q, hq, rfl⟩ := ref_at hi
      obtain ⟨r, hr', hH⟩ := R.at hq
      have hir : i < rs.length := (List.getElem?_eq_some_iff.mp hr').1
      refine yes_go ⟨_, rfl, q, _, rfl, .inl (.of (s2 _ _ hH)), fun l hl' => ⟨qs.map V.ref, ?_, ?_, qs ++ [l], ?_, ?_, ?_, ?_, ?_, ?_, ?_⟩⟩
      · rw [upd_ne (ne_of_none hd hl')]; exact hd
      · rw [List.length_map]; omega
      · exact ((s2.put (s2.free hl')).put hD)
      · rw [List.length_append, hl]; rfl
      · omega
      · rw [upd_same, List.map_append]; rfl
      · refine List.nodup_append.mpr ⟨nd, by simp, fun a ha b hb z => ?_⟩
        have : b = l := by simpa using hb
        subst this; subst z
        obtain ⟨j, hj⟩ := List.mem_iff_getElem?.mp ha
        have hjl : j < qs.length := (List.getElem?_eq_some_iff.mp hj).1
        have hjr : j < rs.length := by omega
        have := hrow j _ _ hj (List.getElem?_eq_getElem hjr)
        rw [hl'] at this
        cases this
      · intro a ha
        rcases List.mem_append.mp ha with z | z
        · exact hn a z
        · have : a = l := by simpa using z
          subst this
          exact ⟨s2.free hl', fun e => by rw [e, hd] at hl'; cases hl'⟩
      · intro j a t e1 e2
        have key : a ≠ D := by
          rcases Nat.lt_or_ge j qs.length with z | z
          · rw [List.getElem?_append_left z] at e1
            exact (hn a (List.mem_of_getElem? e1)).2
          · rw [List.getElem?_append_right z] at e1
            have : a = l := by
              cases q' : j - qs.length with
              | zero => rw [q'] at e1; simpa using e1.symm
              | succ m => rw [q'] at e1; simp at e1
            subst this
            exact fun e => by rw [e, hd] at hl'; cases hl'
        rw [upd_ne key]
        rcases Nat.lt_or_ge j qs.length with z | z
        · rw [List.getElem?_append_left z] at e1
          have h2 := hrow j a t e1 e2
          rw [upd_ne (ne_of_none h2 hl')]
          exact h2
        · rw [List.getElem?_append_right z] at e1
          have hj : j = qs.length := by
            cases q' : j - qs.length with
            | zero => omega
            | succ m => rw [q'] at e1; simp at e1
          subst hj
          have : l = a := by simpa using e1
          subst this
          rw [hl, hr'] at e2
          cases e2
          exact upd_same
    · rintro H2 ⟨qs, s2, hl, hle, hd, nd, hn, hrow⟩
      rw [List.length_map, R.len] at hl
      exact k D qs H2 ⟨hd, nd, hl, hrow⟩ s2 hD fun q hq => (hn q hq).1
theorem scAllEnds : FnScope ["rounds", "ends", "standing"] ["rounds"] (defScope sAllEnds) := ⟨rfl, rfl, rfl, by decide +kernel, rfl, by decide +kernel, by decide +kernel⟩
theorem flat_take {rs : Rs} {i : Nat} {r : List Int} (h : rs[i]? = some r) : (rs.take (i + 1)).flatten = (rs.take i).flatten ++ r := by
  rw [take_at h, List.flatten_append]
  simp
theorem flat_take_le (rs : Rs) (i : Nat) : (rs.take i).flatten.length ≤ rs.flatten.length := by
  have e : rs.flatten = (rs.take i).flatten ++ (rs.drop i).flatten := by rw [← List.flatten_append, List.take_append_drop]
  rw [e, List.length_append]
  omega
theorem ok_allEnds {f : Addr} {fd : FuncData} (F : Fun K "all_ends" "all_ends" sAllEnds f fd) : FnOk P w K mg base CX0 1 f fd ["rounds"] spAllEnds := by
  refine F.ok scAllEnds (fun vs H Q E h => ?_) (fun cdv A outer s H vs Q E hr h => ?_)
  · obtain ⟨p, ps, rs, rfl, _⟩ := h
    rfl
  · obtain ⟨p, ps, rs, rfl, R, hsz, k⟩ := h
    have hs : sizeLine = 16777216 := sizeLine_eq
    have nd := scAllEnds.nd
    refine ⟨_, pss_cons (ps_set (i := 1) nd rfl (Or.inl rfl) (pe_lst pa_nil))
      (pss_cons (ps_for PassesOwn.never rfl (pi_list (pv 0)) (pg_name (i := 2) nd rfl (Or.inl rfl))
        (pss_one (ps_expr (pe_bm PySem.F.plainAttrs_list PySem.F.slot_list_extend PySem.F.type_list_extend mt_extend (pv 1) (pa_cons (pv 2) pa_nil)))))
      (pss_one (ps_ret (pv 1)))), ?_⟩
    refine ⟨(by show 0 ≤ sizeLine; omega), fun l hl => ?_⟩
    refine ⟨_, rfl, p, rfl, ⟨_, .of (((Same.refl H).put hl) _ _ R.out)⟩, for_list (K := K) (a := p) (xs := ps.map V.ref) (fun i σ H2 => ∃ v, σ = [some (.ref p), some (.ref l), v] ∧ Same H H2 ∧ H2 l = some (.lst ((rs.take i).flatten.map V.int))) ⟨none, rfl, (Same.refl H).put hl, upd_same⟩
      (fun i σ H2 _ ⟨_, _, s2, _⟩ => .of (s2 _ _ R.out)) ?_ ?_⟩
    · rintro i y σ H2 hi ⟨v, rfl, s2, hL⟩
      obtain ⟨q, hq, rfl⟩ := ref_at hi
      obtain ⟨r, hr', hH⟩ := R.at hq
      have e1 := flat_take hr'
      have e2 := flat_take_le rs (i + 1)
      rw [e1, List.length_append] at e2
      refine ⟨_, rfl, .inl ⟨rfl, _, .of hL⟩, _, rfl, l, q, _, _, rfl, rfl, hL, s2 _ _ hH, (by rw [List.length_map, List.length_map]; omega), _, rfl, s2.put hl, ?_⟩
      rw [upd_same, e1, List.map_append]
    · rintro σ H2 ⟨v, rfl, s2, hL⟩
      rw [List.length_map, R.len, List.take_length] at hL
      exact ⟨_, rfl, k l H2 hl hL s2⟩
theorem scIsDrawing : FnScope ["rounds", "ends"] ["rounds"] (defScope sIsDrawing) := ⟨rfl, rfl, rfl, by decide +kernel, rfl, by decide +kernel, by decide +kernel⟩
theorem map_upTo (n : Nat) : ((List.range n).map fun (i : Nat) => V.int (i : Int)) = (upTo n).map V.int := by
  unfold upTo
  rw [List.map_map]
  rfl
theorem ok_isDrawing {f : Addr} {fd : FuncData} (F : Fun K "is_drawing" "is_drawing" sIsDrawing f fd) (T : Txt mg) (DE : Def P w K mg base "all_ends" 1 ["rounds"] spAllEnds) : FnOk P w K mg base CX0 2 f fd ["rounds"] spIsDrawing := by
  refine F.ok scIsDrawing (fun vs H Q E h => ?_) (fun cdv A outer s H vs Q E hr h => ?_)
  · obtain ⟨p, ps, rs, rfl, _⟩ := h
    rfl
  · obtain ⟨p, ps, rs, rfl, R, hsz, k⟩ := h
    have hs : sizeLine = 16777216 := sizeLine_eq
    have nd := scIsDrawing.nd
    refine ⟨_, pss_cons (ps_set (i := 1) nd rfl (Or.inl rfl) (pcall DE hr (pa_cons (pv 0) pa_nil)))
      (pss_one (ps_ret (pe_and (pe_cmpR op_eq (pe_op op_mod (pe_callB call_len_seq (by rfl) T.len PySem.boot_len (pa_cons (pv 1) pa_nil)) pe_int) pe_int (nomark _))
        (pe_one (pe_cmpR (op_eqD hr.units) (pe_callB call_sorted (by rfl) T.sorted PyProof.Rows.boot_sorted (pa_cons (pv 1) pa_nil))
          (pe_callTy (call_list_rng rfl) (by rfl) T.list PyProof.Rows.boot_list (pa_cons (pe_callTy call_range1 (by rfl) T.range PyProof.Rows.boot_range (pa_cons (pe_callB call_len_seq (by rfl) T.len PySem.boot_len (pa_cons (pv 1) pa_nil)) pa_nil)) pa_nil)) (nomark _)))))), ?_⟩
    refine ⟨_, rfl, p, ps, rs, rfl, R, by omega, fun l H1 hl hL s1 => ?_⟩
    refine ⟨_, rfl, l, _, rfl, .inl (.of hL), _, _, rfl, rfl, (by show (0 : Int) < 2; decide), rfl, _, rfl, ?_⟩
    refine ite2 (fun h => ?_) (fun h => ?_)
    · have he : rs.flatten.length % 2 = 0 := by
        have h' := of_decide_eq_true h
        injection h' with h'
        rw [List.length_map] at h'
        omega
      refine ⟨_, rfl, l, rs.flatten, rfl, .of hL, hsz, fun l2 ns' h2 hp hw => ?_⟩
      refine ⟨_, rfl, l, _, rfl, .inl (.of (by rw [upd_ne (ne_of_none hL h2)]; exact hL)), _, rfl, fun l3 h3 => ?_⟩
      obtain ⟨n32, h3'⟩ := upd_none h3
      refine ⟨l3, (rs.flatten.map V.int).length, rfl, upd_same, (by rw [List.length_map]; omega), fun l4 h4 => ?_⟩
      obtain ⟨n43, h4'⟩ := upd_none h4
      obtain ⟨n42, h4''⟩ := upd_none h4'
      refine ⟨intsD ns', intsD (upTo (rs.flatten.map V.int).length), .ints (.of ?_), .ints (.of ?_), lay_ints _, lay_ints _, Nat.le_trans (depth_ints _) (by decide), ?_⟩
      · rw [upd_ne (Ne.symm n42), upd_ne (Ne.symm n32), upd_same]
      · rw [upd_same, map_upTo]
      · rw [eqv_ints, List.length_map]
        have e : (decide (ns' = upTo rs.flatten.length)) = told rs.flatten := by
          unfold told
          rw [Bool.eq_iff_iff, decide_eq_true_iff, decide_eq_true_iff, sorted_told hp hw]
          exact ⟨fun z => ⟨he, z⟩, fun z => z.2⟩
        rw [e]
        exact k _ (((s1.put (s1.free h2)).put (s1.free h3')).put (s1.free h4''))
    · have he : ¬ rs.flatten.length % 2 = 0 := fun z => by
        have e0 : (((rs.flatten.map V.int).length : Nat) : Int) % 2 = 0 := by rw [List.length_map]; omega
        exact h (decide_eq_true (congrArg V.int e0))
      have e : told rs.flatten = false := by
        unfold told
        exact decide_eq_false fun z => he z.1
      rw [e] at k
      exact k _ s1
end
end Ink
namespace Ink
open PySem L2
theorem row_nodup {rs : Rs} (nd : rs.flatten.Nodup) {r : List Int} (h : r ∈ rs) : r.Nodup := by
  obtain ⟨a, b, rfl⟩ := List.append_of_mem h
  rw [List.flatten_append, List.flatten_cons] at nd
  exact (List.nodup_append.mp (List.nodup_append.mp nd).2.1).1
theorem perm_of : ∀ {a b : List Int}, a.Nodup → b.Nodup → (∀ z, z ∈ a ↔ z ∈ b) → a.Perm b
  | [], b, _, _, h => by
    cases b with
    | nil => exact .nil
    | cons y b => exact absurd ((h y).mpr List.mem_cons_self) (by simp)
  | x :: a, b, ha, hb, h => by
    obtain ⟨h1, h2⟩ := List.nodup_cons.mp ha
    have hx : x ∈ b := (h x).mp List.mem_cons_self
    refine ((perm_of h2 (hb.erase x) fun z => ?_).cons x).trans (List.perm_cons_erase hx).symm
    rw [hb.mem_erase_iff]
    constructor
    · intro hz
      exact ⟨fun e => h1 (e ▸ hz), (h z).mp (List.mem_cons_of_mem _ hz)⟩
    · rintro ⟨hne, hz⟩
      exact (List.mem_cons.mp ((h z).mpr hz)).resolve_left hne
def tab (f : Int → Int) (l : List Int) : List (Key × V) := l.map fun e => ((Sum.inl e : Key), V.int (f e))
theorem tab_append (f : Int → Int) (l m : List Int) : tab f (l ++ m) = tab f l ++ tab f m := List.map_append
theorem tab_val {f : Int → Int} : ∀ {l : List Int} {e : Int}, e ∈ l → valV (tab f l) (Sum.inl e : Key) = some (V.int (f e))
  | [], _, h => by cases h
  | x :: l, e, h => by
    by_cases hx : x = e
    · subst hx
      exact valV_pos (p := ((Sum.inl x : Key), V.int (f x))) rfl
    · have h' : e ∈ l := (List.mem_cons.mp h).resolve_left fun z => hx z.symm
      refine Eq.trans (valV_neg (p := ((Sum.inl x : Key), V.int (f x))) fun z => hx (Sum.inl.inj z)) (tab_val h')
theorem tab_no {f : Int → Int} : ∀ {l : List Int} {e : Int}, e ∉ l → valV (tab f l) (Sum.inl e : Key) = none
  | [], _, _ => rfl
  | x :: l, e, h => by
    have hx : x ≠ e := fun z => h (z ▸ List.mem_cons_self)
    exact Eq.trans (valV_neg (p := ((Sum.inl x : Key), V.int (f x))) fun z => hx (Sum.inl.inj z)) (tab_no fun z => h (List.mem_cons_of_mem _ z))
theorem tab_put {f : Int → Int} {l : List Int} {e : Int} {v : Int} (h : e ∉ l) (hv : v = f e) : putK (tab f l) (Sum.inl e : Key) (V.int v) = tab f (l ++ [e]) := by
  rw [putK_new _ (tab_no h), tab_append, hv]
  rfl
theorem tab_length (f : Int → Int) (l : List Int) : (tab f l).length = l.length := List.length_map _
structure TabOf (H : Hp) (d : Addr) (g : Int → Int) (n : Nat) : Prop where
  ex : ∃ kvs : List (Key × V), H d = some (.dK kvs) ∧ kvs.length = n ∧ ∀ e : Int, 0 ≤ e ∧ e < n → valV kvs (Sum.inl e : Key) = some (V.int (g e))
theorem TabOf.same {H H' : Hp} {d : Addr} {g : Int → Int} {n : Nat} (t : TabOf H d g n) (s : Same H H') : TabOf H' d g n := let ⟨kvs, a, b, c⟩ := t.ex; ⟨kvs, s _ _ a, b, c⟩
theorem TabOf.get {H : Hp} {d : Addr} {g : Int → Int} {n : Nat} (t : TabOf H d g n) {e : Int} (he : 0 ≤ e ∧ e < (n : Int)) : DGet H d (.int e) (some (V.int (g e))) := by
  obtain ⟨kvs, a, b, c⟩ := t.ex
  have := DGet.k (k := (Sum.inl e : Key)) a
  rw [c e he] at this
  exact this
structure SeenOf (H : Hp) (d : Addr) (l : List Int) (m : Nat) : Prop where
  ex : ∃ kvs : List (Key × V), H d = some (.dK kvs) ∧ kvs.length ≤ m ∧ ∀ e : Int, (valV kvs (Sum.inl e : Key)).isSome = decide (e ∈ l)
theorem SeenOf.new {H : Hp} {d : Addr} (h : H d = some (.dK [])) : SeenOf H d [] 0 := ⟨[], h, Nat.le_refl _, fun e => by simp [valV_nil]⟩
theorem SeenOf.put {H : Hp} {d : Addr} {l : List Int} {m : Nat} (t : SeenOf H d l m) (hm : m < 1000000) (e : Int) (v : V) : ∃ H', DPut H d (.int e) v H' ∧ SeenOf H' d (l ++ [e]) (m + 1) ∧ ∃ o, H' = L2.upd H d o := by
  obtain ⟨kvs, a, b, c⟩ := t.ex
  refine ⟨_, DPut.k (k := (Sum.inl e : Key)) a (by have : sizeLine = 16777216 := sizeLine_eq; omega), ⟨_, upd_same, ?_, fun z => ?_⟩, _, rfl⟩
  · have := length_putK kvs (Sum.inl e : Key) v
    omega
  · rw [valV_put]
    by_cases hz : z = e
    · subst hz
      rw [if_pos rfl]
      simp
    · rw [if_neg fun q => hz (Sum.inl.inj q), c z, Bool.eq_iff_iff]
      simp [hz]
section
variable {P : Program} {w : World} {K : PySem.W.Frag} {mg : Str → Option Value} {base : Heap}
theorem scAcrossP : FnScope ["end"] ["end"] (defScope sAcrossP) := ⟨rfl, rfl, rfl, by decide +kernel, rfl, by decide +kernel, by decide +kernel⟩
theorem ok_acrossP {f : Addr} {fd : FuncData} (F : Fun K "across" "across" sAcrossP f fd) : FnOk P w K mg base CX0 1 f fd ["end"] spAcross := by
  refine F.ok scAcrossP (fun vs H Q E h => ?_) (fun cdv A outer s H vs Q E hr h => ?_)
  · obtain ⟨e, rfl, _⟩ := h
    rfl
  · obtain ⟨e, rfl, k⟩ := h
    refine ⟨_, pss_one (ps_ret (pe_ifExp (pt_cmpR op_eq (pe_op op_mod (pv 0) pe_int) pe_int (nomark _)) (pe_op op_add (pv 0) pe_int) (pe_op op_sub (pv 0) pe_int))), ?_⟩
    refine ⟨_, rfl, _, _, rfl, rfl, (by show (0 : Int) < 2; decide), rfl, _, rfl, ?_⟩
    refine ite2 (fun h => ?_) (fun h => ?_)
    · have h' := of_decide_eq_true h
      injection h' with h'
      refine ⟨_, rfl, _, _, rfl, rfl, ?_⟩
      rw [show acr e = e + 1 by unfold acr; omega] at k
      exact k
    · have h' : ¬ e % 2 = 0 := fun z => h (decide_eq_true (congrArg V.int z))
      refine ⟨_, rfl, _, _, rfl, rfl, ?_⟩
      rw [show acr e = e - 1 by unfold acr; omega] at k
      exact k
def spNextEnds : Sp := fun vs H Q _ => ∃ (p : Addr) (ps : List Addr) (rs : Rs) (n : Nat), vs = [.ref p] ∧ Rows H p ps rs ∧ Dr rs n ∧ n ≤ 1000 ∧
  ∀ (d : Addr) (H' : Hp), H d = none → TabOf H' d (nextIn rs) n → Same H H' → Q (.ref d) H'
theorem scNextEnds : FnScope ["rounds", "behind", "ends", "place", "end"] ["rounds"] (defScope sNextEnds) := ⟨rfl, rfl, rfl, by decide +kernel, rfl, by decide +kernel, by decide +kernel⟩
theorem ok_nextEnds {f : Addr} {fd : FuncData} (F : Fun K "next_ends" "next_ends" sNextEnds f fd) (T : Txt mg) : FnOk P w K mg base CX0 1 f fd ["rounds"] spNextEnds := by
  refine F.ok scNextEnds (fun vs H Q E h => ?_) (fun cdv A outer s H vs Q E hr h => ?_)
  · obtain ⟨p, ps, rs, n, rfl, _⟩ := h
    rfl
  · obtain ⟨p, ps, rs, n, rfl, R, D, hn, k⟩ := h
    have hs : sizeLine = 16777216 := sizeLine_eq
    have nd := scNextEnds.nd
    have hu1 := hu_of hr
    refine ⟨_, pss_cons (ps_set (i := 1) nd rfl (Or.inl rfl) pe_dnewK)
      (pss_cons (ps_for PassesOwn.never rfl (pi_list (pv 0)) (pg_name (i := 2) nd rfl (Or.inl rfl)) (pss_one (ps_for PassesOwn.never rfl (pi_enum (by rfl) T.enum (pa_cons (pv 2) pa_nil)) (pg_tup rfl (pgs_cons (pg_name (i := 3) nd rfl (Or.inl rfl)) (pgs_cons (pg_name (i := 4) nd rfl (Or.inl rfl)) pgs_nil))) (pss_one (ps_dput hu1 (pv 1) (pv 4) (pe_ix ix_list (pv 2) (pe_op op_mod (pe_op op_add (pv 3) pe_int) (pe_callB call_len_seq (by rfl) T.len PySem.boot_len (pa_cons (pv 2) pa_nil))) (fun _ _ => rfl)) rfl)))))
      (pss_one (ps_ret (pv 1)))), ?_⟩
    intro d hd
    have s0 : Same H (L2.upd H d (.dK [])) := (Same.refl H).put hd
    refine ⟨_, rfl, p, rfl, ⟨_, .of (s0 _ _ R.out)⟩, for_list (K := K) (a := p) (xs := ps.map V.ref) (fun i σ H2 => ∃ v2 v3 v4, σ = [some (.ref p), some (.ref d), v2, v3, v4] ∧ Same H H2 ∧ H2 d = some (.dK (tab (nextIn rs) (rs.take i).flatten))) ⟨none, none, none, rfl, s0, upd_same⟩
      (fun i σ H2 _ ⟨_, _, _, _, s2, _⟩ => .of (s2 _ _ R.out)) ?_ ?_⟩
    · rintro i y σ H2 hi ⟨v2, v3, v4, rfl, s2, hL⟩
      obtain ⟨q, hq, rfl⟩ := ref_at hi
      obtain ⟨r, hr', hH⟩ := R.at hq
      have hrow : r.length ≤ n := row_le D (List.mem_of_getElem? hr')
      have hfl := flat_take_le rs i
      rw [D.len] at hfl
      refine ⟨_, rfl, q, rfl, ⟨_, .of (s2 _ _ hH)⟩, for_enum (K := K) (a := q) (xs := r.map V.int) (fun j σ H3 => ∃ v3 v4, σ = [some (.ref p), some (.ref d), some (.ref q), v3, v4] ∧ Same H H3 ∧ H3 d = some (.dK (tab (nextIn rs) ((rs.take i).flatten ++ r.take j)))) ⟨v3, v4, rfl, s2, by rw [List.take_zero, List.append_nil]; exact hL⟩
        (fun j σ H3 _ ⟨_, _, _, s3, _⟩ => .of (s3 _ _ hH)) ?_ ?_⟩
      · rintro j z σ H3 t hj ⟨v3, v4, rfl, s3, hL3⟩ ht
        obtain ⟨e, he, rfl⟩ : ∃ e, r[j]? = some e ∧ z = V.int e := by
          rw [List.getElem?_map] at hj
          cases e : r[j]? with
          | none => rw [e] at hj; cases hj
          | some t => rw [e] at hj; exact ⟨t, rfl, (Option.some.inj hj).symm⟩
        have hjl : j < r.length := (List.getElem?_eq_some_iff.mp he).1
        have f3 := s3.free ht
        have s4 : Same H (L2.upd H3 t (.tup [.int (j : Int), .int e])) := s3.put f3
        have hL4 : (L2.upd H3 t (.tup [.int (j : Int), .int e])) d = some (.dK (tab (nextIn rs) ((rs.take i).flatten ++ r.take j))) := by rw [upd_ne (ne_of_none hL3 ht)]; exact hL3
        have hmod : ((j : Int) + 1) % (((r.map V.int).length : Nat) : Int) = (((j + 1) % r.length : Nat) : Int) := by rw [List.length_map, Int.natCast_emod]; rfl
        have hlt : (j + 1) % r.length < r.length := Nat.mod_lt _ (by omega)
        have hnew : e ∉ (rs.take i).flatten ++ r.take j := fun z => by
          rcases List.mem_append.mp z with z | z
          · exact later_new D.nd hr' he z
          · obtain ⟨j', hj'⟩ := List.mem_iff_getElem?.mp z
            obtain ⟨l1, e1⟩ := List.getElem?_eq_some_iff.mp hj'
            rw [List.length_take] at l1
            rw [List.getElem_take] at e1
            obtain ⟨l2, e2⟩ := List.getElem?_eq_some_iff.mp he
            have ndr : r.Nodup := row_nodup D.nd (List.mem_of_getElem? hr')
            have := (List.getElem_inj ndr).mp (e1.trans e2.symm)
            omega
        have hval : r.getD ((j + 1) % r.length) 0 = nextIn rs e := by
          rw [nextIn_at D.nd hr' he, List.getD_eq_getElem?_getD, List.getD_eq_getElem?_getD, List.getElem?_eq_getElem hlt]
          rfl
        refine ⟨t, _, rfl, .of upd_same, rfl, _, _, rfl, _, _, rfl, rfl, ?_⟩
        refine ⟨_, rfl, _, rfl, _, _, rfl, rfl, _, rfl, q, _, rfl, .inl (.of (s4 _ _ hH)), _, _, rfl, rfl, (by rw [List.length_map]; omega), q, _, _, _, rfl, rfl, .of (s4 _ _ hH), int_at hlt hmod, _, rfl, _, rfl, d, _, rfl, DPut.k (k := (Sum.inl e : Key)) hL4 (by rw [tab_length, List.length_append, List.length_take]; omega), _, _, rfl, s4.put hd, ?_⟩
        rw [upd_same, tab_put hnew hval, List.append_assoc, take_at he]
      · rintro σ H3 ⟨v3, v4, rfl, s3, hL3⟩
        rw [List.length_map, List.take_length] at hL3
        exact ⟨_, _, _, rfl, s3, by rw [flat_take hr']; exact hL3⟩
    · rintro σ H2 ⟨v2, v3, v4, rfl, s2, hL⟩
      rw [List.length_map, R.len, List.take_length] at hL
      exact ⟨_, rfl, k d H2 hd ⟨_, hL, by rw [tab_length, D.len], fun e he => tab_val ((D.mem e).mpr he)⟩ s2⟩
end
end Ink
namespace Ink
open PySem L2
structure Goes (g : Int → Int) (n : Nat) : Prop where
  mem : ∀ x : Int, 0 ≤ x ∧ x < n → 0 ≤ g (acr x) ∧ g (acr x) < n
  inj : ∀ x y : Int, 0 ≤ x ∧ x < n → 0 ≤ y ∧ y < n → g (acr x) = g (acr y) → x = y
  even : n % 2 = 0
theorem Dr.goes {rs : Rs} {n : Nat} (d : Dr rs n) : Goes (nextIn rs) n := ⟨fun x h => d.stp_mem h.1 h.2, fun x y hx hy h => d.stp_inj hx hy h, d.even⟩
abbrev fc (g : Int → Int) (x : Int) : Int := g (acr x)
section
variable {P : Program} {w : World} {K : PySem.W.Frag} {mg : Str → Option Value} {base : Heap}
def spFaceFrom : Sp := fun vs H Q _ => ∃ (d : Addr) (g : Int → Int) (n : Nat) (e : Int), vs = [.ref d, .int e] ∧ TabOf H d g n ∧ Goes g n ∧ n ≤ 1000 ∧ 0 ≤ e ∧ e < n ∧
  ∀ (q : Addr) (row : List Int) (H' : Hp), IsFace (fc g) e row → H q = none → H' q = some (.lst (row.map V.int)) → Same H H' → Q (.ref q) H'
theorem scFaceFrom : FnScope ["behind", "start", "face", "end"] ["behind", "start"] (defScope sFaceFrom) := ⟨rfl, rfl, rfl, by decide +kernel, rfl, by decide +kernel, by decide +kernel⟩
theorem ok_faceFrom {f : Addr} {fd : FuncData} (F : Fun K "face_from" "face_from" sFaceFrom f fd) (DA : Def P w K mg base "across" 1 ["end"] spAcross) : FnOk P w K mg base CX0 2 f fd ["behind", "start"] spFaceFrom := by
  refine F.ok scFaceFrom (fun vs H Q E h => ?_) (fun cdv A outer s H vs Q E hr h => ?_)
  · obtain ⟨d, g, n, e, rfl, _⟩ := h
    rfl
  · obtain ⟨d, g, n, e, rfl, TB, G, hn, e0, e1, k⟩ := h
    have hs : sizeLine = 16777216 := sizeLine_eq
    have nd := scFaceFrom.nd
    have hu1 := hu_of hr
    refine ⟨_, pss_cons (ps_set (i := 2) nd rfl (Or.inl rfl) (pe_lst (pa_cons (pv 1) pa_nil)))
      (pss_cons (ps_set (i := 3) nd rfl (Or.inl rfl) (pe_dget hu1 (pv 0) (pcall DA hr (pa_cons (pv 1) pa_nil)) (fun _ _ => rfl)))
      (pss_cons (ps_while PassesOwn.never (pt_cmpR op_ne (pv 3) (pv 1) (nomark _)) (pss_cons (ps_expr (pe_bm PySem.F.plainAttrs_list PySem.F.slot_list_append PySem.F.type_list_append mt_append (pv 2) (pa_cons (pv 3) pa_nil)))
      (pss_one (ps_set (i := 3) nd rfl (Or.inl rfl) (pe_dget hu1 (pv 0) (pcall DA hr (pa_cons (pv 3) pa_nil)) (fun _ _ => rfl))))))
      (pss_one (ps_ret (pv 2))))), ?_⟩
    refine ⟨_, rfl, (by show 1 ≤ sizeLine; omega), fun l hl => ?_⟩
    have s0 : Same H (L2.upd H l (.lst [.int e])) := (Same.refl H).put hl
    have a0 := acr_lt G.even e0 e1
    refine ⟨_, rfl, _, rfl, e, rfl, d, _, rfl, (TB.same s0).get a0, ?_⟩
    obtain ⟨per, hp0, hp1, hp2⟩ := go_round (f := fc g) (n := n) G.mem G.inj ⟨e0, e1⟩
    refine ⟨fun m σ H2 => ∃ j, σ = [some (.ref d), some (.int e), some (.ref l), some (.int (itr (fc g) (j + 1) e))] ∧ H2 l = some (.lst ((orb (fc g) e j).map V.int)) ∧ Same H H2 ∧ j + 1 ≤ per ∧ (∀ i, 0 < i → i ≤ j → itr (fc g) i e ≠ e) ∧ m = per - j,
      ⟨per, 0, rfl, upd_same, s0, hp0, fun i h1 h2 => absurd h1 (by omega), rfl⟩, ?_⟩
    rintro m σ H2 ⟨j, rfl, hL, s2, hj, hno, rfl⟩
    refine ⟨_, rfl, _, rfl, rfl, _, rfl, ?_⟩
    refine ite2 (fun h => ?_) (fun h => ?_)
    · have hne : itr (fc g) (j + 1) e ≠ e := by
        intro z
        rw [z] at h
        simp at h
      have hlt : j + 1 < per := by
        rcases Nat.lt_or_ge (j + 1) per with z | z
        · exact z
        · have : j + 1 = per := by omega
          rw [this] at hne
          exact absurd hp2 hne
      have s3 : Same H (L2.upd H2 l (.lst ((orb (fc g) e j).map V.int ++ [.int (itr (fc g) (j + 1) e)]))) := s2.put hl
      have hin := itr_in (f := fc g) (n := n) G.mem ⟨e0, e1⟩ (j + 1)
      refine ⟨fun σ' H' => σ' = [some (.ref d), some (.int e), some (.ref l), some (.int (itr (fc g) (j + 2) e))] ∧ H' l = some (.lst ((orb (fc g) e (j + 1)).map V.int)) ∧ Same H H',
        fun σ' H' ⟨a, b, c⟩ => ⟨per - (j + 1), by omega, j + 1, a, b, c, by omega, fun i h1 h2 => ?_, rfl⟩, ?_⟩
      · rcases Nat.lt_or_ge j i with z | z
        · have : i = j + 1 := by omega
          rw [this]; exact hne
        · exact hno i h1 z
      · refine ⟨_, rfl, .inl ⟨rfl, _, .of hL⟩, _, rfl, l, _, _, rfl, rfl, hL, (by rw [List.length_map, orb_length]; omega), ?_⟩
        refine ⟨_, rfl, _, rfl, _, rfl, d, _, rfl, (TB.same s3).get (acr_lt G.even hin.1 hin.2), rfl, ?_, s3⟩
        rw [upd_same, orb_succ, List.map_append]
        rfl
    · have heq : itr (fc g) (j + 1) e = e := by
        by_cases z : itr (fc g) (j + 1) e = e
        · exact z
        · exact absurd (by simp [z]) h
      exact ⟨_, rfl, k l _ H2 ⟨j, rfl, heq, hno⟩ hl hL s2⟩
def spRefuse : Sp := fun vs H Q _ => ∃ (p : Addr) (ps : List Addr) (rs : Rs) (n : Nat), vs = [.ref p] ∧ Rows H p ps rs ∧ Dr rs n ∧ n < 64 ∧ ∀ (H' : Hp), Same H H' → Q .non H'
theorem Dr.told {rs : Rs} {n : Nat} (d : Dr rs n) : told rs.flatten = true := by
  unfold Ink.told
  rw [d.len]
  refine decide_eq_true ⟨d.even, ?_⟩
  have hn : (upTo n).Nodup := by
    unfold upTo
    rw [List.nodup_iff_pairwise_ne, List.pairwise_map]
    exact List.Pairwise.imp (fun h => by omega) (List.pairwise_lt_range (n := n))
  refine perm_of d.nd hn (fun z => ?_)
  rw [d.mem]
  unfold upTo
  rw [List.mem_map]
  constructor
  · intro h
    exact ⟨z.toNat, List.mem_range.mpr (by omega), by omega⟩
  · rintro ⟨i, hi, rfl⟩
    have := List.mem_range.mp hi
    omega
theorem scRefuse : FnScope ["rounds"] ["rounds"] (defScope sRefuse) := ⟨rfl, rfl, rfl, by decide +kernel, rfl, by decide +kernel, by decide +kernel⟩
theorem ok_refuse {f : Addr} {fd : FuncData} (F : Fun K "refuse_no_drawing" "refuse_no_drawing" sRefuse f fd) (DI : Def P w K mg base "is_drawing" 2 ["rounds"] spIsDrawing) : FnOk P w K mg base CX0 3 f fd ["rounds"] spRefuse := by
  refine F.ok scRefuse (fun vs H Q E h => ?_) (fun cdv A outer s H vs Q E hr h => ?_)
  · obtain ⟨p, ps, rs, n, rfl, _⟩ := h
    rfl
  · obtain ⟨p, ps, rs, n, rfl, R, D, hn, k⟩ := h
    refine ⟨_, pss_one (ps_if (pt_not (pt_val (pcall DI hr (pa_cons (pv 0) pa_nil)))) (pss_never) (pss_nil)), ?_⟩
    refine ⟨_, rfl, p, ps, rs, rfl, R, by rw [D.len]; exact hn, fun H' s' => ⟨_, rfl, ?_⟩⟩
    rw [D.told]
    exact iteF (k H' s')
def spFaces : Sp := fun vs H Q _ => ∃ (p : Addr) (ps : List Addr) (rs : Rs) (n : Nat), vs = [.ref p] ∧ Rows H p ps rs ∧ Dr rs n ∧ n < 64 ∧
  ∀ (p' : Addr) (ps' : List Addr) (fs : Rs) (H' : Hp), Fcs (stp rs) n fs → Rows H' p' ps' fs → Same H H' → H p' = none → (∀ q ∈ ps', H q = none) → Q (.ref p') H'
theorem scFaces : FnScope ["rounds", "behind", "found", "seen", "start", "face", "end"] ["rounds"] (defScope sFaces) := ⟨rfl, rfl, rfl, by decide +kernel, rfl, by decide +kernel, by decide +kernel⟩
theorem ok_faces {f : Addr} {fd : FuncData} (F : Fun K "faces" "faces" sFaces f fd) (T : Txt mg) (DR : Def P w K mg base "refuse_no_drawing" 3 ["rounds"] spRefuse) (DN : Def P w K mg base "next_ends" 1 ["rounds"] spNextEnds)
    (DF : Def P w K mg base "face_from" 2 ["behind", "start"] spFaceFrom) : FnOk P w K mg base CX0 4 f fd ["rounds"] spFaces := by
  refine F.ok scFaces (fun vs H Q E h => ?_) (fun cdv A outer s H vs Q E hr h => ?_)
  · obtain ⟨p, ps, rs, n, rfl, _⟩ := h
    rfl
  · obtain ⟨p, ps, rs, n, rfl, R, D, hn, k⟩ := h
    have hs : sizeLine = 16777216 := sizeLine_eq
    have nd := scFaces.nd
    have hu1 := hu_of hr
    have hr1 : Room 1 _ := hr.mono (by decide)
    have hr2 : Room 2 _ := hr.mono (by decide)
    refine ⟨_, pss_cons (ps_expr (pcall DR hr (pa_cons (pv 0) pa_nil)))
      (pss_cons (ps_set (i := 1) nd rfl (Or.inl rfl) (pcall DN hr1 (pa_cons (pv 0) pa_nil)))
      (pss_cons (ps_set (i := 2) nd rfl (Or.inl rfl) (pe_lst pa_nil))
      (pss_cons (ps_set (i := 3) nd rfl (Or.inl rfl) pe_dnewK)
      (pss_cons (ps_for PassesOwn.never rfl (pi_range1 (by rfl) T.range (pa_cons (pe_callB call_lenD (by rfl) T.len PySem.boot_len (pa_cons (pv 1) pa_nil)) pa_nil)) (pg_name (i := 4) nd rfl (Or.inl rfl)) (pss_one (ps_if (pt_cmp (pc_dnotin hu1 (pv 4) (pv 3))) (pss_cons (ps_set (i := 5) nd rfl (Or.inl rfl) (pcall DF hr2 (pa_cons (pv 1) (pa_cons (pv 4) pa_nil))))
      (pss_cons (ps_expr (pe_bm PySem.F.plainAttrs_list PySem.F.slot_list_append PySem.F.type_list_append mt_append (pv 2) (pa_cons (pv 5) pa_nil)))
      (pss_one (ps_for PassesOwn.never rfl (pi_list (pv 5)) (pg_name (i := 6) nd rfl (Or.inl rfl)) (pss_one (ps_dput hu1 (pv 3) (pv 6) pe_bl rfl)))))) (pss_nil))))
      (pss_one (ps_ret (pv 2))))))), ?_⟩
    refine ⟨_, rfl, p, ps, rs, n, rfl, R, D, hn, fun H1 s1 => ?_⟩
    refine ⟨_, rfl, p, ps, rs, n, rfl, R.same s1, D, by omega, fun d H2 hd TB s2 => ?_⟩
    refine ⟨(by show 0 ≤ sizeLine; omega), fun l hl => ?_⟩
    intro sd hsd
    obtain ⟨nsl, hsd'⟩ := upd_none hsd
    have s12 := s1.trans s2
    have s3 : Same H2 (L2.upd (L2.upd H2 l (.lst [])) sd (.dK [])) := ((Same.refl H2).put hl).put hsd'
    have fl : H l = none := s12.free hl
    have fsd : H sd = none := s12.free hsd'
    obtain ⟨kvs, tb1, tb2, tb3⟩ := (TB.same s3).ex
    have DG := D.goes
    refine ⟨_, rfl, d, kvs, rfl, tb1, _, rfl, by omega, by omega, ?_⟩
    rw [tb2, Int.toNat_natCast]
    refine for_range (fun i σ H3 => ∃ ps' fs v4 v5 v6, σ = [some (.ref p), some (.ref d), some (.ref l), some (.ref sd), v4, v5, v6] ∧ Same H2 H3 ∧ Fcs (stp rs) i fs ∧ Rows H3 l ps' fs ∧ SeenOf H3 sd fs.flatten (i * n) ∧ ∀ q ∈ ps', H q = none ∧ H2 q = none)
      ⟨[], [], _, _, _, rfl, s3, .zero, ⟨by rw [upd_ne (Ne.symm nsl), upd_same]; rfl, List.nodup_nil, rfl, fun i q r e => by simp at e⟩, by rw [Nat.zero_mul]; exact SeenOf.new upd_same, fun q hq => by cases hq⟩ ?_ ?_
    · rintro i σ H3 hi ⟨ps', fs, v4, v5, v6, rfl, s4, hF, R3, S3, hfr⟩
      have hb := hF.bound (n := n) (fun x h => D.stp_mem h.1 h.2) (fun x y hx hy h => D.stp_inj hx hy h) (by omega)
      obtain ⟨skv, sk1, sk2, sk3⟩ := id S3.ex
      refine ⟨_, rfl, _, rfl, sd, _, rfl, DGet.k (k := (Sum.inl ((0 : Int) + (i : Int)) : Key)) sk1, _, rfl, ?_⟩
      rw [sk3, show (0 : Int) + (i : Int) = (i : Int) by omega]
      by_cases hm : (i : Int) ∈ fs.flatten
      · rw [decide_eq_true hm]
        refine iteF ⟨ps', fs, _, _, _, rfl, s4, .skip hF hm, R3, ?_, hfr⟩
        obtain ⟨a, b, c, e⟩ := S3.ex
        exact ⟨a, b, by rw [Nat.succ_mul]; omega, e⟩
      · rw [decide_eq_false hm]
        refine iteT ?_
        refine ⟨_, rfl, _, rfl, d, nextIn rs, n, (i : Int), rfl, TB.same s4, DG, by omega, by omega, by omega, fun q row H4 hface hq hL s5 => ?_⟩
        have hrl := hface.len (n := n) DG.mem DG.inj ⟨by omega, by omega⟩
        have hq2 : H2 q = none := s4.free hq
        have hqn : q ∉ ps' := mem_ne R3 hq
        have hql : q ≠ l := fun z => by rw [z, R3.out] at hq; cases hq
        have hqsd : q ≠ sd := fun z => by rw [z, sk1] at hq; cases hq
        have R4 := R3.same s5
        refine ⟨_, rfl, .inl ⟨rfl, _, .of R4.out⟩, _, rfl, l, _, _, rfl, rfl, R4.out, (by rw [List.length_map, R4.len]; omega), ?_⟩
        have R5 := R4.snoc (r := row) hL hqn hql
        have s6 : Same H2 (L2.upd H4 l (.lst (ps'.map V.ref ++ [.ref q]))) := (s4.trans s5).put hl
        have hL6 : (L2.upd H4 l (.lst (ps'.map V.ref ++ [.ref q]))) q = some (.lst (row.map V.int)) := by rw [upd_ne hql]; exact hL
        have S6 : SeenOf (L2.upd H4 l (.lst (ps'.map V.ref ++ [.ref q]))) sd fs.flatten (i * n) := by
          refine ⟨skv, ?_, sk2, sk3⟩
          rw [upd_ne nsl]
          exact s5 _ _ sk1
        refine ⟨_, rfl, q, rfl, ⟨_, .of hL6⟩, for_list (K := K) (a := q) (xs := row.map V.int) (fun j σ H7 => ∃ v6, σ = [some (.ref p), some (.ref d), some (.ref l), some (.ref sd), some (.int (i : Int)), some (.ref q), v6] ∧ (∀ c, c ≠ sd → H7 c = (L2.upd H4 l (.lst (ps'.map V.ref ++ [.ref q]))) c) ∧ SeenOf H7 sd (fs.flatten ++ row.take j) (i * n + j))
          ⟨v6, rfl, fun _ _ => rfl, by rw [List.take_zero, List.append_nil]; exact S6⟩ (fun j σ H7 _ ⟨_, _, eq, _⟩ => .of (by rw [eq q hqsd]; exact hL6)) ?_ ?_⟩
        · rintro j z σ H7 hj ⟨v6, rfl, eq, S7⟩
          obtain ⟨e, he, rfl⟩ : ∃ e, row[j]? = some e ∧ z = V.int e := by
            rw [List.getElem?_map] at hj
            cases e : row[j]? with
            | none => rw [e] at hj; cases hj
            | some t => rw [e] at hj; exact ⟨t, rfl, (Option.some.inj hj).symm⟩
          have hjl : j < row.length := (List.getElem?_eq_some_iff.mp he).1
          have hbn : i * n ≤ 64 * 64 := Nat.mul_le_mul (by omega) (by omega)
          obtain ⟨H8, dp, S8, o, rfl⟩ := S7.put (by omega) e (.bl true)
          refine ⟨_, rfl, _, rfl, sd, _, rfl, dp, _, rfl, fun c hc => by rw [upd_ne hc]; exact eq c hc, ?_⟩
          rw [List.append_assoc, ← take_at he] at S8
          exact S8
        · rintro σ H7 ⟨v6, rfl, eq, S7⟩
          rw [List.length_map, List.take_length] at S7
          have s7 : Same H2 H7 := fun c o e => by
            have hc : c ≠ sd := fun z => by rw [z, hsd'] at e; cases e
            rw [eq c hc]
            exact s6 c o e
          have eqR : ∀ c ∈ ps' ++ [q], c ≠ sd := fun c hc z => by
            rcases List.mem_append.mp hc with z' | z'
            · obtain ⟨r, _, e⟩ := R3.mem z'
              rw [z, sk1] at e
              cases e
            · have : c = q := by simpa using z'
              exact hqsd (this ▸ z)
          refine ⟨ps' ++ [q], fs ++ [row], _, _, _, rfl, s7, .add hF hm hface, ⟨by rw [eq l (Ne.symm nsl)]; exact R5.out, R5.nd, R5.len, fun a c r e1 e2 => by rw [eq c (eqR c (List.mem_of_getElem? e1))]; exact R5.row a c r e1 e2⟩, ?_, fun c hc => ?_⟩
          · obtain ⟨a, b, c, e⟩ := S7.ex
            refine ⟨a, b, by rw [Nat.succ_mul]; omega, fun z => ?_⟩
            rw [e z, List.flatten_append]
            simp
          · rcases List.mem_append.mp hc with z | z
            · exact hfr c z
            · have : c = q := by simpa using z
              subst this
              exact ⟨s12.free hq2, hq2⟩
    · rintro σ H3 ⟨ps', fs, v4, v5, v6, rfl, s4, hF, R3, S3, hfr⟩
      exact ⟨_, rfl, k l ps' fs H3 hF R3 (s12.trans s4) fl fun q hq => (hfr q hq).1⟩
end
end Ink
namespace Srt
open PySem PySem.W PyProof.Rows
section
variable {n : Nat} {r : Nat → Int}
structure B (n : Nat) (p : Array Nat) : Prop where
  size : p.size = n
  perm : p.toList.Perm (List.range n)
def at' (p : Array Nat) (i : Nat) : Nat := p.getD i 0
def Up (r : Nat → Int) (p : Array Nat) (m : Nat) : Prop := ∀ i j, i < j → j < m → r (at' p i) < r (at' p j)
def Dn (r : Nat → Int) (p : Array Nat) (m : Nat) : Prop := ∀ i j, i < j → j < m → r (at' p j) < r (at' p i)
structure Asks (n : Nat) (r : Nat → Int) (cmp : Nat → Nat → (Bool → Shared → Prop) → Shared → Prop) (s : Shared) : Prop where
  pos : 0 < n
  inj : ∀ i j, i < n → j < n → i ≠ j → r i ≠ r j
  ask : ∀ i j (C : Bool → Shared → Prop), i < n → j < n → i ≠ j → C (decide (r i < r j)) s → cmp i j C s
variable {cmp : Nat → Nat → (Bool → Shared → Prop) → Shared → Prop} {s : Shared}
end
end Srt
namespace Srt
open PySem PySem.W PyProof.Rows
section
open PySem.SeqAt
open PySem.AutoSeq1 (wpAny_loadPart')
open PySem.MeetsSeq PySem.MeetsSeq2 PySem.MeetsSeq3
end
section
variable {prog : Program} {w : World} {A : Around} {E : Value → Shared → Prop} {s : Shared}
end
end Srt
namespace Ink
structure Cyc (f : Int → Int) (r : List Int) : Prop where
  ne : r ≠ []
  nd : r.Nodup
  go : ∀ (i : Nat) (x : Int), r[i]? = some x → r[(i + 1) % r.length]? = some (f x)
theorem Cyc.itr {f : Int → Int} {r : List Int} (c : Cyc f r) {x : Int} {i : Nat} (h : r[i]? = some x) : ∀ k, r[(i + k) % r.length]? = some (itr f k x)
  | 0 => by
    have := (List.getElem?_eq_some_iff.mp h).1
    rw [Nat.add_zero, Nat.mod_eq_of_lt this]; exact h
  | k + 1 => by
    have ih := c.go _ _ (Cyc.itr c h k)
    rw [Nat.mod_add_mod] at ih
    exact ih
theorem IsFace.cyc {f : Int → Int} {n : Nat} (hm : ∀ x : Int, 0 ≤ x ∧ x < n → 0 ≤ f x ∧ f x < n) (hi : ∀ x y : Int, 0 ≤ x ∧ x < n → 0 ≤ y ∧ y < n → f x = f y → x = y) {x : Int} (hx : 0 ≤ x ∧ x < (n : Int)) {row : List Int} (h : IsFace f x row) : Cyc f row := by
  obtain ⟨j, rfl, e, l⟩ := h.ex
  refine ⟨?_, ?_, ?_⟩
  · intro z
    have := congrArg List.length z
    rw [orb_length] at this
    cases this
  · unfold orb
    rw [List.nodup_iff_pairwise_ne, List.pairwise_map]
    refine List.Pairwise.imp_of_mem ?_ List.pairwise_lt_range
    intro a b ha hb hab q
    have hb' := List.mem_range.mp hb
    refine l (b - a) (by omega) (by omega) (itr_back hm hi hx a (b - a) ?_)
    rw [show a + (b - a) = b by omega]
    exact q.symm
  · intro i y hy
    have hil : i < j + 1 := by
      have := (List.getElem?_eq_some_iff.mp hy).1
      rw [orb_length] at this
      exact this
    have hy' : y = itr f i x := by
      unfold orb at hy
      rw [List.getElem?_map, List.getElem?_range hil] at hy
      exact (Option.some.inj hy).symm
    rw [orb_length]
    unfold orb
    rw [List.getElem?_map]
    by_cases h1 : i = j
    · rw [h1, Nat.mod_self, List.getElem?_range (by omega)]
      show some x = some (f y)
      rw [hy', h1]
      exact congrArg some e.symm
    · rw [Nat.mod_eq_of_lt (by omega), List.getElem?_range (by omega), hy']
      rfl
theorem orb_first (f : Int → Int) (x : Int) (j : Nat) : (orb f x j)[0]? = some x := by
  unfold orb
  rw [List.getElem?_map, List.getElem?_range (by omega)]
  rfl
structure Cycs (f : Int → Int) (n : Nat) (L : Rs) : Prop where
  cyc : ∀ r ∈ L, Cyc f r
  nd : L.flatten.Nodup
  mem : ∀ z : Int, z ∈ L.flatten ↔ 0 ≤ z ∧ z < n
def least : List Int → Int
  | [] => 0
  | [x] => x
  | x :: y :: t => min x (least (y :: t))
def hd (r : List Int) : Int := r.headD 0
structure Rising (f : Int → Int) (n : Nat) (L : Rs) : Prop where
  cs : Cycs f n L
  hds : L.Pairwise fun a b => hd a < hd b
  lst : ∀ r ∈ L, ∀ z ∈ r, hd r ≤ z
theorem Fcs.cycs {f : Int → Int} {n : Nat} (hm : ∀ x : Int, 0 ≤ x ∧ x < n → 0 ≤ f x ∧ f x < n) (hi : ∀ x y : Int, 0 ≤ x ∧ x < n → 0 ≤ y ∧ y < n → f x = f y → x = y) {i : Nat} {fs : Rs} (h : Fcs f i fs) (hin : i ≤ n) :
    (∀ r ∈ fs, Cyc f r) ∧ fs.flatten.Nodup ∧ (∀ z ∈ fs.flatten, 0 ≤ z ∧ z < (n : Int)) ∧ ∀ k : Nat, k < i → (k : Int) ∈ fs.flatten := by
  induction h with
  | zero => exact ⟨(fun r hr => by cases hr), List.nodup_nil, (fun z hz => by cases hz), fun k hk => absurd hk (by omega)⟩
  | skip _ hmem ih =>
    rename_i i0 fs0 _
    obtain ⟨a, b, c, d⟩ := ih (by omega)
    refine ⟨a, b, c, fun k hk => ?_⟩
    rcases Nat.lt_or_ge k i0 with z | z
    · exact d k z
    · rw [show k = i0 by omega]; exact hmem
  | add _ hn hf ih =>
    rename_i i0 fs0 row _
    obtain ⟨a, b, c, d⟩ := ih (by omega)
    have hx : 0 ≤ (i0 : Int) ∧ (i0 : Int) < n := by omega
    have cr := hf.cyc hm hi hx
    have e1 : ([row] : Rs).flatten = row := by simp
    refine ⟨fun r hr => ?_, ?_, fun z hz => ?_, fun k hk => ?_⟩
    · rcases List.mem_append.mp hr with z | z
      · exact a r z
      · have : r = row := by simpa using z
        subst this; exact cr
    · rw [List.flatten_append, e1]
      refine List.nodup_append.mpr ⟨b, cr.nd, fun y hy z hz q => ?_⟩
      subst q
      -- y in an earlier cycle and in this one: then its first is in the earlier one
      obtain ⟨r, hr, hyr⟩ := List.mem_flatten.mp hy
      obtain ⟨p, hp⟩ := List.mem_iff_getElem?.mp hz
      obtain ⟨q, hq⟩ := List.mem_iff_getElem?.mp hyr
      have hpl : p < row.length := (List.getElem?_eq_some_iff.mp hp).1
      have h1 := cr.itr hp (row.length - p)
      rw [show p + (row.length - p) = row.length by omega, Nat.mod_self] at h1
      have h2 := (a r hr).itr hq (row.length - p)
      obtain ⟨j, hj, _⟩ := hf.ex
      have h3 : row[0]? = some (i0 : Int) := by rw [hj]; exact orb_first _ _ _
      rw [h3] at h1
      rw [← h1] at h2
      exact hn (List.mem_flatten.mpr ⟨r, hr, List.mem_of_getElem? h2⟩)
    · rw [List.flatten_append, e1] at hz
      rcases List.mem_append.mp hz with z' | z'
      · exact c z z'
      · exact hf.mem hm hx z z'
    · rw [List.flatten_append, e1]
      rcases Nat.lt_or_ge k i0 with z | z
      · exact List.mem_append_left _ (d k z)
      · rw [show k = i0 by omega]
        refine List.mem_append_right _ ?_
        obtain ⟨j, hj, _⟩ := hf.ex
        rw [hj]
        exact List.mem_of_getElem? (i := 0) (orb_first _ _ _)
theorem Fcs.all {f : Int → Int} {n : Nat} (hm : ∀ x : Int, 0 ≤ x ∧ x < n → 0 ≤ f x ∧ f x < n) (hi : ∀ x y : Int, 0 ≤ x ∧ x < n → 0 ≤ y ∧ y < n → f x = f y → x = y) {fs : Rs} (h : Fcs f n fs) : Cycs f n fs := by
  obtain ⟨a, b, c, d⟩ := h.cycs hm hi (Nat.le_refl _)
  refine ⟨a, b, fun z => ⟨c z, fun hz => ?_⟩⟩
  have := d z.toNat (by omega)
  rw [show ((z.toNat : Nat) : Int) = z by omega] at this
  exact this
end Ink
namespace L2
open PySem PySem.Spec PyProof.Rows
theorem nolen_lri : typeLookup (.type "list_reverseiterator") "__len__" = pure none := by rw [typeLookup_type, builtinLookup_eq_fast]; kernel_rfl
theorem hint_lri : typeLookup (.type "list_reverseiterator") "__length_hint__" = pure (some (.builtin "list_reverseiterator.__length_hint__")) := by rw [typeLookup_type, builtinLookup_eq_fast]; kernel_rfl
section
variable {prog : Program} {w : World} {A : Around} {E : Value → Shared → Prop} {s : Shared}
theorem hint_rev {r l : Addr} {i : Int} {Q : Bool → Shared → Prop} (hr : s.heap.IsRevIter r l i) (h : Q false s) : wpAny (model prog w) A (Builtin.List.listLengthHint (.ref r)) Q E s := by
  unfold Builtin.List.listLengthHint
  refine wpAny_bind (wpAny_specialOf hr.typeIs nolen_lri ?_)
  show wpAny _ _ (specialOf (Value.ref r) (Str.ofString "__length_hint__") >>= _) _ _ _
  refine wpAny_bind (wpAny_specialOf hr.typeIs hint_lri ?_)
  (generalize hid : ("list_reverseiterator.__length_hint__" : String) = id0; (fail_if_success (clear hid id0)); wp_delta; rw [show splitId id0 = some ("list_reverseiterator", "__length_hint__") from by subst hid; decide +kernel]; subst hid)
  refine wpAny_bind (wpAny_isInstance (b := true) hr.typeIs (by rw [isSubtype_type]; kernel_rfl) ?_)
  exact wpAny_pure h
theorem extend_rev {R : Result → Shared → Prop} {r l : Addr} {items : Array Value} (hh : A.handled = none) (hr : s.heap.IsRevIter r l ((items.size : Int) - 1)) (hl : s.heap.IsList l items) (hlen : items.size ≤ sizeLine) (S : Addr) (hSr : S ≠ r) (hSl : S ≠ l) (res : Value) (c₀ : Nat) (hS : s.heap.get? S = some { cls := .type "list", data := .seq #[] c₀ })
    (hR : ∀ h' tk acc' c', (∀ b o, b ≠ S → b ≠ r → s.heap.get? b = some o → h'.get? b = some o) → h'.get? S = some { cls := .type "list", dict := none, data := .seq acc' c', slots := #[] } →
      ItemsOf (fun i v => items[items.size - 1 - i]? = some v) acc' items.size → R (.ok (.ret res)) { s with heap := h', toks := tk }) :
    wpAny (model prog w) A.in1 (Builtin.List.listExtendWith (.ref S) (.ref r) res)
      (fun fin s' => match fin with | .done f => R (.ok f) s' | .again c' => c'.quiet = true ∧ codeAny (model prog w) A c' R s') (fun e s' => R (.error e) s') s := by
  have hlr : l ≠ r := fun e => by
    obtain ⟨o, e1, c1, _⟩ := hr
    obtain ⟨o', e2, c2, _⟩ := hl
    rw [e, e1] at e2
    cases e2
    rw [c1] at c2
    exact absurd c2 (by decide)
  have hSf : S ∉ [r, l] := fun hm => by
    rcases List.mem_cons.mp hm with e | e
    · exact hSr e
    · exact hSl (by simpa using e)
  have W := (Walks.listRev (prog := prog) (w := w) (A := A.in1) hh r l hlr items).toS
  unfold Builtin.List.listExtendWith
  refine wpAny_bind (wpAny_typeOf hr.typeIs ?_)
  have h1 : Builtin.List.listSameRef (.ref S) (.ref r) = false := by simp [Builtin.List.listSameRef, hSr]
  have h2 : (Value.type "list_reverseiterator" == Value.type "list") = false := by decide
  have h3 : (Value.type "list_reverseiterator" == Value.type "tuple") = false := by decide
  simp only [h1, h2, h3, Bool.or_false, Bool.false_eq_true, if_false]
  refine wpAny_bind (wpAny_pyIter_revIter hr ?_)
  refine wpAny_bind (wpAny_holding (hint_rev hr ?_))
  rw [if_neg (by decide)]
  refine wpAny_pure ⟨plainId_quiet F.plain_extend_loop _, ?_⟩
  refine codeAny_extend_loopS W hlen S hSf res items.size 0 _ #[] c₀ rfl (Nat.zero_le _) ⟨Nat.zero_le _, ?_, hl⟩ hS (ItemsOf.nil _) fun s' acc' c' hm hS' hacc => ?_
  · have e : (items.size : Int) - 1 - ((0 : Nat) : Int) = (items.size : Int) - 1 := by omega
    rw [e]
    exact hr
  · rw [Moved.eq_with hm]
    refine hR s'.heap s'.toks acc' c' (fun b o hb hb' e => hm.heap b o (fun hmem => ?_) e) hS' hacc
    rcases List.mem_cons.mp hmem with e' | hmem
    · exact hb e'
    · exact hb' (by simpa using hmem)
theorem list_init_rev {R : Result → Shared → Prop} {r l : Addr} {items : Array Value} (hh : A.handled = none) (hr : s.heap.IsRevIter r l ((items.size : Int) - 1)) (hl : s.heap.IsList l items) (hlen : items.size ≤ sizeLine) (S : Addr) (hSr : S ≠ r) (hSl : S ≠ l) (hS : s.heap.get? S = some { cls := .type "list", data := .seq #[] })
    (hR : ∀ h' tk acc' c', (∀ b o, b ≠ S → b ≠ r → s.heap.get? b = some o → h'.get? b = some o) → h'.get? S = some { cls := .type "list", dict := none, data := .seq acc' c', slots := #[] } →
      ItemsOf (fun i v => items[items.size - 1 - i]? = some v) acc' items.size → R (.ok (.ret .none)) { s with heap := h', toks := tk }) :
    wpAny (model prog w) A.in1 (Builtin.«list.__init__» ⟨[.ref S, .ref r], []⟩)
      (fun fin s' => match fin with | .done f => R (.ok f) s' | .again c' => c'.quiet = true ∧ codeAny (model prog w) A c' R s') (fun e s' => R (.error e) s') s := by
  show wpAny _ _ (do let old ← Builtin.List.listItems (.ref S); Builtin.List.listUpdate (.ref S) (fun _ => #[]); letGo old.toList.reverse; Builtin.List.listExtendWith (.ref S) (.ref r) .none) _ _ s
  refine wpAny_bind ?_
  unfold Builtin.List.listItems
  refine wpAny_bind (wpAny_seqItems hS rfl (wpAny_pure ?_))
  show wpAny _ _ (updateSeq S (fun _ => #[]) >>= fun _ => letGo (#[] : Array Value).toList.reverse >>= fun _ => Builtin.List.listExtendWith (.ref S) (.ref r) .none) _ _ s
  refine wpAny_bind (wpAny_updateSeq hS rfl ?_)
  have hS₂ := Heap.get?_update_self (Obj.mapSeq (fun _ => (#[] : Array Value))) hS rfl
  have oth : ∀ b o, b ≠ S → s.heap.get? b = some o → (s.heap.update S (Obj.mapSeq (fun _ => (#[] : Array Value)))).get? b = some o :=
    fun b o hb e => (Heap.get?_update_other _ _ (Ne.symm hb)).trans e
  refine wpAny_bind (wpAny_letGo ?_)
  refine extend_rev hh (hr.at fun o e => oth r o (Ne.symm hSr) e) (hl.at fun o e => oth l o (Ne.symm hSl) e) hlen S hSr hSl .none _ hS₂ fun h' tk acc' c' hk hS' hacc => ?_
  exact hR h' tk acc' c' (fun b o hb hb' e => hk b o hb hb' (oth b o hb e)) hS' hacc
theorem call_list_rev {Q : Value → Shared → Prop} {r l : Addr} {items : Array Value} (hh : A.handled = none) (hr : s.heap.IsRevIter r l ((items.size : Int) - 1)) (hl : s.heap.IsList l items) (hlen : items.size ≤ sizeLine)
    (hQ : ∀ h' tk acc' c', (∀ b o, b ≠ r → s.heap.get? b = some o → h'.get? b = some o) →
      h'.get? s.heap.objs.size = some { cls := .type "list", dict := none, data := .seq acc' c', slots := #[] } → ItemsOf (fun i v => items[items.size - 1 - i]? = some v) acc' items.size → Q (.ref s.heap.objs.size) { s with heap := h', toks := tk }) :
    wpAny (model prog w) A (call (.type "list") [.ref r]) Q E s := by
  refine callType_codes (Q₁ := fun obj s₁ => obj = .ref s.heap.objs.size ∧ s₁ = { s with heap := s.heap.push { cls := .type "list", data := .seq #[] } }) F.called_list (F.typeCall_list_1 _) F.entry_list_init
    (code_list_new _ ⟨rfl, rfl⟩) fun obj s₁ h₁ => ?_
  obtain ⟨rfl, rfl⟩ := h₁
  have hS : (s.heap.push { cls := .type "list", data := .seq #[] }).get? s.heap.objs.size = some { cls := .type "list", data := .seq #[] } := Heap.get?_push_size _ rfl
  have hr0 : r < s.heap.objs.size := by obtain ⟨o, e, _⟩ := hr; exact Heap.lt_size e
  have hl0 : l < s.heap.objs.size := by obtain ⟨o, e, _⟩ := hl; exact Heap.lt_size e
  refine ⟨⟨_, hS, rfl⟩, F.args_list_init_2 _ _, list_init_rev (A := A.in1) hh (hr.at fun o e => Heap.get?_push_of_some _ e) (hl.at fun o e => Heap.get?_push_of_some _ e) hlen _ (Nat.ne_of_gt hr0) (Nat.ne_of_gt hl0) hS fun h' tk acc' c' hk hS' hacc => ?_⟩
  exact ⟨rfl, hQ h' tk acc' c' (fun b o hb e => hk b o (Nat.ne_of_lt (Heap.lt_size e)) hb (Heap.get?_push_of_some _ e)) hS' hacc⟩
end
theorem vals_rev : ∀ {xs : List V} {us : List Value}, Vals xs us → Vals xs.reverse us.reverse
  | _, _, .nil => .nil
  | _, _, .cons r rs => by
    rw [List.reverse_cons, List.reverse_cons]
    exact Vals.append (vals_rev rs) (.cons r .nil)
section
variable {X : Cx} {tg : Expr}
def tListRev (K : PySem.W.Frag) (ta : TA) : TE := fun σ H Q => ta σ H fun vs H1 => ∃ b xs, vs = [.ref b] ∧ SqL K H1 b xs ∧ ∀ l, H1 l = none → Q (.ref l) (upd H1 l (.lst xs.reverse))
theorem pe_listRev {a : Expr} {ta : TA} {p p' pos pos' : Pos} (hc : X.calm = true) (hg : Gl X "list") (hm : X.mg "list" = none) (hg' : Gl X "reversed") (hm' : X.mg "reversed" = none) (ha : PA X [a] ta)
    (hs : starEach [a] X.env = [(false, eval a X.env)] := by rfl) (hs2 : starEach [.Call (.Name "reversed" p') [a] [] pos'] X.env = [(false, eval (.Call (.Name "reversed" p') [a] [] pos') X.env)] := by rfl) :
    PE X (.Call (.Name "list" p) [.Call (.Name "reversed" p') [a] [] pos'] [] pos) (tListRev X.K ta) := by
  intro pins s σ H Q I h
  refine Call_ (ld_blt I hg hm boot_list (PyProof.Rows.callWith_type1 ?_ hs2 rfl))
  rw [hs2]
  show wpAny _ _ (spliced ((false, eval (.Call (.Name "reversed" p') [a] [] pos') X.env) :: [])) _ _ s
  refine Calls.spliced_cons (Call_ (ld_blt I hg' hm' boot_reversed (PyProof.Rows.callWith_type1 (thn (ha pos' pins s σ H _ I h) fun us s1 ⟨vs, H1, I1, r1, q1⟩ => ?_) hs rfl)))
  obtain ⟨b, xs, e, hq, q⟩ := q1
  subst e
  obtain ⟨u, rfl, ru⟩ := vals1 r1
  cases ru
  obtain ⟨its, rv, pl, hz⟩ := I1.list hq
  have hlen := rv.length
  refine call_reversed_list pl.isList (Calls.spliced_nil ?_)
  have hrev : (s1.heap.push (revObj b ((its.toArray.size : Int) - 1))).IsRevIter s1.heap.objs.size b ((its.toArray.size : Int) - 1) := ⟨_, Heap.get?_push_size _ rfl, rfl, rfl⟩
  refine call_list_rev (s := { s1 with heap := s1.heap.push (revObj b ((its.toArray.size : Int) - 1)) }) (I1.ok.hd hc) hrev (pl.isList.at fun o e => Heap.get?_push_of_some _ e) (by rw [List.size_toArray]; omega) fun h' tk acc' c' hk hS hit => ?_
  have hsz : (s1.heap.push (revObj b ((its.toArray.size : Int) - 1))).objs.size = s1.heap.objs.size + 1 := Heap.size_push ..
  have hacc : acc' = its.reverse.toArray := by
    apply Array.toList_inj.mp
    refine List.ext_getElem? fun i => ?_
    have hl : acc'.size = its.length := by simpa using hit.1
    by_cases hi : i < its.length
    · have e := Array.getElem?_eq_getElem (xs := acc') (i := i) (by omega)
      have e2 := hit.2 i _ e
      rw [Array.getElem?_toList, e, ← e2, List.getElem?_toArray]
      simp [List.getElem?_reverse hi]
    · rw [List.getElem?_eq_none (by rw [Array.length_toList]; omega), List.getElem?_eq_none (by simp; omega)]
  refine ⟨.ref (s1.heap.objs.size + 1), upd H1 (s1.heap.objs.size + 1) (.lst xs.reverse), ?_, by show (Value.ref _ : Value) = _; rw [hsz], q _ (I1.hok.fresh (Nat.le_succ _))⟩
  refine I1.laid (t' := tk) (fun c o e => hk c o (Nat.ne_of_lt (Heap.lt_size e)) (Heap.get?_push_of_some _ e)) (Nat.le_succ _) ?_
  refine ⟨by rw [List.length_reverse]; exact hz, its.reverse, c', vals_rev rv, ?_⟩
  have hS' : h'.get? (s1.heap.push (revObj b ((its.toArray.size : Int) - 1))).objs.size = _ := hS
  rw [hsz, hacc] at hS'
  exact hS'
def Itv (K : PySem.W.Frag) (a : Addr) (n : Nat) : It :=
  ⟨fun i H => ∃ xs, SqL K H a xs ∧ xs.length = n ∧ i < n, fun i H x H' => H' = H ∧ ∀ xs, SqL K H a xs → xs.reverse[i]? = some x, fun i _ => i = n⟩
theorem turn_rev {P : Program} {w : World} {K : PySem.W.Frag} {tg : Expr} (a it : Addr) (n : Nat) : Turn P w K tg (Itv K a n) [it] it (fun i h => h.IsRevIter it a ((n : Int) - 1 - (i : Int))) where
  mem := by simp
  obj := fun i h st b hb => by
    have e : b = it := by simpa using hb
    subst e
    obtain ⟨o, e, c, d⟩ := st
    exact ⟨o, e, fun v z => by rw [d] at z; cases z⟩
  keep := fun i h h' st k => st.at fun o e => k it (by simp) o e
  item := by
    intro X hP hw hK hc i pins s σ H E I hf st hg
    subst hP hw hK
    obtain ⟨xs, hq, hn, hi⟩ := hg
    obtain ⟨its, rv, p, hz⟩ := I.list hq
    have hl := rv.length
    obtain ⟨x, hx⟩ : ∃ x, xs[n - 1 - i]? = some x := ⟨_, List.getElem?_eq_getElem (by omega)⟩
    obtain ⟨u, hu, ru⟩ := rv.get hx
    obtain ⟨f0, f1, f2, f3, f4, f5⟩ := hf it (by simp)
    have e1 : (n : Int) - 1 - (i : Int) = ((n - 1 - i : Nat) : Int) := by omega
    rw [e1] at st
    refine wpAny_pyNext_rev_item st p.isList (x := u) (by simpa using hu) fun h' st' sb => ?_
    have I1 : Inv X pins σ H { s with heap := h' } := I.turned (t' := s.toks) (fun b o hb e => (sb.2 b hb).trans e) f0 f1 f3 f4 f5
    obtain ⟨o, e, c, d⟩ := id st'
    refine ⟨u, rfl, go_of (s := { s with heap := h' }) e c d (by decide) ⟨_, H, I1, ru, ⟨rfl, fun ys hy => ?_⟩, ?_, fun b hb => (hf b hb).1⟩⟩
    · rw [I.list_inj hy hq, List.getElem?_reverse (by omega), hn]
      exact hx
    · have e2 : ((n - 1 - i : Nat) : Int) - 1 = (n : Int) - 1 - ((i + 1 : Nat) : Int) := by omega
      rw [e2] at st'
      exact st'
  done := by
    intro X hP hw hK hc i pins s σ H E I hf st hg
    subst hP hw hK
    have hg' : i = n := hg
    subst hg'
    obtain ⟨f0, f1, f2, f3, f4, f5⟩ := hf it (by simp)
    have e1 : (i : Int) - 1 - (i : Int) = -1 := by omega
    rw [e1] at st
    exact wpAny_pyNext_rev_end (I.ok.hd hc) st fun h' eb => ⟨rfl, I.turned (t' := s.toks) (fun b o hb e => eb b o hb e) f0 f1 f3 f4 f5⟩
  self := fun _ _ _ _ _ st h => wpAny_pyIter_revIter st h
def iRev (K : PySem.W.Frag) (ta : TA) : TI := fun σ H R => ta σ H fun vs H1 => ∃ a xs, vs = [.ref a] ∧ SqL K H1 a xs ∧ R (Itv K a xs.length) H1
theorem pi_rev {a : Expr} {ta : TA} {p pos : Pos} (hg : Gl X "reversed") (hm : X.mg "reversed" = none) (ha : PA X [a] ta) (hs : starEach [a] X.env = [(false, eval a X.env)] := by rfl) : PI X tg (.Call (.Name "reversed" p) [a] [] pos) (iRev X.K ta) := by
  intro pins s σ H R I h
  refine Call_ (ld_blt I hg hm boot_reversed (PyProof.Rows.callWith_type1 (thn (ha pos pins s σ H _ I h) fun us s1 ⟨vs, H1, I1, r1, q1⟩ => ?_) hs rfl))
  obtain ⟨b, xs, e, hq, q⟩ := q1
  subst e
  obtain ⟨u, rfl, ru⟩ := vals1 r1
  cases ru
  obtain ⟨its, rv, pl, hz⟩ := I1.list hq
  have hlen := rv.length
  refine call_reversed_list pl.isList ?_
  have hrev : (s1.heap.push (revObj b ((its.toArray.size : Int) - 1))).IsRevIter s1.heap.objs.size b ((its.toArray.size : Int) - 1) := ⟨_, Heap.get?_push_size _ rfl, rfl, rfl⟩
  refine wpAny_pyIter_revIter (s := { s1 with heap := s1.heap.push (revObj b ((its.toArray.size : Int) - 1)) }) hrev ?_
  refine ⟨_, [s1.heap.objs.size], _, _, H1, rfl, I1.kept (t' := s1.toks) fun c o e => Heap.get?_push_of_some _ e, turn_rev b _ xs.length, ?_, fun c hc => ?_, q⟩
  · have e1 : (xs.length : Int) - 1 - ((0 : Nat) : Int) = (its.toArray.size : Int) - 1 := by rw [List.size_toArray]; omega
    show Heap.IsRevIter _ _ _ _
    rw [e1]
    exact hrev
  · have e : c = s1.heap.objs.size := by simpa using hc
    subst e
    exact I1.fpOk (Nat.le_refl _) (I1.hok.fresh (Nat.le_refl _))
theorem call_min (hc : X.calm = true) : CallR X (.builtin "min") (fun xs H Q => ∃ (p : Addr) (ns : List Int), xs = [.ref p] ∧ SqL X.K H p (ns.map V.int) ∧ ns ≠ [] ∧ ∀ m : Int, m ∈ ns → (∀ z ∈ ns, m ≤ z) → Q (.int m) H) := by
  intro pins s σ H xs us Q I r h
  obtain ⟨p, ns, rfl, hq, hne, q⟩ := h
  obtain ⟨u, rfl, ru⟩ := vals1 r
  cases ru
  obtain ⟨its, rv, pl, hz⟩ := I.list hq
  have hi := intsAre_of rv
  obtain ⟨zs, hzs⟩ := hi.allInts.items
  have hl := pl.isList
  rw [hzs] at hl
  have hnum : zs.toList.map (·.1) = ns := by
    rw [← nums_intItems, ← hzs]
    show numsOf its = ns
    rw [hi.numsOf]
  have hsz : 0 < zs.size := by
    have : zs.toList.length = ns.length := by rw [← hnum, List.length_map]
    rw [Array.length_toList] at this
    have := List.length_pos_iff.mpr hne
    omega
  refine min_intList (I.ok.hd hc) hl hsz fun v h' tk hv hk => ?_
  obtain ⟨t, rfl⟩ := intItems_at hv
  obtain ⟨h1, h2⟩ := argBest_lt (numAt zs) (zs.size - 1)
  refine ⟨.int _, H, I.kept hk, ⟨t, rfl⟩, q _ ?_ fun a ha => ?_⟩
  · rw [numAt_eq, ← hnum]; exact getD_mem (by rw [List.length_map, Array.length_toList]; omega)
  · rw [← hnum] at ha
    obtain ⟨j, hj, rfl⟩ := mem_getD ha
    rw [List.length_map, Array.length_toList] at hj
    rw [← numAt_eq]; exact h2 j (by omega)
theorem range_getD {α : Type} (l : List α) (d : α) : ((List.range l.length).map fun i => l.getD i d) = l := by
  refine List.ext_getElem? fun i => ?_
  by_cases hi : i < l.length
  · rw [List.getElem?_map, List.getElem?_range hi, List.getElem?_eq_getElem hi]
    show some (l.getD i d) = _
    rw [List.getD_eq_getElem?_getD, List.getElem?_eq_getElem hi]
    rfl
  · rw [List.getElem?_eq_none (by simp; omega), List.getElem?_eq_none (by omega)]
end
end L2
namespace L2
open PySem PySem.Spec PyProof.Rows
def clOf (cells : List (Str × Addr)) : List (Str × NameKind) → List (Str × Addr) → List (Str × Addr)
  | [], acc => acc
  | (n, k) :: r, acc => clOf cells r (if k == .free then (n, (cells.lookup n).getD 0) :: acc else acc)
theorem closureFor_cl {scope : Scope} {env : Env} (h : ∀ y ∈ scope.names, y.2 = .free → ∃ c, env.cells.lookup y.1 = some c) : closureFor scope env = pure (clOf env.cells scope.names []) := by
  simp only [closureFor]
  generalize scope.names = names at h ⊢
  generalize ([] : List (Str × Addr)) = acc
  have key : ∀ (names : List (Str × NameKind)) (acc : List (Str × Addr)), (∀ y ∈ names, y.2 = .free → ∃ c, env.cells.lookup y.1 = some c) →
      (forIn names acc fun (x : Str × NameKind) (r : List (Str × Addr)) => match x with
        | (name, kind) => if (kind == NameKind.free) = true then (do let c ← cellOf env name; pure (ForInStep.yield ((name, c) :: r)) : Sem (ForInStep (List (Str × Addr)))) else pure (ForInStep.yield r)) = pure (clOf env.cells names acc) := by
    intro names
    induction names with
    | nil => intro acc _; rfl
    | cons y names ih =>
      obtain ⟨n, k⟩ := y
      intro acc h
      rw [List.forIn_cons]
      by_cases hk : k = .free
      · obtain ⟨c, hc⟩ := h (n, k) List.mem_cons_self hk
        subst hk
        have e1 : cellOf env n = pure c := by unfold cellOf; rw [hc]
        simp only [beq_self_eq_true, if_true, e1, pure_bind]
        rw [ih _ fun y hy => h y (List.mem_cons_of_mem _ hy)]
        show pure (clOf env.cells names ((n, c) :: acc)) = pure (clOf env.cells names (if (NameKind.free == NameKind.free) = true then (n, (env.cells.lookup n).getD 0) :: acc else acc))
        rw [hc]
        rfl
      · have hk' : (k == NameKind.free) = false := beq_eq_false_iff_ne.mpr hk
        simp only [hk', Bool.false_eq_true, if_false, pure_bind]
        rw [ih _ fun y hy => h y (List.mem_cons_of_mem _ hy)]
        show pure (clOf env.cells names acc) = pure (clOf env.cells names (if (k == NameKind.free) = true then _ else acc))
        rw [hk']
        rfl
  have := key names acc h
  simp only at this
  rw [this]
  rfl
theorem clOf_mem {cells : List (Str × Addr)} : ∀ {names : List (Str × NameKind)} {acc : List (Str × Addr)} {p : Str × Addr}, p ∈ clOf cells names acc → p ∈ acc ∨ ((p.1, NameKind.free) ∈ names ∧ p.2 = (cells.lookup p.1).getD 0)
  | [], _, _, h => .inl h
  | (n, k) :: r, acc, p, h => by
    have h' : p ∈ clOf cells r (if k == .free then (n, (cells.lookup n).getD 0) :: acc else acc) := h
    rcases clOf_mem h' with z | ⟨z1, z2⟩
    · by_cases hk : (k == NameKind.free) = true
      · rw [if_pos hk] at z
        rcases List.mem_cons.mp z with z | z
        · subst z
          have : k = .free := eq_of_beq hk
          subst this
          exact .inr ⟨List.mem_cons_self, rfl⟩
        · exact .inl z
      · rw [if_neg hk] at z
        exact .inl z
    · exact .inr ⟨List.mem_cons_of_mem _ z1, z2⟩
theorem clOf_has {cells : List (Str × Addr)} : ∀ {names : List (Str × NameKind)} {acc : List (Str × Addr)} {y : Str}, ((∃ c, (y, c) ∈ acc) ∨ (y, NameKind.free) ∈ names) → ∃ c, (y, c) ∈ clOf cells names acc
  | [], _, _, h => by
    rcases h with h | h
    · exact h
    · cases h
  | (n, k) :: r, acc, y, h => by
    show ∃ c, (y, c) ∈ clOf cells r (if k == .free then (n, (cells.lookup n).getD 0) :: acc else acc)
    refine clOf_has ?_
    rcases h with ⟨c, hc⟩ | h
    · refine .inl ⟨c, ?_⟩
      split
      · exact List.mem_cons_of_mem _ hc
      · exact hc
    · rcases List.mem_cons.mp h with z | z
      · injection z with z1 z2
        subst z1; subst z2
        exact .inl ⟨_, by rw [if_pos (by rfl)]; exact List.mem_cons_self⟩
      · exact .inr z
theorem lookup_of_mem {α : Type} : ∀ {l : List (Str × α)} {y : Str} {c : α}, (y, c) ∈ l → ∃ c', l.lookup y = some c'
  | (n, d) :: r, y, c, h => by
    rw [List.lookup_cons]
    cases e : y == n with
    | true => exact ⟨_, rfl⟩
    | false =>
      rcases List.mem_cons.mp h with z | z
      · injection z with z1 _
        subst z1
        rw [beq_self_eq_true] at e
        cases e
      · exact lookup_of_mem z
def capOk (X : Cx) (x : Str) (caps : List Nat) (scope : Scope) : Bool :=
  scope.names.all (fun y => y.2 != .cell && (y.2 != .local || scope.names.lookup y.1 == some .local) && (y.2 != .free || (scope.names.lookup y.1 == some .free && (X.env.scope.names.lookup y.1 == some .cell || X.env.scope.names.lookup y.1 == some .free))))
  && caps.all fun i => match X.N[i]? with
    | some y => scope.names.lookup y == some .free && (X.env.scope.names.lookup y == some .cell || X.env.scope.names.lookup y == some .free)
    | none => false
theorem Blk.capt {X : Cx} {x : Str} {caps : List Nat} {scope : Scope} (hk : scope.kind = .function) (h : capOk X x caps scope = true) (hx : scope.names.lookup x = some .local) (nd : (x :: caps.map fun i => X.N.getD i "").Nodup) (ok : X.Ok) :
    Blk X x caps scope (clOf X.env.cells scope.names []) := by
  unfold capOk at h
  rw [Bool.and_eq_true] at h
  obtain ⟨h1, h2⟩ := h
  have hy : ∀ y ∈ scope.names, y.2 ≠ .cell ∧ (y.2 = .local → scope.names.lookup y.1 = some .local) ∧ (y.2 = .free → scope.names.lookup y.1 = some .free ∧ (X.env.scope.names.lookup y.1 = some .cell ∨ X.env.scope.names.lookup y.1 = some .free)) := fun y hy => by
    have q := List.all_eq_true.mp h1 y hy
    rw [Bool.and_eq_true, Bool.and_eq_true] at q
    obtain ⟨⟨q1, q2⟩, q3⟩ := q
    refine ⟨fun e => by rw [e] at q1; simp at q1, fun e => by rw [e] at q2; simpa using q2, fun e => ?_⟩
    rw [e] at q3
    simpa using q3
  have hfree : ∀ y ∈ scope.names, y.2 = .free → ∃ c, X.env.cells.lookup y.1 = some c := fun y hm e => ok.has y.1 ((hy y hm).2.2 e).2
  refine ⟨closureFor_cl hfree, fun y hm => (hy y hm).1, hk, fun y hm => (hy y hm).2.1, hx, fun y c e => ?_, fun y e => ?_, fun y e => ?_, nd, fun i hi => ?_⟩
  · have hm := PySem.mem_of_lookup e
    rcases clOf_mem hm with z | ⟨z1, z2⟩
    · cases z
    · obtain ⟨c', hc'⟩ := hfree _ z1 rfl
      have z2' : c = (X.env.cells.lookup y).getD 0 := z2
      rw [z2', show X.env.cells.lookup y = some c' from hc']
      rfl
  · obtain ⟨c, hc⟩ := clOf_has (cells := X.env.cells) (acc := []) (.inr (PySem.mem_of_lookup e))
    exact lookup_of_mem hc
  · cases q : (clOf X.env.cells scope.names []).lookup y with
    | none => rfl
    | some c =>
      rcases clOf_mem (PySem.mem_of_lookup q) with z | ⟨z1, _⟩
      · cases z
      · have := ((hy _ z1).2.2 rfl).1
        have this' : scope.names.lookup y = some .free := this
        rw [e] at this'
        cases this'
  · have q := List.all_eq_true.mp h2 i hi
    cases e : X.N[i]? with
    | none => rw [e] at q; cases q
    | some y =>
      rw [e] at q
      refine ⟨y, rfl, ?_⟩
      simpa using q
theorem Blk.captN {X : Cx} {x : Str} {caps : List Nat} {scope : Scope} (N : List Str) (sn : List (Str × NameKind)) (hN : X.N = N) (hn : X.env.scope.names = sn) (hk : scope.kind = .function)
    (h : (scope.names.all (fun y => y.2 != .cell && (y.2 != .local || scope.names.lookup y.1 == some .local) && (y.2 != .free || (scope.names.lookup y.1 == some .free && (sn.lookup y.1 == some .cell || sn.lookup y.1 == some .free))))
      && caps.all fun i => match N[i]? with
        | some y => scope.names.lookup y == some .free && (sn.lookup y == some .cell || sn.lookup y == some .free)
        | none => false) = true) (hx : scope.names.lookup x = some .local) (nd : (x :: caps.map fun i => N.getD i "").Nodup) (ok : X.Ok) :
    Blk X x caps scope (clOf X.env.cells scope.names []) := by
  subst hN hn
  exact Blk.capt hk h hx nd ok
end L2
namespace L2
open PySem PySem.Spec PyProof.Rows
section
variable {X : Cx}
theorem kv_keys : ∀ {kvs : List (Key × V)} {vs : List (Key × Value)}, KV kvs vs → vs.map (·.1) = kvs.map (·.1)
  | _, _, .nil => rfl
  | _, _, .cons h r => by rw [List.map_cons, List.map_cons, kv_keys r, h.1]
theorem call_sortedD (hc : X.calm = true) : CallR X (.builtin "sorted") (fun xs H Q => ∃ (d : Addr) (kvs : List (Key × V)) (ns : List Int), xs = [.ref d] ∧ H d = some (.dK kvs) ∧ kvs.map (·.1) = ns.map Sum.inl ∧ ns.length < 64 ∧
    ∀ (l : Addr) (ns' : List Int), H l = none → ns'.Perm ns → ns'.Pairwise (· ≤ ·) → Q (.ref l) (upd H l (.lst (ns'.map V.int)))) := by
  intro pins s σ H xs us Q I r h
  obtain ⟨d, kvs, ns, rfl, hd, hk, h64, q⟩ := h
  obtain ⟨u, rfl, ru⟩ := vals1 r
  cases ru
  obtain ⟨z, hsys, vs, rel, dd⟩ := dk_of I.hok hd
  obtain ⟨ep, hat⟩ := dd.dictAt
  have hkeys := kv_keys rel
  rw [hk] at hkeys
  have hlen : vs.length = ns.length := by
    have := congrArg List.length hkeys
    rw [List.length_map, List.length_map] at this
    exact this
  have hs : sizeLine = 16777216 := sizeLine_eq
  refine Calls.call_function_entry kind_sorted plain_sorted entry_sorted (args_sorted1 _) ?_
  unfold Builtin.«sorted»
  refine wpAny_bind (m := checkCount "sorted" 1 1 _) (wpAny_pure ?_)
  refine wpAny_bind (PySem.W.kdu_collect (PySem.W.kdl_dict (knd := mixKind X.prog X.w) (kvs := vs) (ep := ep) hsys) (I.ok.hd hc) hat (by omega) fun h' tk acc hkeep hacc => ?_)
  have hal : acc.toList.length = ns.length := by rw [Array.length_toList, hacc.1, hlen]
  have hI : IntsAre acc.toList ns := by
    refine intsAre_of ?_
    have key : ∀ (as : List Value) (ms : List Int), as.length = ms.length → (∀ (j : Nat) (v : Value) (m : Int), as[j]? = some v → ms[j]? = some m → ∃ t, v = .int m t) → Vals (ms.map V.int) as := by
      intro as
      induction as with
      | nil =>
        intro ms hl _
        cases ms with
        | nil => exact .nil
        | cons m ms => cases hl
      | cons a as ih =>
        intro ms hl hj
        cases ms with
        | nil => cases hl
        | cons m ms =>
          exact .cons (hj 0 a m rfl rfl) (ih ms (by simpa using hl) fun j v m e1 e2 => hj (j + 1) v m (by simpa using e1) (by simpa using e2))
    refine key _ _ hal fun j v m e1 e2 => ?_
    obtain ⟨k, x, e3, e4⟩ := hacc.2 j v (by rw [← Array.getElem?_toList]; exact e1)
    have e5 : (vs.map (·.1))[j]? = some k := by rw [List.getElem?_map, e3]; rfl
    rw [hkeys, List.getElem?_map, e2] at e5
    have e6 : (Sum.inl m : Key) = k := Option.some.inj e5
    subst e6
    obtain ⟨t, e7⟩ := Value.isInt_shape (k := m) (v := v) e4
    exact ⟨t, e7⟩
  refine wpAny_bind (wpAny_newList ?_ (by omega))
  have hoL : (h'.push (seqObj "list" acc.toList.toArray 0)).get? h'.objs.size = some (seqObj "list" acc.toList.toArray 0) := Heap.get?_push_size _ rfl
  show wpAny _ _ _ _ _ { s with heap := h'.push (seqObj "list" acc.toList.toArray 0), toks := tk }
  refine wpAny_bind (wpAny_holding (wpAny_call_entry slot_list_sort ⟨_, hoL, rfl⟩ entry_list_sort (list_sort_tree hoL hI (by omega) fun out ns' a1 a2 a3 => ⟨_, rfl, ?_⟩) (args_list_sort _)))
  obtain ⟨e, he⟩ := sortedHeap_at (out := out) hoL
  have I1 : Inv X pins σ H { s with heap := h', toks := tk } := I.kept hkeep
  refine wpAny_pure ⟨_, rfl, .ref h'.objs.size, _, I1.laid (t' := tk) (o := .lst (ns'.map V.int)) (fun b o zz => ?_) (Nat.le_refl _) ?_, rfl, q _ ns' (I1.hok.fresh (Nat.le_refl _)) a2 a3⟩
  · have zz' : h'.get? b = some o := zz
    have hb : b < h'.objs.size := Heap.lt_size zz'
    show (sortedHeap _ _ _ _).get? b = _
    rw [sortedHeap_old (Nat.ne_of_lt hb) (by rw [size_push']; exact Nat.lt_succ_of_lt hb), Heap.get?_push_ne _ _ _ (Nat.ne_of_lt hb)]
    exact zz'
  · refine ⟨?_, out.toList, e, vals_ints a1, ?_⟩
    · rw [List.length_map, a2.length_eq]; omega
    · have q' : (seqObj "list" out e : Obj) = { cls := .type "list", data := .seq out.toList.toArray e } := by simp [seqObj]
      rw [← q']; exact he
theorem firstMet_nodup (val : Nat → Int) : ∀ i, (firstMet val i).Nodup
  | 0 => List.nodup_nil
  | i + 1 => by
    rw [firstMet_succ]
    unfold step_dedup
    split
    · exact firstMet_nodup val i
    · rename_i h
      refine List.nodup_append.mpr ⟨firstMet_nodup val i, by simp, fun a ha b hb z => ?_⟩
      have : b = val i := by simpa using hb
      subst z
      exact h (List.any_eq_true.mpr ⟨a, ha, by rw [this]; simp⟩)
theorem firstMet_mem (ns : List Int) (z : Int) : z ∈ firstMet (fun i => ns.getD i 0) ns.length ↔ z ∈ ns := by
  have h := firstMet_any (fun i => ns.getD i 0) ns.length z
  rw [range_getD] at h
  rw [Bool.eq_iff_iff] at h
  simpa using h
end
end L2
namespace L2
open PySem PySem.Spec PyProof.Rows
section
variable {X : Cx}
theorem ps_setComp {i0 : Nat} {y : Str} {py spos : Pos} {elt iter : Expr} {x : Str} {px : Pos} {ifs : List Expr} {scope : Scope} {pos : Pos} {wi : TI} {tc : TT} {te : TE} {caps : List Nat} {cl : List (Str × Addr)}
    (hN : X.N.Nodup) (hyi : X.N[i0]? = some y) (hyx : Loc X.env.scope y) (hc : X.calm = true) (B0 : X.Ok → Blk X x caps scope cl) (hi : PI X (.Name x px) iter wi)
    (ht : ∀ C fp s H, PTs (X.blk x caps scope cl C fp s H) ifs tc) (he : ∀ C fp s H, PE (X.blk x caps scope cl C fp s H) elt te)
    (hsw : swapsWith (.ListComp elt [⟨.Name x px, iter, ifs, 0⟩] scope pos) (some (.Name y py)) spos.line X.env = pure true := by rfl)
    (hf : X.fn y = true ∨ X.env.scope.names.lookup y = some .local := by first | exact .inl rfl | exact .inr rfl | assumption)
    (hs : ∀ v, foldedSetIterable iter X.env v = pure v := by intro _; rfl) : PS X (.Assign [.Name y py] (.ListComp elt [⟨.Name x px, iter, ifs, 0⟩] scope pos) spos) (tAsg (tComp wi tc te caps) (gName i0)) := by
  intro pins s σ H D0 I h
  have B := B0 I.ok
  rw [exec_Assign_Name_used _ _ _ _ hsw]
  refine wpAny_bind (wpAny_standAt (wpAny_bind ?_))
  show wpAny _ X.A (do let _ ← comprehension (.ListComp elt [⟨.Name x px, iter, ifs, 0⟩] scope pos) scope X.env _ (newList []) false (eval iter X.env) (some (assign (.Name y py) X.env))) _ _ s
  refine wpAny_bind (wpAny_mono (wpAny_comprehension_free (use := some (assign (.Name y py) X.env)) (Q := fun _ s' => SP X pins D0 .next s') rfl hs B.clos B.kind B.names (thn (hi pins s σ H _ I h) fun v s1 h1 => thn h1 fun itv s2 h2 => ?_)) (fun _ s' hq => wpAny_pure (wpAny_pure hq)) fun _ _ e => e)
  obtain ⟨it, fp, tn, J, H2, rfl, I2, T, st2, f2, q2⟩ := h2
  obtain ⟨W, ⟨m0, w0⟩, turn⟩ := q2 s2.heap.objs.size (I2.hok.fresh (Nat.le_refl _))
  have hfl : ∀ b ∈ fp, b < s2.heap.objs.size := fun b hb => by
    obtain ⟨o, e, _⟩ := T.obj _ _ st2 b hb
    exact Heap.lt_size e
  refine wpAny_newObj_type (wpAny_newFunctionEnv B.nocell (by intro y hy; simp at hy) (fun h₁ hns₁ hsb₁ => ?_) B.kind)
  dsimp only at hns₁ hsb₁ ⊢
  generalize hH2 : s2.heap.push { cls := .type "list", dict := none, data := .seq ([] : List Value).toArray } = HP at hns₁ hsb₁ ⊢
  have hC : HP.objs.size = s2.heap.objs.size + 1 := by rw [← hH2, Heap.size_push]
  have hClt : s2.heap.objs.size < HP.objs.size := by rw [hC]; exact Nat.lt_succ_self _
  have old : ∀ b o, s2.heap.get? b = some o → h₁.get? b = some o := fun b o e =>
    hsb₁.extBut b o (Nat.ne_of_lt (Nat.lt_trans (Heap.lt_size e) hClt)) (Heap.get?_push_of_some _ (hH2 ▸ Heap.get?_push_of_some _ e))
  have hacc : h₁.get? s2.heap.objs.size = some { cls := .type "list", data := .seq #[] 0 } :=
    hsb₁.extBut _ _ (Nat.ne_of_lt hClt) (Heap.get?_push_of_some _ (hH2 ▸ Heap.get?_push_size _ rfl))
  have I3 := B.start (t := s2.toks + ([] : List (Str × Value)).length) I2 f2 hfl hClt old hns₁ hacc
  have st3 : tn 0 h₁ := T.keep _ _ _ st2 fun b hb o e => old b o e
  have stat : ∀ {H' : Hp}, (∀ b ∈ fp, H' b = none) → ∀ b ∈ fp, FpOk (X.blk x caps scope cl HP.objs.size fp s2 H2) [] H' b := fun hn b hb =>
    ⟨hn b hb, ((B.ok I2 f2 hfl (Nat.le_of_lt hClt)).exf b hb).1, (B.ok I2 f2 hfl (Nat.le_of_lt hClt)).exfs b hb, .inl hb, ((B.ok I2 f2 hfl (Nat.le_of_lt hClt)).exf b hb).2, fun p hp => absurd (show p ∈ ([] : List (Addr × Obj)) from hp) (by simp)⟩
  have fr3 : ∀ b ∈ fp, upd H2 s2.heap.objs.size (.lst []) b = none := fun b hb => by
    rw [upd_ne (Nat.ne_of_lt (hfl b hb))]
    exact (f2 b hb).1
  have nd : (X.blkN x caps)[0]? = some x := rfl
  have loop : ∀ s3 : Shared, s3 = { s2 with heap := h₁, toks := s2.toks + ([] : List (Str × Value)).length } →
      codeAny (model X.prog X.w) X.A (.compLoop (.ListComp elt [⟨.Name x px, iter, ifs, 0⟩] scope pos) 0 (.ref it) (.ref s2.heap.objs.size) (compEnvC scope cl HP.objs.size X.env))
        (compPost (model X.prog X.w) X.A X.xe (some (assign (.Name y py) X.env)) (fun _ s' => SP X pins D0 .next s') (.ref s2.heap.objs.size) HP.objs.size) s3 := by
    rintro s3 rfl
    refine codeAny_loop rfl (fun n s' => ∃ i σ' H', Inv (X.blk x caps scope cl HP.objs.size fp s2 H2) [] (σ' :: capSt σ caps) H' s' ∧ tn i s'.heap ∧ (∀ b ∈ fp, H' b = none) ∧ W i n H') (fun n s4 hI => ?_) m0 ⟨0, none, _, I3, st3, fr3, w0⟩
    obtain ⟨i, σ4, H4, I4, st4, fr4, w4⟩ := hI
    show wpAny _ X.A ((compTurn (.ListComp elt [⟨.Name x px, iter, ifs, 0⟩] scope pos) 0 (.ref it) (.ref s2.heap.objs.size) (compEnvC scope cl HP.objs.size X.env)).onRaise (fun x => do noteFrame x (compEnvC scope cl HP.objs.size X.env); theTreesLotGoes x)) _ _ s4
    refine wpAny_noted ?_
    rw [compTurn_list]
    refine wpAny_bind (wpAny_standAt (wpAny_bind ?_))
    rcases turn i n H4 w4 with ⟨stop, qn⟩ | ⟨go, N, hN, step⟩
    · refine thn (T.done (X.blk x caps scope cl HP.objs.size fp s2 H2) rfl rfl rfl hc i [] s4 (σ4 :: capSt σ caps) H4 _ I4 (stat fr4) st4 stop) fun r s5 ⟨hr, I5⟩ => ?_
      subst hr
      refine wpAny_pure ?_
      obtain ⟨m, hn, _⟩ := id I5.loc
      have hfr : H4 HP.objs.size = none := I5.free
      have fpC : FpOk X pins H4 HP.objs.size := I2.fpOk (Nat.le_of_lt hClt) hfr
      obtain ⟨g0, g1, _, g3, g4, g5⟩ := fpC
      have IX : Inv X pins σ H4 s5 := I2.call' (ch := fp) (s' := s5) I5.os I5.base I5.hok I5.bare fun b hb => by
        obtain ⟨f0, f1, f2', f3, f4, f5⟩ := f2 b hb
        exact ⟨f3, f1, f4, f5⟩
      refine wpAny_assign_Name (store_ok2 (v := .ref s2.heap.objs.size) IX hN hyi hyx rfl (fun s6 I6 ⟨a, sb6, ha⟩ => ?_) hf)
      have hCa : HP.objs.size ≠ a := by
        rcases ha with rfl | ha
        · exact g1
        · exact fun z => g4 _ _ ha z.symm
      exact ⟨m, hn.sameBut sb6 hCa, fun h' sb => ⟨_, H4, I6.turned (t' := s6.toks) (fun b o hb e => (sb.2 b hb).trans e) g0 g1 g3 g4 g5, qn⟩⟩
    · refine thn (T.item (X.blk x caps scope cl HP.objs.size fp s2 H2) rfl rfl rfl hc i [] s4 (σ4 :: capSt σ caps) H4 _ I4 (stat fr4) st4 go) fun r s5 ⟨u, hr, h5⟩ => ?_
      subst hr
      refine wpAny_bind (thn h5 fun _ s6 ⟨y, H6, I6, r6, y6, st6, fr6⟩ => ?_)
      have I6' := I6.pinned (stat fr6) (T.obj _ _ st6)
      have again : ∀ {σ7 : Option V} {H7 : Hp} {s7 : Shared}, Inv (X.blk x caps scope cl HP.objs.size fp s2 H2) ([] ++ pinsAt fp s6.heap) (σ7 :: capSt σ caps) H7 s7 → N H7 →
          ∃ m, m < n ∧ ∃ i σ' H', Inv (X.blk x caps scope cl HP.objs.size fp s2 H2) [] (σ' :: capSt σ caps) H' s7 ∧ tn i s7.heap ∧ (∀ b ∈ fp, H' b = none) ∧ W i m H' := fun {σ7 H7 s7} I7 n7 => by
        obtain ⟨m', hm, w7⟩ := hN H7 n7
        refine ⟨m', hm, i + 1, σ7, H7, I7.unpinned, T.keep _ _ _ st6 fun b hb o e => (I7.pin (b, o) (List.mem_append_right _ (List.mem_append_right _ (mem_pinsAt hb e)))).1, fun b hb => ?_, w7⟩
        obtain ⟨o, e, d⟩ := T.obj _ _ st6 b hb
        exact (I7.pin (b, o) (List.mem_append_right _ (List.mem_append_right _ (mem_pinsAt hb e)))).2.1
      have no : ∀ {E : Value → Shared → Prop} (e : Value) (s' : Shared), (X.blk x caps scope cl HP.objs.size fp s2 H2).xe e s' → E e s' := fun _ _ z => False.elim z
      refine wpAny_bind (wpAny_assign_Name (store_ok (X := X.blk x caps scope cl HP.objs.size fp s2 H2) (i := 0) I6' B.nd rfl (.inl (lookup_relabel_local B.loc)) r6 (fun s7 I7 => ?_) (.inr (lookup_relabel_local B.loc))))
      refine wpAny_bind (wpAny_mono (ht _ _ _ _ _ s7 (some y :: capSt σ caps) H6 _ I7 (step y H6 y6)) (fun ok s8 ⟨H8, I8, q8⟩ => ?_) no)
      cases ok with
      | false => exact wpAny_pure ⟨rfl, again I8 q8⟩
      | true =>
        refine wpAny_bind (wpAny_bind (wpAny_mono (he _ _ _ _ _ s8 (some y :: capSt σ caps) H8 _ I8 q8) (fun u s9 ⟨z, H9, I9, r9, ys, hD, hz, q9⟩ => ?_) no))
        refine wpAny_bind (wpAny_mono (mt_append (X := X.blk x caps scope cl HP.objs.size fp s2 H2) _ s9 (some y :: capSt σ caps) H9 (.ref s2.heap.objs.size) [z] (.ref s2.heap.objs.size) [u] (fun _ H10 => N H10) I9 rfl (.cons r9 .nil) ⟨_, ys, z, rfl, rfl, hD, hz, q9⟩) (fun _ s10 ⟨_, H10, I10, _, q10⟩ => ?_) no)
        exact wpAny_pure (wpAny_pure ⟨rfl, again I10 q10⟩)
  exact codeAny_compStart_list (loop _ rfl) (T.self _ _ _ _ _ st3 (loop _ rfl))
end
end L2
namespace Ink
theorem sub_len : ∀ {a b : List Int}, a.Nodup → a ⊆ b → a.length ≤ b.length
  | [], _, _, _ => Nat.zero_le _
  | x :: a, b, nd, h => by
    obtain ⟨n1, n2⟩ := List.nodup_cons.mp nd
    have hx : x ∈ b := h List.mem_cons_self
    have := sub_len (a := a) (b := b.erase x) n2 fun z hz => (List.mem_erase_of_ne (by rintro rfl; exact n1 hz)).mpr (h (List.mem_cons_of_mem _ hz))
    rw [List.length_erase_of_mem hx] at this
    have := List.length_pos_of_mem hx
    rw [List.length_cons]
    omega
theorem Cycs.len {f : Int → Int} {n : Nat} {L : Rs} (c : Cycs f n L) : L.flatten.length = n := by
  have h1 := nodup_le n _ c.nd fun z hz => (c.mem z).mp hz
  have h2 : n ≤ L.flatten.length := by
    have nd : ((List.range n).map fun (k : Nat) => (k : Int)).Nodup := by
      rw [List.nodup_iff_pairwise_ne, List.pairwise_map]
      exact List.Pairwise.imp (fun h => by omega) (List.pairwise_lt_range (n := n))
    have hs : ((List.range n).map fun (k : Nat) => (k : Int)) ⊆ L.flatten := fun z hz => by
      obtain ⟨k, hk, rfl⟩ := List.mem_map.mp hz
      have := List.mem_range.mp hk
      exact (c.mem _).mpr ⟨by omega, by omega⟩
    have := sub_len nd hs
    rw [List.length_map, List.length_range] at this
    exact this
  omega
theorem Cycs.next {f : Int → Int} {n : Nat} {L : Rs} (c : Cycs f n L) {e : Int} (he : 0 ≤ e ∧ e < (n : Int)) : nextIn L e = f e := by
  obtain ⟨r, hr, hz⟩ := List.mem_flatten.mp ((c.mem e).mpr he)
  obtain ⟨i, hi⟩ := List.mem_iff_getElem?.mp hr
  obtain ⟨j, hj⟩ := List.mem_iff_getElem?.mp hz
  rw [nextIn_at c.nd hi hj]
  have := (c.cyc r hr).go j e hj
  rw [List.getD_eq_getElem?_getD, this]
  rfl
theorem Cycs.dr {f : Int → Int} {n : Nat} {L : Rs} (c : Cycs f n L) (h : n % 2 = 0) : Dr L n := ⟨c.nd, c.mem, c.len, h⟩
theorem Dr.faces {rs fs : Rs} {n : Nat} (d : Dr rs n) (h : Fcs (stp rs) n fs) : Cycs (stp rs) n fs := h.all (fun x h => d.stp_mem h.1 h.2) (fun x y hx hy h => d.stp_inj hx hy h)
theorem Dr.inside {rs fs : Rs} {n : Nat} (d : Dr rs n) (h : Fcs (stp rs) n fs) : Dr fs n ∧ ∀ e : Int, 0 ≤ e ∧ e < n → stp fs e = nextIn rs e := by
  have c := d.faces h
  refine ⟨c.dr d.even, fun e he => ?_⟩
  show nextIn fs (acr e) = nextIn rs e
  rw [c.next (acr_lt d.even he.1 he.2)]
  show nextIn rs (acr (acr e)) = nextIn rs e
  rw [acr_acr]
end Ink
namespace Ink
abbrev ne (rs : Rs) : Rs := rs.filter fun r => decide (r ≠ [])
end Ink
namespace Ink
structure Tied (f f' : Int → Int) (n : Nat) (x y : Int) : Prop where
  fx : f' x = n
  fy : f' y = (n : Int) + 1
  fn : f' n = f y
  fm : f' ((n : Int) + 1) = f x
  no : ∀ z : Int, 0 ≤ z ∧ z < n → z ≠ x → z ≠ y → f' z = f z
end Ink
namespace Ink
end Ink
namespace Ink
def pt (rs : Rs) (e : Int) : Nat := rs.findIdx fun r => decide (e ∈ r)
theorem pt_uniq {rs : Rs} {i : Nat} {r : List Int} {e : Int} (nd : rs.flatten.Nodup) (hi : rs[i]? = some r) (he : e ∈ r) : pt rs e = i := by
  obtain ⟨hl, hr⟩ := List.getElem?_eq_some_iff.mp hi
  unfold pt
  rw [List.findIdx_eq hl]
  refine ⟨by rw [hr]; exact decide_eq_true he, fun j hj => ?_⟩
  refine decide_eq_false fun z => ?_
  obtain ⟨k, hk⟩ := List.mem_iff_getElem?.mp he
  refine later_new nd hi hk (List.mem_flatten.mpr ⟨rs[j], ?_, z⟩)
  exact List.mem_of_getElem? (i := j) (by rw [List.getElem?_take, if_pos hj]; exact List.getElem?_eq_getElem _)
theorem pt_spec {rs : Rs} {e : Int} (he : e ∈ rs.flatten) : ∃ r, rs[pt rs e]? = some r ∧ e ∈ r := by
  obtain ⟨r, hr, hz⟩ := List.mem_flatten.mp he
  have hl : pt rs e < rs.length := List.findIdx_lt_length_of_exists ⟨r, hr, decide_eq_true hz⟩
  refine ⟨rs[pt rs e], List.getElem?_eq_getElem hl, ?_⟩
  have := List.findIdx_getElem (xs := rs) (p := fun r => decide (e ∈ r)) (w := hl)
  exact of_decide_eq_true this
theorem pt_lt {rs : Rs} {e : Int} (he : e ∈ rs.flatten) : pt rs e < rs.length := by
  obtain ⟨r, h, _⟩ := pt_spec he
  exact (List.getElem?_eq_some_iff.mp h).1
def prs (rs : Rs) (n : Nat) : List (Nat × Nat) := (List.range (n / 2)).map fun (k : Nat) => (pt rs (2 * (k : Int)), pt rs (2 * (k : Int) + 1))
def relab (hs : List Int) (p : Nat × Nat) : List Int := hs.map fun z => if z = hs.getD p.1 0 then hs.getD p.2 0 else z
def nums (m : Nat) : List Int := (List.range m).map fun (k : Nat) => (k : Int)
def heads (m : Nat) (ps : List (Nat × Nat)) : List Int := ps.foldl relab (nums m)
theorem heads_snoc (m : Nat) (ps : List (Nat × Nat)) (p : Nat × Nat) : heads m (ps ++ [p]) = relab (heads m ps) p := by unfold heads; rw [List.foldl_append]; rfl
theorem relab_length (hs : List Int) (p : Nat × Nat) : (relab hs p).length = hs.length := List.length_map _
theorem nums_length (m : Nat) : (nums m).length = m := by unfold nums; rw [List.length_map, List.length_range]
theorem heads_ind {m : Nat} {P : List (Nat × Nat) → List Int → Prop} (ps : List (Nat × Nat)) (h0 : P [] (nums m)) (hs : ∀ qs p, (∃ rest, ps = qs ++ p :: rest) → P qs (heads m qs) → P (qs ++ [p]) (relab (heads m qs) p)) : P ps (heads m ps) := by
  have key : ∀ k, k ≤ ps.length → P (ps.take k) (heads m (ps.take k)) := by
    intro k
    induction k with
    | zero => intro _; exact h0
    | succ k ih =>
      intro hk
      have hk' : k < ps.length := hk
      have e : ps.take (k + 1) = ps.take k ++ [ps[k]] := by rw [List.take_add_one, List.getElem?_eq_getElem hk']; rfl
      rw [e, heads_snoc]
      refine hs _ _ ⟨ps.drop (k + 1), ?_⟩ (ih (by omega))
      rw [← List.drop_eq_getElem_cons hk', List.take_append_drop]
  have := key ps.length (Nat.le_refl _)
  rw [List.take_length] at this
  exact this
theorem heads_length (m : Nat) (ps : List (Nat × Nat)) : (heads m ps).length = m := heads_ind (P := fun _ hs => hs.length = m) ps (nums_length m) fun _ _ _ ih => by rw [relab_length]; exact ih
theorem getD_relab {hs : List Int} {p : Nat × Nat} {i : Nat} (h : i < hs.length) : (relab hs p).getD i 0 = if hs.getD i 0 = hs.getD p.1 0 then hs.getD p.2 0 else hs.getD i 0 := by
  unfold relab
  rw [List.getD_eq_getElem?_getD, List.getElem?_map, List.getElem?_eq_getElem h]
  show (if hs[i] = _ then _ else hs[i]) = _
  have : hs.getD i 0 = hs[i] := by rw [List.getD_eq_getElem?_getD, List.getElem?_eq_getElem h]; rfl
  rw [this]
theorem getD_nums {m i : Nat} (h : i < m) : (nums m).getD i 0 = i := by
  unfold nums
  rw [List.getD_eq_getElem?_getD, List.getElem?_map, List.getElem?_range h]
  rfl
theorem relab_eq {hs : List Int} {p : Nat × Nat} {i j : Nat} (hi : i < hs.length) (hj : j < hs.length) (h : hs.getD i 0 = hs.getD j 0) : (relab hs p).getD i 0 = (relab hs p).getD j 0 := by rw [getD_relab hi, getD_relab hj, h]
def Below (m : Nat) (ps : List (Nat × Nat)) : Prop := ∀ p ∈ ps, p.1 < m ∧ p.2 < m
theorem heads_pair {m : Nat} {ps : List (Nat × Nat)} (hb : Below m ps) : ∀ p ∈ ps, (heads m ps).getD p.1 0 = (heads m ps).getD p.2 0 := by
  refine heads_ind (P := fun qs hs => ∀ p ∈ qs, hs.getD p.1 0 = hs.getD p.2 0) ps (fun p hp => by cases hp) fun qs p ⟨rest, e⟩ ih q hq => ?_
  have hl := heads_length m qs
  have hp : p.1 < m ∧ p.2 < m := hb p (by rw [e]; simp)
  rcases List.mem_append.mp hq with z | z
  · have hq' := hb q (by rw [e]; simp [z])
    exact relab_eq (by omega) (by omega) (ih q z)
  · have : q = p := by simpa using z
    subst this
    rw [getD_relab (by omega), getD_relab (by omega), if_pos rfl]
    split
    · rfl
    · rfl
theorem heads_closed {m : Nat} {ps : List (Nat × Nat)} (hb : Below m ps) (S : Nat → Prop) (hS : ∀ p ∈ ps, S p.1 ↔ S p.2) : ∀ i j, i < m → j < m → (heads m ps).getD i 0 = (heads m ps).getD j 0 → (S i ↔ S j) := by
  refine heads_ind (P := fun qs hs => ∀ i j, i < m → j < m → hs.getD i 0 = hs.getD j 0 → (S i ↔ S j)) ps (fun i j hi hj h => ?_) fun qs p ⟨rest, e⟩ ih i j hi hj h => ?_
  · rw [getD_nums hi, getD_nums hj] at h
    have : i = j := by omega
    rw [this]
  · have hl := heads_length m qs
    have hmem : p ∈ ps := by rw [e]; simp
    have hp : p.1 < m ∧ p.2 < m := hb p hmem
    rw [getD_relab (by omega), getD_relab (by omega)] at h
    by_cases hia : (heads m qs).getD i 0 = (heads m qs).getD p.1 0
    · rw [if_pos hia] at h
      have h1 := ih i p.1 hi hp.1 hia
      by_cases hja : (heads m qs).getD j 0 = (heads m qs).getD p.1 0
      · exact h1.trans (ih j p.1 hj hp.1 hja).symm
      · rw [if_neg hja] at h
        exact h1.trans ((hS p hmem).trans (ih p.2 j hp.2 hj h))
    · rw [if_neg hia] at h
      by_cases hja : (heads m qs).getD j 0 = (heads m qs).getD p.1 0
      · rw [if_pos hja] at h
        exact (ih i p.2 hi hp.2 h).trans ((hS p hmem).symm.trans (ih j p.1 hj hp.1 hja).symm)
      · rw [if_neg hja] at h
        exact ih i j hi hj h
theorem nums_succ (m : Nat) : nums (m + 1) = nums m ++ [(m : Int)] := by unfold nums; rw [List.range_succ, List.map_append]; rfl
structure DC (hs : List Int) (k : Nat) : Prop where
  ex : ∃ D : List Int, D.Nodup ∧ (∀ z, z ∈ D ↔ z ∈ hs) ∧ D.length = k
end Ink
namespace Ink
theorem prs_below {rs : Rs} {n : Nat} (d : Dr rs n) : Below rs.length (prs rs n) := fun p hp => by
  obtain ⟨k, hk, rfl⟩ := List.mem_map.mp hp
  have := List.mem_range.mp hk
  exact ⟨pt_lt ((d.mem _).mpr (by omega)), pt_lt ((d.mem _).mpr (by omega))⟩
def lab (rs : Rs) (n : Nat) (i : Nat) : Int := (heads rs.length (prs rs n)).getD i 0
theorem lab_acr {rs : Rs} {n : Nat} (d : Dr rs n) {e : Int} (he : 0 ≤ e ∧ e < (n : Int)) : lab rs n (pt rs (acr e)) = lab rs n (pt rs e) := by
  have hk : (e / 2).toNat < n / 2 := by have := d.even; omega
  have hm : (pt rs (2 * ((e / 2).toNat : Int)), pt rs (2 * ((e / 2).toNat : Int) + 1)) ∈ prs rs n := List.mem_map.mpr ⟨_, List.mem_range.mpr hk, rfl⟩
  have h := heads_pair (prs_below d) _ hm
  have h' : lab rs n (pt rs (2 * ((e / 2).toNat : Int))) = lab rs n (pt rs (2 * ((e / 2).toNat : Int) + 1)) := h
  by_cases h2 : e % 2 = 0
  · have e1 : 2 * ((e / 2).toNat : Int) = e := by omega
    have e2 : acr e = e + 1 := by unfold acr; omega
    rw [e1] at h'
    rw [e2, h']
  · have e1 : 2 * ((e / 2).toNat : Int) + 1 = e := by omega
    have e2 : acr e = 2 * ((e / 2).toNat : Int) := by unfold acr; omega
    rw [e1] at h'
    rw [e2, h']
theorem row_of {rs : Rs} {n : Nat} (d : Dr rs n) {e : Int} (he : 0 ≤ e ∧ e < (n : Int)) : ∃ r, rs[pt rs e]? = some r ∧ e ∈ r := pt_spec ((d.mem e).mpr he)
def aln (rs : Rs) : Nat := (rs.filter fun r => decide (r = [])).length
theorem aln_append (a b : Rs) : aln (a ++ b) = aln a + aln b := by unfold aln; rw [List.filter_append, List.length_append]
structure Cts (rs : Rs) (n F C : Nat) : Prop where
  fcs : ∃ L, Cycs (stp rs) n L ∧ L.length = F
  pcs : DC (heads rs.length (prs rs n)) C
end Ink
namespace Ink
def cls (lb : Nat → Int) (m : Nat) (i : Nat) : List Int := (nums m).filter fun j => decide (lb j.toNat = lb i)
theorem cls_mem {lb : Nat → Int} {m i : Nat} {z : Int} : z ∈ cls lb m i ↔ (0 ≤ z ∧ z < (m : Int)) ∧ lb z.toNat = lb i := by
  unfold cls nums
  rw [List.mem_filter, List.mem_map, decide_eq_true_eq]
  constructor
  · rintro ⟨⟨k, hk, rfl⟩, h⟩
    have := List.mem_range.mp hk
    exact ⟨by omega, h⟩
  · rintro ⟨h1, h2⟩
    exact ⟨⟨z.toNat, List.mem_range.mpr (by omega), by omega⟩, h2⟩
theorem nums_sorted (m : Nat) : (nums m).Pairwise (· < ·) := by
  unfold nums
  rw [List.pairwise_map]
  exact List.Pairwise.imp (fun h => by omega) (List.pairwise_lt_range (n := m))
theorem cls_sorted (lb : Nat → Int) (m i : Nat) : (cls lb m i).Pairwise (· < ·) := (nums_sorted m).filter _
inductive Grp (lb : Nat → Int) (m : Nat) : Nat → Rs → Prop
  | zero : Grp lb m 0 []
  | skip {i : Nat} {gs : Rs} : Grp lb m i gs → (i : Int) ∈ gs.flatten → Grp lb m (i + 1) gs
  | add {i : Nat} {gs : Rs} : Grp lb m i gs → (i : Int) ∉ gs.flatten → Grp lb m (i + 1) (gs ++ [cls lb m i])
theorem Grp.le {lb : Nat → Int} {m i : Nat} {gs : Rs} (h : Grp lb m i gs) : gs.length ≤ i := by
  induction h with
  | zero => exact Nat.le_refl _
  | skip _ _ ih => omega
  | add _ _ ih => rw [List.length_append]; show _ + 1 ≤ _; omega
theorem pairwise_lt_nodup {l : List Int} (h : l.Pairwise (· < ·)) : l.Nodup := List.nodup_iff_pairwise_ne.mpr (h.imp fun q => by omega)
theorem sub_len_le {l : List Int} {m : Nat} (h : l.Pairwise (· < ·)) (hm : ∀ z ∈ l, 0 ≤ z ∧ z < (m : Int)) : l.length ≤ m := nodup_le m l (pairwise_lt_nodup h) hm
end Ink
namespace Ink
open PySem L2
structure DnB (any : Prop) (H H2 : Hp) (p : Addr) (ps : List Addr) (rs : Rs) (n : Nat) : Prop where
  made : Made any rs n ∨ (n = 0 ∧ ∃ m, m ≤ 3 ∧ rs = List.replicate m [])
  rows : Rows H2 p ps rs
  same : Same H H2
  fp : H p = none
  fr : ∀ q ∈ ps, H q = none
section
variable {P : Program} {w : World} {K : PySem.W.Frag} {mg : Str → Option Value} {base : Heap}
theorem cut_ints (ns : List Int) (lo hi : Option Int) : ∃ cs : List Int, cutV (ns.map V.int) lo hi = cs.map V.int ∧ cs.length ≤ ns.length ∧ cs.length ≤ HT.sIx ns.length ns.length hi - HT.sIx ns.length 0 lo := by
  refine ⟨(ns.drop (HT.sIx ns.length 0 lo)).take (HT.sIx ns.length ns.length hi - HT.sIx ns.length 0 lo), ?_, ?_, ?_⟩
  · unfold cutV
    rw [List.length_map, List.map_take, List.map_drop]
  · rw [List.length_take, List.length_drop]; omega
  · rw [List.length_take]; omega
theorem sIx_le {n d k : Nat} : HT.sIx n d (some (k : Int)) = min k n := by
  show (if (k : Int) < 0 then ((k : Int) + (n : Int)).toNat else min (k : Int).toNat n) = _
  rw [if_neg (by omega), Int.toNat_natCast]
end
theorem rows_comp {K : PySem.W.Frag} {p D : Addr} {ps : List Addr} {rs : Rs} {H : Hp} {Qd : Hp → Prop} {cσ : St} {tc : TT} {te : TE} (g : List Int → List Int) (c : List Int → Bool) (R : Rows H p ps rs) (hD : H D = none) (hsz : rs.length ≤ 1000)
    (step : ∀ (q : Addr) (r : List Int) (H2 : Hp) (k : V → Hp → Prop) (N : Hp → Prop), r ∈ rs → H2 q = some (.lst (r.map V.int)) → (c r = true → ∀ (l : Addr) (H4 : Hp), H2 l = none → H4 l = some (.lst ((g r).map V.int)) → Same H2 H4 → k (.ref l) H4) → (c r = false → ∀ H3, Same H2 H3 → N H3) →
      tc (some (.ref q) :: cσ) H2 fun b H3 => if b = true then te (some (.ref q) :: cσ) H3 k else N H3)
    (fin : ∀ (qs : List Addr) (H' : Hp), Same H H' → Rows H' D qs ((rs.filter c).map g) → (∀ q ∈ qs, H q = none) → Qd H') :
    ∃ W : Nat → Nat → Hp → Prop, (∃ m, W 0 m (upd H D (.lst []))) ∧ ∀ i m H, W i m H →
      ((Itl K p).stop i H ∧ Qd H) ∨ ((Itl K p).go i H ∧ ∃ N : Hp → Prop, (∀ H', N H' → ∃ m', m' < m ∧ W (i + 1) m' H') ∧ ∀ x H', (Itl K p).yld i H x H' →
        tc (some x :: cσ) H' fun b H3 => if b = true then te (some x :: cσ) H3 fun y H4 => ∃ ys, H4 D = some (.lst ys) ∧ ys.length < sizeLine ∧ N (upd H4 D (.lst (ys ++ [y]))) else N H3) := by
  have hs : sizeLine = 16777216 := sizeLine_eq
  refine comp_list (xs := ps.map V.ref) (fun i H2 => ∃ qs : List Addr, Same H H2 ∧ Rows H2 D qs (((rs.take i).filter c).map g) ∧ ∀ q ∈ qs, H q = none)
    ⟨[], (Same.refl H).put hD, ⟨upd_same, List.nodup_nil, rfl, fun i q r e => by simp at e⟩, fun q hq => by cases hq⟩ (fun i H2 _ ⟨_, s2, _⟩ => .of (s2 _ _ R.out)) ?_ ?_
  · rintro i y H2 hi ⟨qs, s2, R2, hn⟩
    obtain ⟨q, hq, rfl⟩ := ref_at hi
    obtain ⟨r, hr, hH⟩ := R.at hq
    have hlen : qs.length ≤ 1000 := by
      rw [R2.len, List.length_map]
      have h1 := List.length_filter_le c (rs.take i)
      rw [List.length_take] at h1
      omega
    refine step q r H2 _ _ (List.mem_of_getElem? hr) (s2 _ _ hH) (fun hc l H4 hl hL s4 => ?_) (fun hc H3 s3 => ?_)
    · have R4 := R2.same s4
      refine ⟨qs.map V.ref, R4.out, by rw [List.length_map]; omega, qs ++ [l], (s2.trans s4).put hD, ?_, fun a ha => ?_⟩
      · have hlD : l ≠ D := fun z => by rw [z, R2.out] at hl; cases hl
        have R5 := R4.snoc (r := g r) hL (mem_ne R2 hl) hlD
        rw [take_at hr, List.filter_append, List.map_append]
        have e1 : (List.filter c [r]).map g = [g r] := by rw [List.filter_cons, if_pos hc]; rfl
        rw [e1]
        exact R5
      · rcases List.mem_append.mp ha with z | z
        · exact hn a z
        · have : a = l := by simpa using z
          subst this
          exact s2.free hl
    · refine ⟨qs, s2.trans s3, ?_, hn⟩
      have e1 : (List.filter c [r]).map g = [] := by rw [List.filter_cons, if_neg (by rw [hc]; decide)]; rfl
      rw [take_at hr, List.filter_append, List.map_append, e1, List.append_nil]
      exact R2.same s3
  · rintro H2 ⟨qs, s2, R2, hn⟩
    rw [List.length_map, R.len, List.take_length] at R2
    exact fin qs H2 s2 R2 hn
theorem cut_from (r : List Int) (k : Nat) : cutV (r.map V.int) (some (k : Int)) none = (r.drop k).map V.int := by
  unfold cutV
  rw [HT.sIx_none, HT.sIx_nat, List.length_map, List.map_drop]
  rw [List.take_of_length_le (by rw [List.length_drop, List.length_map]; omega)]
  rcases Nat.le_total k r.length with z | z
  · rw [Nat.min_eq_left z]
  · rw [Nat.min_eq_right z, List.drop_of_length_le (by rw [List.length_map]; omega), List.drop_of_length_le (by rw [List.length_map]; omega)]
end Ink
namespace Ink
open PySem L2
def ptI (rs : Rs) (e : Int) : Int := (pt rs e : Int)
def spPointsOf : Sp := fun vs H Q _ => ∃ (p : Addr) (ps : List Addr) (rs : Rs) (n : Nat), vs = [.ref p] ∧ Rows H p ps rs ∧ Dr rs n ∧ n ≤ 1000 ∧ rs.length ≤ 1000 ∧
  ∀ (d : Addr) (H' : Hp), H d = none → TabOf H' d (ptI rs) n → Same H H' → Q (.ref d) H'
theorem take_new {rs : Rs} {i j : Nat} {r : List Int} {e : Int} (nd : rs.flatten.Nodup) (hr' : rs[i]? = some r) (he : r[j]? = some e) : e ∉ (rs.take i).flatten ++ r.take j := fun z => by
  rcases List.mem_append.mp z with z | z
  · exact later_new nd hr' he z
  · obtain ⟨j', hj'⟩ := List.mem_iff_getElem?.mp z
    obtain ⟨l1, e1⟩ := List.getElem?_eq_some_iff.mp hj'
    rw [List.length_take] at l1
    rw [List.getElem_take] at e1
    obtain ⟨l2, e2⟩ := List.getElem?_eq_some_iff.mp he
    have ndr : r.Nodup := row_nodup nd (List.mem_of_getElem? hr')
    have := (List.getElem_inj ndr).mp (e1.trans e2.symm)
    omega
theorem int_of {r : List Int} {j : Nat} {z : V} (hj : (r.map V.int)[j]? = some z) : ∃ e, r[j]? = some e ∧ z = V.int e := by
  rw [List.getElem?_map] at hj
  cases e : r[j]? with
  | none => rw [e] at hj; cases hj
  | some t => rw [e] at hj; exact ⟨t, rfl, (Option.some.inj hj).symm⟩
section
variable {P : Program} {w : World} {K : PySem.W.Frag} {mg : Str → Option Value} {base : Heap}
end
end Ink
namespace Ink
open PySem L2
def tabT (l : List Int) : List (Key × V) := l.map fun e => ((Sum.inl e : Key), V.bl true)
theorem tabT_val : ∀ (l : List Int) (e : Int), (valV (tabT l) (Sum.inl e : Key)).isSome = decide (e ∈ l)
  | [], e => by simp [tabT, valV_nil]
  | x :: l, e => by
    by_cases hx : x = e
    · subst hx
      have : valV (tabT (x :: l)) (Sum.inl x : Key) = some (V.bl true) := valV_pos (p := ((Sum.inl x : Key), V.bl true)) rfl
      rw [this]
      simp
    · have : valV (tabT (x :: l)) (Sum.inl e : Key) = valV (tabT l) (Sum.inl e : Key) := valV_neg (p := ((Sum.inl x : Key), V.bl true)) fun z => hx (Sum.inl.inj z)
      rw [this, tabT_val l e, Bool.eq_iff_iff]
      simp [Ne.symm hx]
theorem tabT_put {l : List Int} {e : Int} (h : e ∉ l) : putK (tabT l) (Sum.inl e : Key) (V.bl true) = tabT (l ++ [e]) := by
  have hn : valV (tabT l) (Sum.inl e : Key) = none := by
    have := tabT_val l e
    rw [decide_eq_false h] at this
    exact Option.isSome_eq_false_iff.mp this |> Option.isNone_iff_eq_none.mp
  rw [putK_new _ hn]
  unfold tabT
  rw [List.map_append]
  rfl
theorem tabT_length (l : List Int) : (tabT l).length = l.length := List.length_map _
theorem tabT_keys (l : List Int) : (tabT l).map (·.1) = l.map Sum.inl := by unfold tabT; rw [List.map_map]; rfl
structure PcInv (rs : Rs) (n : Nat) (start : Nat) (fl wl : List Int) : Prop where
  nd : fl.Nodup
  st : (start : Int) ∈ fl
  cl : ∀ z ∈ fl, (0 ≤ z ∧ z < (rs.length : Int)) ∧ lab rs n z.toNat = lab rs n start
  sub : ∀ z ∈ wl, z ∈ fl
def Cl (rs : Rs) (fl : List Int) (z : Int) : Prop := ∀ r e, rs[z.toNat]? = some r → e ∈ r → ptI rs (acr e) ∈ fl
theorem PcInv.all {rs : Rs} {n start : Nat} {fl wl : List Int} (d : Dr rs n) (hst : start < rs.length) (i : PcInv rs n start fl wl) (h : ∀ z ∈ fl, Cl rs fl z) : fl.Perm (cls (lab rs n) rs.length start) := by
  refine perm_of i.nd (pairwise_lt_nodup (cls_sorted _ _ _)) fun z => ?_
  rw [cls_mem]
  constructor
  · intro hz; exact i.cl z hz
  · rintro ⟨h1, h2⟩
    have key := heads_closed (prs_below d) (fun k => ((k : Nat) : Int) ∈ fl) (fun p hp => ?_) z.toNat start (by omega) hst h2
    · have := key.mpr i.st
      rw [show ((z.toNat : Nat) : Int) = z by omega] at this
      exact this
    · obtain ⟨k, hk, rfl⟩ := List.mem_map.mp hp
      have hk' := List.mem_range.mp hk
      have b0 : 0 ≤ 2 * (k : Int) ∧ 2 * (k : Int) < n := by omega
      have b1 : 0 ≤ 2 * (k : Int) + 1 ∧ 2 * (k : Int) + 1 < n := by omega
      obtain ⟨r0, hr0, m0⟩ := row_of d b0
      obtain ⟨r1, hr1, m1⟩ := row_of d b1
      have a0 : acr (2 * (k : Int)) = 2 * (k : Int) + 1 := by unfold acr; omega
      have a1 : acr (2 * (k : Int) + 1) = 2 * (k : Int) := by unfold acr; omega
      constructor
      · intro hz
        have := h _ hz r0 _ (by simpa using hr0) m0
        rw [a0] at this
        exact this
      · intro hz
        have := h _ hz r1 _ (by simpa using hr1) m1
        rw [a1] at this
        exact this
theorem lab_near {rs : Rs} {n : Nat} (d : Dr rs n) {x : Int} {r : List Int} {e : Int} (hr : rs[x.toNat]? = some r) (he : e ∈ r) : lab rs n (pt rs (acr e)) = lab rs n x.toNat := by
  have hm : e ∈ rs.flatten := List.mem_flatten.mpr ⟨r, List.mem_of_getElem? hr, he⟩
  rw [lab_acr d ((d.mem e).mp hm), pt_uniq d.nd hr he]
def spPieceFrom : Sp := fun vs H Q _ => ∃ (p d : Addr) (ps : List Addr) (rs : Rs) (n start : Nat), vs = [.ref p, .ref d, .int start] ∧ Rows H p ps rs ∧ Dr rs n ∧ rs.length < 64 ∧ TabOf H d (ptI rs) n ∧ start < rs.length ∧
  ∀ (l : Addr) (H' : Hp), H l = none → H' l = some (.lst ((cls (lab rs n) rs.length start).map V.int)) → Same H H' → Q (.ref l) H'
section
variable {P : Program} {w : World} {K : PySem.W.Frag} {mg : Str → Option Value} {base : Heap}
theorem scPieceFrom : FnScope ["rounds", "point_of", "start", "found", "waiting", "point", "end", "other"] ["rounds", "point_of", "start"] (defScope sPieceFrom) := ⟨rfl, rfl, rfl, by decide +kernel, rfl, by decide +kernel, by decide +kernel⟩
theorem ok_pieceFrom {f : Addr} {fd : FuncData} (F : Fun K "piece_from" "piece_from" sPieceFrom f fd) (T : Txt mg) (DA : Def P w K mg base "across" 1 ["end"] spAcross) : FnOk P w K mg base CX0 2 f fd ["rounds", "point_of", "start"] spPieceFrom := by
  refine F.ok scPieceFrom (fun vs H Q E h => ?_) (fun cdv A outer s H vs Q E hr h => ?_)
  · obtain ⟨p, d, ps, rs, n, start, rfl, _⟩ := h
    rfl
  · obtain ⟨p, d, ps, rs, n, start, rfl, R, D, hrs, TB, hst, k⟩ := h
    have hs : sizeLine = 16777216 := sizeLine_eq
    have nd := scPieceFrom.nd
    have hu1 := hu_of hr
    refine ⟨_, pss_cons (ps_set (i := 3) nd rfl (Or.inl rfl) (pe_disp (pps_cons (pv 2) pe_bl pps_nil) rfl rfl (by simp) (by decide)))
      (pss_cons (ps_set (i := 4) nd rfl (Or.inl rfl) (pe_lst (pa_cons (pv 2) pa_nil)))
      (pss_cons (ps_while PassesOwn.never (pt_truth (pv 4) (fun _ => rfl)) (pss_cons (ps_set (i := 5) nd rfl (Or.inl rfl) (pe_bm0 PySem.F.plainAttrs_list PySem.F.slot_list_pop PySem.F.type_list_pop mt_pop (pv 4)))
      (pss_one (ps_for PassesOwn.never rfl (pi_list (pe_ix ix_list (pv 0) (pv 5) (fun _ _ => rfl))) (pg_name (i := 6) nd rfl (Or.inl rfl)) (pss_cons (ps_set (i := 7) nd rfl (Or.inl rfl) (pe_dget hu1 (pv 1) (pcall DA hr (pa_cons (pv 6) pa_nil)) (fun _ _ => rfl)))
      (pss_one (ps_if (pt_cmp (pc_dnotin hu1 (pv 7) (pv 3))) (pss_cons (ps_dput hu1 (pv 3) (pv 7) pe_bl rfl)
      (pss_one (ps_expr (pe_bm PySem.F.plainAttrs_list PySem.F.slot_list_append PySem.F.type_list_append mt_append (pv 4) (pa_cons (pv 7) pa_nil))))) (pss_nil))))))))
      (pss_one (ps_ret (pe_callB (call_sortedD rfl) (by rfl) T.sorted PyProof.Rows.boot_sorted (pa_cons (pv 3) pa_nil)))))), ?_⟩
    intro q hq
    refine ⟨_, rfl, upd_same, [((Sum.inl (start : Int) : Key), V.bl true)], rfl, (by show 1 ≤ 15; decide), ?_⟩
    have e0 : mergeK [] [((Sum.inl (start : Int) : Key), V.bl true)] = tabT [(start : Int)] := rfl
    rw [e0]
    have s0 : Same H (L2.upd (L2.upd H q (.dK [])) q (.dK (tabT [(start : Int)]))) := ((Same.refl H).put hq).put hq
    refine ⟨_, rfl, (by show 1 ≤ sizeLine; omega), fun t ht => ?_⟩
    have hqt : q ≠ t := fun z => by rw [← z, upd_same] at ht; cases ht
    have ft : H t = none := s0.free ht
    have s1 : Same H (L2.upd (L2.upd (L2.upd H q (.dK [])) q (.dK (tabT [(start : Int)]))) t (.lst [.int start])) := s0.put ft
    have hq1 : (L2.upd (L2.upd (L2.upd H q (.dK [])) q (.dK (tabT [(start : Int)]))) t (.lst [.int start])) q = some (.dK (tabT [(start : Int)])) := by rw [upd_ne hqt, upd_same]
    refine ⟨fun m σ H2 => ∃ fl wl v5 v6 v7, σ = [some (.ref p), some (.ref d), some (.int start), some (.ref q), some (.ref t), v5, v6, v7] ∧ Same H H2 ∧ H2 q = some (.dK (tabT fl)) ∧ H2 t = some (.lst (wl.map V.int)) ∧ PcInv rs n start fl wl ∧ (∀ z ∈ fl, z ∉ wl → Cl rs fl z) ∧ m + 2 * fl.length = 2 * rs.length + wl.length ∧ m ≤ 2 * rs.length,
      ⟨2 * rs.length - 1, [(start : Int)], [(start : Int)], none, none, none, rfl, s1, hq1, upd_same, ⟨by simp, by simp, fun z hz => ?_, fun z hz => hz⟩, fun z hz hn => absurd hz hn, by simp; omega, by omega⟩, ?_⟩
    · have : z = start := by simpa using hz
      subst this
      exact ⟨by omega, by simp⟩
    rintro m σ H2 ⟨fl, wl, v5, v6, v7, rfl, s2, hF, hW, I2, hCl, hm, hmm⟩
    refine ⟨_, rfl, _, .inl ⟨_, .of hW, rfl⟩, ?_⟩
    have hfl : fl.length ≤ rs.length := nodup_le _ _ I2.nd fun z hz => (I2.cl z hz).1
    refine ite2 (fun h => ?_) (fun h => ?_)
    · have hne : wl ≠ [] := by
        rintro rfl
        simp at h
      obtain ⟨wl0, x, rfl⟩ : ∃ w0 x, wl = w0 ++ [x] := ⟨wl.dropLast, wl.getLast hne, (List.dropLast_concat_getLast hne).symm⟩
      have hxf : x ∈ fl := I2.sub x (by simp)
      have hxb := (I2.cl x hxf).1
      obtain ⟨r, hr'⟩ : ∃ r, rs[x.toNat]? = some r := ⟨_, List.getElem?_eq_getElem (by omega)⟩
      obtain ⟨rq, hrq, hH⟩ := R.get hr'
      have hrl : r.length ≤ n := row_le D (List.mem_of_getElem? hr')
      refine ⟨fun σ' H' => ∃ fl' wl' v5 v6 v7, σ' = [some (.ref p), some (.ref d), some (.int start), some (.ref q), some (.ref t), v5, v6, v7] ∧ Same H H' ∧ H' q = some (.dK (tabT fl')) ∧ H' t = some (.lst (wl'.map V.int)) ∧ PcInv rs n start fl' wl' ∧ (∀ z ∈ fl', z ∉ wl' → Cl rs fl' z) ∧ 2 * rs.length + wl'.length + 1 ≤ m + 2 * fl'.length,
        fun σ' H' ⟨fl', wl', w5, w6, w7, a1, a2, a3, a4, a5, a6, a7⟩ => ?_, ?_⟩
      · have hfl' : fl'.length ≤ rs.length := nodup_le _ _ a5.nd fun z hz => (a5.cl z hz).1
        exact ⟨2 * rs.length + wl'.length - 2 * fl'.length, by omega, fl', wl', w5, w6, w7, a1, a2, a3, a4, a5, a6, by omega, by omega⟩
      · have hqt2 : (L2.upd H2 t (.lst ((wl0.map V.int)))) q = some (.dK (tabT fl)) := by rw [upd_ne hqt]; exact hF
        have s3 : Same H (L2.upd H2 t (.lst (wl0.map V.int))) := s2.put ft
        have hdl : ((wl0 ++ [x]).map V.int).dropLast = wl0.map V.int := by rw [List.map_append]; simp
        refine ⟨_, rfl, .inl ⟨rfl, _, .of hW⟩, t, _, .int x, rfl, rfl, hW, by simp, ?_⟩
        rw [hdl]
        refine ⟨_, rfl, _, rfl, p, _, _, _, rfl, rfl, .of (s3 _ _ R.out), ?_, rq, rfl, ⟨_, .of (s3 _ _ hH)⟩, for_list (K := K) (a := rq) (xs := r.map V.int) (fun j σ H3 => ∃ fl' wl' v6 v7, σ = [some (.ref p), some (.ref d), some (.int start), some (.ref q), some (.ref t), some (.int x), v6, v7] ∧ Same H H3 ∧ H3 q = some (.dK (tabT fl')) ∧ H3 t = some (.lst (wl'.map V.int)) ∧ PcInv rs n start fl' wl' ∧ (∀ z ∈ fl', z ∉ wl' → z = x ∨ Cl rs fl' z) ∧ (∀ e ∈ r.take j, ptI rs (acr e) ∈ fl') ∧ 2 * rs.length + wl'.length + 1 ≤ m + 2 * fl'.length)
          ⟨fl, wl0, v6, v7, rfl, s3, hqt2, upd_same, ⟨I2.nd, I2.st, I2.cl, fun z hz => I2.sub z (by simp [hz])⟩, fun z hz hn => ?_, (fun e he => by simp at he), ?_⟩ (fun j σ H3 _ ⟨_, _, _, _, _, s4, _⟩ => .of (s4 _ _ hH)) ?_ ?_⟩
        · have hx0 : x = ((x.toNat : Nat) : Int) := by omega
          rw [hx0]
          exact atI_nat (by rw [List.getElem?_map, hrq]; rfl)
        · by_cases hzx : z = x
          · exact .inl hzx
          · exact .inr (hCl z hz (by simp [hn, hzx]))
        · rw [List.length_append] at hm
          simp at hm
          omega
        · rintro j z σ H3 hj ⟨fl', wl', v6, v7, rfl, s4, hF4, hW4, I4, hC4, hT4, hm4⟩
          obtain ⟨e, he, rfl⟩ := int_of hj
          have her : e ∈ r := List.mem_of_getElem? he
          have heb := (D.mem e).mp (List.mem_flatten.mpr ⟨r, List.mem_of_getElem? hr', her⟩)
          have hab := acr_lt D.even heb.1 heb.2
          have hpl : pt rs (acr e) < rs.length := pt_lt ((D.mem _).mpr hab)
          have hfl4 : fl'.length ≤ rs.length := nodup_le _ _ I4.nd fun z hz => (I4.cl z hz).1
          refine ⟨_, rfl, _, rfl, e, rfl, d, _, rfl, (TB.same s4).get hab, ?_⟩
          refine ⟨_, rfl, _, rfl, q, _, rfl, DGet.k (k := (Sum.inl (ptI rs (acr e)) : Key)) hF4, _, rfl, ?_⟩
          rw [tabT_val]
          by_cases hmem : ptI rs (acr e) ∈ fl'
          · rw [decide_eq_true hmem]
            refine iteF ⟨fl', wl', _, _, rfl, s4, hF4, hW4, I4, hC4, fun y hy => ?_, hm4⟩
            rw [take_at he] at hy
            rcases List.mem_append.mp hy with hy | hy
            · exact hT4 y hy
            · have : y = e := by simpa using hy
              rw [this]; exact hmem
          · rw [decide_eq_false hmem]
            refine iteT ?_
            have hlt : fl'.length < rs.length := by
              rcases Nat.lt_or_ge fl'.length rs.length with z | z
              · exact z
              · exfalso
                have := nodup_le rs.length (ptI rs (acr e) :: fl') (List.nodup_cons.mpr ⟨hmem, I4.nd⟩) fun y hy => by
                  rcases List.mem_cons.mp hy with hy | hy
                  · rw [hy]; unfold ptI; omega
                  · exact (I4.cl y hy).1
                rw [List.length_cons] at this
                omega
            refine ⟨_, rfl, _, rfl, q, _, rfl, DPut.k (k := (Sum.inl (ptI rs (acr e)) : Key)) hF4 (by rw [tabT_length]; omega), ?_⟩
            have hW5 : (L2.upd H3 q (.dK (putK (tabT fl') (Sum.inl (ptI rs (acr e)) : Key) (.bl true)))) t = some (.lst (wl'.map V.int)) := by rw [upd_ne (Ne.symm hqt)]; exact hW4
            have hwl : wl'.length < 1000 := by omega
            refine ⟨_, rfl, .inl ⟨rfl, _, .of hW5⟩, _, rfl, t, _, _, rfl, rfl, hW5, by rw [List.length_map]; omega, ?_⟩
            refine ⟨fl' ++ [ptI rs (acr e)], wl' ++ [ptI rs (acr e)], _, _, rfl, (s4.put hq).put ft, ?_, ?_, ⟨?_, by simp [I4.st], fun y hy => ?_, fun y hy => ?_⟩, fun y hy hn => ?_, fun y hy => ?_, ?_⟩
            · rw [upd_ne hqt, upd_same, tabT_put hmem]
            · rw [upd_same, List.map_append]; rfl
            · refine List.nodup_append.mpr ⟨I4.nd, by simp, fun a ha b hb z => ?_⟩
              have : b = ptI rs (acr e) := by simpa using hb
              exact hmem (by rw [← this, ← z]; exact ha)
            · rcases List.mem_append.mp hy with hy | hy
              · exact I4.cl y hy
              · have : y = ptI rs (acr e) := by simpa using hy
                rw [this]
                refine ⟨by unfold ptI; omega, ?_⟩
                unfold ptI
                rw [Int.toNat_natCast, lab_near D hr' her]
                exact (I2.cl x hxf).2
            · rcases List.mem_append.mp hy with hy | hy
              · simp [I4.sub y hy]
              · have : y = ptI rs (acr e) := by simpa using hy
                simp [this]
            · rcases List.mem_append.mp hy with hy | hy
              · rcases hC4 y hy (fun q => hn (by simp [q])) with h1 | h1
                · exact .inl h1
                · exact .inr fun r' e' a b => by simp [h1 r' e' a b]
              · exact absurd (by simpa using hy : y = ptI rs (acr e)) fun q => hn (by simp [q])
            · rw [take_at he] at hy
              rcases List.mem_append.mp hy with hy | hy
              · simp [hT4 y hy]
              · have : y = e := by simpa using hy
                simp [this]
            · rw [List.length_append, List.length_append]
              simp
              omega
        · rintro σ H3 ⟨fl', wl', v6, v7, rfl, s4, hF4, hW4, I4, hC4, hT4, hm4⟩
          rw [List.length_map, List.take_length] at hT4
          refine ⟨fl', wl', _, _, _, rfl, s4, hF4, hW4, I4, fun z hz hn => ?_, hm4⟩
          rcases hC4 z hz hn with h1 | h1
          · subst h1
            intro r' e' a b
            rw [hr'] at a
            cases a
            exact hT4 e' b
          · exact h1
    · have hw0 : wl = [] := by
        cases wl with
        | nil => rfl
        | cons a b => exact absurd rfl h
      subst hw0
      have hperm := I2.all D hst fun z hz => hCl z hz (by simp)
      refine ⟨_, rfl, q, _, fl, rfl, hF, tabT_keys fl, by omega, fun l ns' hl hp hsd => ?_⟩
      have e : ns' = cls (lab rs n) rs.length start := sorted_same (hp.trans hperm) hsd ((cls_sorted _ _ _).imp fun h => by omega)
      rw [e]
      exact k l _ (s2.free hl) upd_same (s2.put (s2.free hl))
end
end Ink
namespace Ink
open PySem L2
def spPieces : Sp := fun vs H Q _ => ∃ (p : Addr) (ps : List Addr) (rs : Rs) (n : Nat), vs = [.ref p] ∧ Rows H p ps rs ∧ Dr rs n ∧ n < 64 ∧ rs.length < 64 ∧
  ∀ (p' : Addr) (ps' : List Addr) (gs : Rs) (H' : Hp), Grp (lab rs n) rs.length rs.length gs → Rows H' p' ps' gs → Same H H' → H p' = none → (∀ q ∈ ps', H q = none) → Q (.ref p') H'
theorem cls_len (lb : Nat → Int) (m i : Nat) : (cls lb m i).length ≤ m := sub_len_le (cls_sorted _ _ _) fun z hz => (cls_mem.mp hz).1
section
variable {P : Program} {w : World} {K : PySem.W.Frag} {mg : Str → Option Value} {base : Heap}
theorem scPieces : FnScope ["rounds", "point_of", "told", "seen", "start", "piece", "point"] ["rounds"] (defScope sPieces) := ⟨rfl, rfl, rfl, by decide +kernel, rfl, by decide +kernel, by decide +kernel⟩
theorem ok_pieces {f : Addr} {fd : FuncData} (F : Fun K "pieces" "pieces" sPieces f fd) (T : Txt mg) (DR : Def P w K mg base "refuse_no_drawing" 3 ["rounds"] spRefuse) (DN : Def P w K mg base "points_of_ends" 1 ["rounds"] spPointsOf)
    (DF : Def P w K mg base "piece_from" 2 ["rounds", "point_of", "start"] spPieceFrom) : FnOk P w K mg base CX0 4 f fd ["rounds"] spPieces := by
  refine F.ok scPieces (fun vs H Q E h => ?_) (fun cdv A outer s H vs Q E hr h => ?_)
  · obtain ⟨p, ps, rs, n, rfl, _⟩ := h
    rfl
  · obtain ⟨p, ps, rs, n, rfl, R, D, hn, hrs, k⟩ := h
    have hs : sizeLine = 16777216 := sizeLine_eq
    have nd := scPieces.nd
    have hu1 := hu_of hr
    have hr1 : Room 1 _ := hr.mono (by decide)
    have hr2 : Room 2 _ := hr.mono (by decide)
    refine ⟨_, pss_cons (ps_expr (pcall DR hr (pa_cons (pv 0) pa_nil)))
      (pss_cons (ps_set (i := 1) nd rfl (Or.inl rfl) (pcall DN hr1 (pa_cons (pv 0) pa_nil)))
      (pss_cons (ps_set (i := 2) nd rfl (Or.inl rfl) (pe_lst pa_nil))
      (pss_cons (ps_set (i := 3) nd rfl (Or.inl rfl) pe_dnewK)
      (pss_cons (ps_for PassesOwn.never rfl (pi_range1 (by rfl) T.range (pa_cons (pe_callB call_len_seq (by rfl) T.len PySem.boot_len (pa_cons (pv 0) pa_nil)) pa_nil)) (pg_name (i := 4) nd rfl (Or.inl rfl)) (pss_one (ps_if (pt_cmp (pc_dnotin hu1 (pv 4) (pv 3))) (pss_cons (ps_set (i := 5) nd rfl (Or.inl rfl) (pcall DF hr2 (pa_cons (pv 0) (pa_cons (pv 1) (pa_cons (pv 4) pa_nil)))))
      (pss_cons (ps_expr (pe_bm PySem.F.plainAttrs_list PySem.F.slot_list_append PySem.F.type_list_append mt_append (pv 2) (pa_cons (pv 5) pa_nil)))
      (pss_one (ps_for PassesOwn.never rfl (pi_list (pv 5)) (pg_name (i := 6) nd rfl (Or.inl rfl)) (pss_one (ps_dput hu1 (pv 3) (pv 6) pe_bl rfl)))))) (pss_nil))))
      (pss_one (ps_ret (pv 2))))))), ?_⟩
    refine ⟨_, rfl, p, ps, rs, n, rfl, R, D, hn, fun H1 s1 => ?_⟩
    refine ⟨_, rfl, p, ps, rs, n, rfl, R.same s1, D, by omega, by omega, fun d H2 hd TB s2 => ?_⟩
    refine ⟨(by show 0 ≤ sizeLine; omega), fun l hl => ?_⟩
    intro sd hsd
    obtain ⟨nsl, hsd'⟩ := upd_none hsd
    have s12 := s1.trans s2
    have s3 : Same H2 (L2.upd (L2.upd H2 l (.lst [])) sd (.dK [])) := ((Same.refl H2).put hl).put hsd'
    have fl : H l = none := s12.free hl
    have fsd : H sd = none := s12.free hsd'
    have R2 := R.same s12
    refine ⟨_, rfl, p, _, rfl, .inl (.of (R2.same s3).out), _, rfl, by omega, (by rw [List.length_map, R.len]; omega), ?_⟩
    rw [Int.toNat_natCast, List.length_map, R.len]
    refine for_range (fun i σ H3 => ∃ ps' fs v4 v5 v6, σ = [some (.ref p), some (.ref d), some (.ref l), some (.ref sd), v4, v5, v6] ∧ Same H2 H3 ∧ Grp (lab rs n) rs.length i fs ∧ Rows H3 l ps' fs ∧ SeenOf H3 sd fs.flatten (i * 64) ∧ ∀ q ∈ ps', H q = none ∧ H2 q = none)
      ⟨[], [], _, _, _, rfl, s3, .zero, ⟨by rw [upd_ne (Ne.symm nsl), upd_same]; rfl, List.nodup_nil, rfl, fun i q r e => by simp at e⟩, by rw [Nat.zero_mul]; exact SeenOf.new upd_same, fun q hq => by cases hq⟩ ?_ ?_
    · rintro i σ H3 hi ⟨ps', fs, v4, v5, v6, rfl, s4, hF, R3, S3, hfr⟩
      have hb := hF.le
      obtain ⟨skv, sk1, sk2, sk3⟩ := id S3.ex
      refine ⟨_, rfl, _, rfl, sd, _, rfl, DGet.k (k := (Sum.inl ((0 : Int) + (i : Int)) : Key)) sk1, _, rfl, ?_⟩
      rw [sk3, show (0 : Int) + (i : Int) = (i : Int) by omega]
      by_cases hm : (i : Int) ∈ fs.flatten
      · rw [decide_eq_true hm]
        refine iteF ⟨ps', fs, _, _, _, rfl, s4, .skip hF hm, R3, ?_, hfr⟩
        obtain ⟨a, b, c, e⟩ := S3.ex
        exact ⟨a, b, by rw [Nat.succ_mul]; omega, e⟩
      · rw [decide_eq_false hm]
        refine iteT ?_
        refine ⟨_, rfl, _, rfl, _, rfl, p, d, ps, rs, n, i, rfl, R2.same s4, D, hrs, TB.same s4, hi, fun q H4 hq hL s5 => ?_⟩
        have hrl := cls_len (lab rs n) rs.length i
        have hq2 : H2 q = none := s4.free hq
        have hqn : q ∉ ps' := mem_ne R3 hq
        have hql : q ≠ l := fun z => by rw [z, R3.out] at hq; cases hq
        have hqsd : q ≠ sd := fun z => by rw [z, sk1] at hq; cases hq
        have R4 := R3.same s5
        refine ⟨_, rfl, .inl ⟨rfl, _, .of R4.out⟩, _, rfl, l, _, _, rfl, rfl, R4.out, (by rw [List.length_map, R4.len]; omega), ?_⟩
        have R5 := R4.snoc (r := cls (lab rs n) rs.length i) hL hqn hql
        have s6 : Same H2 (L2.upd H4 l (.lst (ps'.map V.ref ++ [.ref q]))) := (s4.trans s5).put hl
        have hL6 : (L2.upd H4 l (.lst (ps'.map V.ref ++ [.ref q]))) q = some (.lst ((cls (lab rs n) rs.length i).map V.int)) := by rw [upd_ne hql]; exact hL
        have S6 : SeenOf (L2.upd H4 l (.lst (ps'.map V.ref ++ [.ref q]))) sd fs.flatten (i * 64) := by
          refine ⟨skv, ?_, sk2, sk3⟩
          rw [upd_ne nsl]
          exact s5 _ _ sk1
        refine ⟨_, rfl, q, rfl, ⟨_, .of hL6⟩, for_list (K := K) (a := q) (xs := (cls (lab rs n) rs.length i).map V.int) (fun j σ H7 => ∃ v6, σ = [some (.ref p), some (.ref d), some (.ref l), some (.ref sd), some (.int (i : Int)), some (.ref q), v6] ∧ (∀ c, c ≠ sd → H7 c = (L2.upd H4 l (.lst (ps'.map V.ref ++ [.ref q]))) c) ∧ SeenOf H7 sd (fs.flatten ++ (cls (lab rs n) rs.length i).take j) (i * 64 + j))
          ⟨v6, rfl, fun _ _ => rfl, by rw [List.take_zero, List.append_nil]; exact S6⟩ (fun j σ H7 _ ⟨_, _, eq, _⟩ => .of (by rw [eq q hqsd]; exact hL6)) ?_ ?_⟩
        · rintro j z σ H7 hj ⟨v6, rfl, eq, S7⟩
          obtain ⟨e, he, rfl⟩ := int_of hj
          have hjl : j < (cls (lab rs n) rs.length i).length := (List.getElem?_eq_some_iff.mp he).1
          obtain ⟨H8, dp, S8, o, rfl⟩ := S7.put (by omega) e (.bl true)
          refine ⟨_, rfl, _, rfl, sd, _, rfl, dp, _, rfl, fun c hc => by rw [upd_ne hc]; exact eq c hc, ?_⟩
          rw [List.append_assoc, ← take_at he] at S8
          exact S8
        · rintro σ H7 ⟨v6, rfl, eq, S7⟩
          rw [List.length_map, List.take_length] at S7
          have s7 : Same H2 H7 := fun c o e => by
            have hc : c ≠ sd := fun z => by rw [z, hsd'] at e; cases e
            rw [eq c hc]
            exact s6 c o e
          have eqR : ∀ c ∈ ps' ++ [q], c ≠ sd := fun c hc z => by
            rcases List.mem_append.mp hc with z' | z'
            · obtain ⟨r, _, e⟩ := R3.mem z'
              rw [z, sk1] at e
              cases e
            · have : c = q := by simpa using z'
              exact hqsd (this ▸ z)
          refine ⟨ps' ++ [q], fs ++ [cls (lab rs n) rs.length i], _, _, _, rfl, s7, .add hF hm, ⟨by rw [eq l (Ne.symm nsl)]; exact R5.out, R5.nd, R5.len, fun a c r e1 e2 => by rw [eq c (eqR c (List.mem_of_getElem? e1))]; exact R5.row a c r e1 e2⟩, ?_, fun c hc => ?_⟩
          · obtain ⟨a, b, c, e⟩ := S7.ex
            refine ⟨a, b, by rw [Nat.succ_mul]; omega, fun z => ?_⟩
            rw [e z, List.flatten_append]
            simp
          · rcases List.mem_append.mp hc with z | z
            · exact hfr c z
            · have : c = q := by simpa using z
              subst this
              exact ⟨s12.free hq2, hq2⟩
    · rintro σ H3 ⟨ps', fs, v4, v5, v6, rfl, s4, hF, R3, S3, hfr⟩
      exact ⟨_, rfl, k l ps' fs H3 hF R3 (s12.trans s4) fl fun q hq => (hfr q hq).1⟩
def spRopes : Sp := fun vs H Q _ => ∃ (p : Addr) (ps : List Addr) (rs : Rs) (n : Nat), vs = [.ref p] ∧ Rows H p ps rs ∧ Dr rs n ∧ rs.length ≤ 1000 ∧ ∀ H', Same H H' → Q (.int ((n / 2 : Nat) : Int)) H'
theorem scRopes : FnScope ["rounds"] ["rounds"] (defScope sRopes) := ⟨rfl, rfl, rfl, by decide +kernel, rfl, by decide +kernel, by decide +kernel⟩
theorem lens_sum : ∀ rs : Rs, (rs.map fun r => (r.length : Int)).sum = (rs.flatten.length : Int)
  | [] => rfl
  | r :: rs => by rw [List.map_cons, List.sum_cons, lens_sum rs, List.flatten_cons, List.length_append]; omega
theorem ok_ropes {f : Addr} {fd : FuncData} (F : Fun K "how_many_ropes" "how_many_ropes" sRopes f fd) (T : Txt mg) : FnOk P w K mg base CX0 1 f fd ["rounds"] spRopes := by
  refine F.ok scRopes (fun vs H Q E h => ?_) (fun cdv A outer s H vs Q E hr h => ?_)
  · obtain ⟨p, ps, rs, n, rfl, _⟩ := h
    rfl
  · obtain ⟨p, ps, rs, n, rfl, R, D, hrs, k⟩ := h
    refine ⟨_, pss_one (ps_ret (pe_op op_fdiv (pe_callB (call_sum rfl) (by rfl) T.sum PyProof.Rows.boot_sum (pa_cons (pe_comp (te := tLen K 0) rfl (Blk.plain rfl (by decide +kernel) (by decide +kernel)) (pi_list (pv 0)) (fun _ _ _ _ => pts_nil) (fun _ _ _ _ => (pe_callB call_len_seq (by rfl) T.len PySem.boot_len (pa_cons (pv 0) pa_nil)))) pa_nil)) pe_int)), ?_⟩
    refine ⟨_, rfl, p, rfl, ⟨_, .of R.out⟩, fun D' hD => lens_comp R hD (by omega) fun H' s' hd => ?_⟩
    refine ⟨D', rs.map fun r => (r.length : Int), rfl, .of (by rw [hd, List.map_map]; rfl), _, _, rfl, rfl, ⟨by decide, by decide⟩, ?_⟩
    have e : (rs.map fun r => (r.length : Int)).sum / 2 = ((n / 2 : Nat) : Int) := by rw [lens_sum, D.len]; omega
    show Q (V.int ((rs.map fun r => (r.length : Int)).sum / 2)) H'
    rw [e]
    exact k H' s'
end
end Ink
namespace Ink
open PySem L2
theorem aln_take {rs : Rs} {i : Nat} {r : List Int} (h : rs[i]? = some r) : aln (rs.take (i + 1)) = aln (rs.take i) + if r = [] then 1 else 0 := by
  rw [take_at h, aln_append]
  congr 1
  unfold aln
  rw [List.filter_cons]
  split
  · rename_i e; rw [if_pos (of_decide_eq_true e)]; rfl
  · rename_i e; rw [if_neg fun z => e (decide_eq_true z)]; rfl
def hnd (rs : Rs) (n F C : Nat) : Int := (2 * (C : Int) - (rs.length : Int) + ((n / 2 : Nat) : Int) - (F : Int)) / 2
def spManyFaces : Sp := fun vs H Q _ => ∃ (p : Addr) (ps : List Addr) (rs : Rs) (n : Nat), vs = [.ref p] ∧ Rows H p ps rs ∧ Dr rs n ∧ n < 64 ∧ rs.length < 64 ∧
  ∀ (fs : Rs) (H' : Hp), Fcs (stp rs) n fs → Same H H' → Q (.int ((fs.length + aln rs : Nat) : Int)) H'
def spBuilt : Sp := fun vs H Q _ => ∃ (p : Addr) (ps : List Addr) (rs : Rs) (n : Nat), vs = [.ref p] ∧ Rows H p ps rs ∧ Dr rs n ∧ n < 64 ∧ rs.length < 64 ∧
  ∀ (fs gs : Rs) (t : Addr) (H' : Hp), Fcs (stp rs) n fs → Grp (lab rs n) rs.length rs.length gs → H t = none → H' t = some (.tup [.int (gs.length : Nat), .int ((fs.length + aln rs : Nat) : Int), .int (hnd rs n (fs.length + aln rs) gs.length)]) → Same H H' → Q (.ref t) H'
def spHandles : Sp := fun vs H Q _ => ∃ (p : Addr) (ps : List Addr) (rs : Rs) (n : Nat), vs = [.ref p] ∧ Rows H p ps rs ∧ Dr rs n ∧ n < 64 ∧ rs.length < 64 ∧
  ∀ (fs gs : Rs) (H' : Hp), Fcs (stp rs) n fs → Grp (lab rs n) rs.length rs.length gs → Same H H' → Q (.int (hnd rs n (fs.length + aln rs) gs.length)) H'
def spFlat : Sp := fun vs H Q _ => ∃ (p : Addr) (ps : List Addr) (rs : Rs) (n : Nat), vs = [.ref p] ∧ Rows H p ps rs ∧ Dr rs n ∧ n < 64 ∧ rs.length < 64 ∧
  ∀ (fs gs : Rs) (H' : Hp), Fcs (stp rs) n fs → Grp (lab rs n) rs.length rs.length gs → Same H H' → Q (.bl (decide (hnd rs n (fs.length + aln rs) gs.length = 0))) H'
section
variable {P : Program} {w : World} {K : PySem.W.Frag} {mg : Str → Option Value} {base : Heap}
theorem scManyFaces : FnScope ["rounds", "alone"] ["rounds"] (defScope sManyFaces) := ⟨rfl, rfl, rfl, by decide +kernel, rfl, by decide +kernel, by decide +kernel⟩
theorem ok_manyFaces {f : Addr} {fd : FuncData} (F : Fun K "how_many_faces" "how_many_faces" sManyFaces f fd) (T : Txt mg) (DG : Def P w K mg base "faces" 4 ["rounds"] spFaces) : FnOk P w K mg base CX0 5 f fd ["rounds"] spManyFaces := by
  refine F.ok scManyFaces (fun vs H Q E h => ?_) (fun cdv A outer s H vs Q E hr h => ?_)
  · obtain ⟨p, ps, rs, n, rfl, _⟩ := h
    rfl
  · obtain ⟨p, ps, rs, n, rfl, R, D, hn, hrs, k⟩ := h
    have hs : sizeLine = 16777216 := sizeLine_eq
    have nd := scManyFaces.nd
    refine ⟨_, pss_cons (ps_setComp (i0 := 1) (tc := tTest (tOp rEq (tLen K 0) (tC (.int 0)))) (te := tVar 0) nd rfl (Or.inl rfl) rfl (fun _ => Blk.plain rfl (by decide +kernel) (by decide +kernel)) (pi_list (pv 0)) (fun _ _ _ _ => pts_one (pt_cmpR op_eq (pe_callB call_len_seq (by rfl) T.len PySem.boot_len (pa_cons (pv 0) pa_nil)) pe_int (nomark _))) (fun _ _ _ _ => pv 0))
      (pss_one (ps_ret (pe_op op_add (pe_callB call_len_seq (by rfl) T.len PySem.boot_len (pa_cons (pcall DG hr (pa_cons (pv 0) pa_nil)) pa_nil)) (pe_callB call_len_seq (by rfl) T.len PySem.boot_len (pa_cons (pv 1) pa_nil))))), ?_⟩
    refine ⟨_, rfl, p, rfl, ⟨_, .of R.out⟩, fun d hd => comp_list (xs := ps.map V.ref) (fun i H2 => ∃ qs : List Addr, Same H H2 ∧ H2 d = some (.lst (qs.map V.ref)) ∧ qs.length = aln (rs.take i) ∧ qs.length ≤ i) ⟨[], (Same.refl H).put hd, upd_same, rfl, Nat.zero_le _⟩ (fun i H2 _ ⟨_, s2, _⟩ => .of (s2 _ _ R.out)) ?_ ?_⟩
    · rintro i y H2 hi ⟨qs, s2, hL, hl, hli⟩
      obtain ⟨q, hq, rfl⟩ := ref_at hi
      obtain ⟨r, hr', hH⟩ := R.at hq
      have hir : i < rs.length := (List.getElem?_eq_some_iff.mp hr').1
      have hal := aln_take hr'
      refine ⟨_, rfl, q, _, rfl, .inl (.of (s2 _ _ hH)), rfl, _, rfl, ?_⟩
      refine ite2 (fun h => ?_) (fun h => ?_)
      · have h' := of_decide_eq_true h
        injection h' with h'
        have hr0 : r = [] := by
          cases r with
          | nil => rfl
          | cons a b => rw [List.length_map, List.length_cons] at h'; omega
        rw [if_pos hr0] at hal
        refine ⟨_, rfl, qs.map V.ref, hL, by rw [List.length_map]; omega, qs ++ [q], s2.put hd, by rw [upd_same, List.map_append]; rfl, by rw [List.length_append, hl, hal]; rfl, by rw [List.length_append]; show qs.length + 1 ≤ _; omega⟩
      · have hr0 : r ≠ [] := fun z => h (by rw [z]; rfl)
        rw [if_neg hr0] at hal
        exact ⟨qs, s2, hL, by omega, by omega⟩
    · rintro H2 ⟨qs, s2, hL, hl, _⟩
      rw [List.length_map, R.len, List.take_length] at hl
      refine ⟨_, rfl, p, ps, rs, n, rfl, R.same s2, D, hn, fun p' ps' fs H3 hF R3 s3 _ _ => ?_⟩
      refine ⟨p', _, rfl, .inl (.of R3.out), _, rfl, d, _, rfl, .inl (.of (s3 _ _ hL)), _, _, rfl, rfl, ?_⟩
      have e : ((ps'.map V.ref).length : Int) + ((qs.map V.ref).length : Int) = ((fs.length + aln rs : Nat) : Int) := by rw [List.length_map, List.length_map, R3.len, hl]; omega
      show Q (V.int (((ps'.map V.ref).length : Int) + ((qs.map V.ref).length : Int))) H3
      rw [e]
      exact k fs H3 hF (s2.trans s3)
theorem scBuilt : FnScope ["rounds", "piece_count", "face_count", "doubled"] ["rounds"] (defScope sBuilt) := ⟨rfl, rfl, rfl, by decide +kernel, rfl, by decide +kernel, by decide +kernel⟩
theorem ok_built {f : Addr} {fd : FuncData} (F : Fun K "built" "built" sBuilt f fd) (T : Txt mg) (DP : Def P w K mg base "pieces" 4 ["rounds"] spPieces) (DM : Def P w K mg base "how_many_faces" 5 ["rounds"] spManyFaces) (DR : Def P w K mg base "how_many_ropes" 1 ["rounds"] spRopes) : FnOk P w K mg base CX0 6 f fd ["rounds"] spBuilt := by
  refine F.ok scBuilt (fun vs H Q E h => ?_) (fun cdv A outer s H vs Q E hr h => ?_)
  · obtain ⟨p, ps, rs, n, rfl, _⟩ := h
    rfl
  · obtain ⟨p, ps, rs, n, rfl, R, D, hn, hrs, k⟩ := h
    have hs : sizeLine = 16777216 := sizeLine_eq
    have nd := scBuilt.nd
    have hr1 : Room 1 _ := hr.mono (by decide)
    have hr4 : Room 4 _ := hr.mono (by decide)
    refine ⟨_, pss_cons (ps_set (i := 1) nd rfl (Or.inl rfl) (pe_callB call_len_seq (by rfl) T.len PySem.boot_len (pa_cons (pcall DP hr4 (pa_cons (pv 0) pa_nil)) pa_nil)))
      (pss_cons (ps_set (i := 2) nd rfl (Or.inl rfl) (pcall DM hr (pa_cons (pv 0) pa_nil)))
      (pss_cons (ps_set (i := 3) nd rfl (Or.inl rfl) (pe_op op_sub (pe_op op_add (pe_op op_sub (pe_op op_mul pe_int (pv 1)) (pe_callB call_len_seq (by rfl) T.len PySem.boot_len (pa_cons (pv 0) pa_nil))) (pcall DR hr1 (pa_cons (pv 0) pa_nil))) (pv 2)))
      (pss_one (ps_ret (pe_tup (pa_cons (pv 1) (pa_cons (pv 2) (pa_cons (pe_op op_fdiv (pv 3) pe_int) pa_nil)))))))), ?_⟩
    refine ⟨_, rfl, p, ps, rs, n, rfl, R, D, hn, hrs, fun p' ps' gs H1 hG R1 s1 _ _ => ?_⟩
    refine ⟨p', _, rfl, .inl (.of R1.out), ?_⟩
    refine ⟨_, rfl, p, ps, rs, n, rfl, R.same s1, D, hn, hrs, fun fs H2 hF s2 => ?_⟩
    refine ⟨_, rfl, _, _, rfl, rfl, .inl ⟨by decide, by decide⟩, _, rfl, p, _, rfl, .inl (.of ((R.same s1).same s2).out), _, _, rfl, rfl, ?_⟩
    refine ⟨_, rfl, p, ps, rs, n, rfl, (R.same s1).same s2, D, by omega, fun H3 s3 => ?_⟩
    refine ⟨_, _, rfl, rfl, _, rfl, _, _, rfl, rfl, ?_⟩
    refine ⟨_, rfl, _, rfl, _, rfl, _, _, rfl, rfl, ⟨by decide, by decide⟩, (by show 3 ≤ sizeLine; omega), fun t ht => ?_⟩
    refine k fs gs t _ hF hG (((s1.trans s2).trans s3).free ht) ?_ (((s1.trans s2).trans s3).put (((s1.trans s2).trans s3).free ht))
    rw [upd_same]
    unfold hnd
    simp only [List.length_map, R1.len, R.len]
theorem scHandles : FnScope ["rounds"] ["rounds"] (defScope sHandles) := ⟨rfl, rfl, rfl, by decide +kernel, rfl, by decide +kernel, by decide +kernel⟩
theorem ok_handles {f : Addr} {fd : FuncData} (F : Fun K "handles" "handles" sHandles f fd) (DB : Def P w K mg base "built" 6 ["rounds"] spBuilt) : FnOk P w K mg base CX0 7 f fd ["rounds"] spHandles := by
  refine F.ok scHandles (fun vs H Q E h => ?_) (fun cdv A outer s H vs Q E hr h => ?_)
  · obtain ⟨p, ps, rs, n, rfl, _⟩ := h
    rfl
  · obtain ⟨p, ps, rs, n, rfl, R, D, hn, hrs, k⟩ := h
    refine ⟨_, pss_one (ps_ret (pe_ix ix_tup (pcall DB hr (pa_cons (pv 0) pa_nil)) pe_int (fun _ _ => rfl))), ?_⟩
    refine ⟨_, rfl, p, ps, rs, n, rfl, R, D, hn, hrs, fun fs gs t H1 hF hG _ ht s1 => ?_⟩
    exact ⟨t, _, _, _, rfl, rfl, .of ht, atI_nat (j := 2) rfl, k fs gs H1 hF hG s1⟩
theorem scFlat : FnScope ["rounds"] ["rounds"] (defScope sFlat) := ⟨rfl, rfl, rfl, by decide +kernel, rfl, by decide +kernel, by decide +kernel⟩
theorem ok_flat {f : Addr} {fd : FuncData} (F : Fun K "is_flat" "is_flat" sFlat f fd) (DH : Def P w K mg base "handles" 7 ["rounds"] spHandles) : FnOk P w K mg base CX0 8 f fd ["rounds"] spFlat := by
  refine F.ok scFlat (fun vs H Q E h => ?_) (fun cdv A outer s H vs Q E hr h => ?_)
  · obtain ⟨p, ps, rs, n, rfl, _⟩ := h
    rfl
  · obtain ⟨p, ps, rs, n, rfl, R, D, hn, hrs, k⟩ := h
    refine ⟨_, pss_one (ps_ret (pe_cmpR op_eq (pcall DH hr (pa_cons (pv 0) pa_nil)) pe_int (nomark _))), ?_⟩
    refine ⟨_, rfl, p, ps, rs, n, rfl, R, D, hn, hrs, fun fs gs H1 hF hG s1 => ⟨rfl, ?_⟩⟩
    have := k fs gs H1 hF hG s1
    have e : decide (V.int (hnd rs n (fs.length + aln rs) gs.length) = V.int 0) = decide (hnd rs n (fs.length + aln rs) gs.length = 0) := by
      rw [Bool.eq_iff_iff, decide_eq_true_eq, decide_eq_true_eq]
      exact ⟨fun h => by injection h, fun h => by rw [h]⟩
    rw [← e] at this
    exact this
end
end Ink
namespace L2
open PySem PySem.Spec PyProof.Rows
section
variable {X : Cx}
theorem pe_compC {elt iter : Expr} {x : Str} {px : Pos} {ifs : List Expr} {scope : Scope} {pos : Pos} {wi : TI} {tc : TT} {te : TE} {caps : List Nat} {cl : List (Str × Addr)}
    (hc : X.calm = true) (B0 : X.Ok → Blk X x caps scope cl) (hi : PI X (.Name x px) iter wi)
    (ht : ∀ C fp s H, PTs (X.blk x caps scope cl C fp s H) ifs tc) (he : ∀ C fp s H, PE (X.blk x caps scope cl C fp s H) elt te)
    (hs : ∀ v, foldedSetIterable iter X.env v = pure v := by intro _; rfl) : PE X (.ListComp elt [⟨.Name x px, iter, ifs, 0⟩] scope pos) (tComp wi tc te caps) :=
  fun pins s σ H Q I h => pe_comp hc (B0 I.ok) hi ht he hs pins s σ H Q I h
end
end L2
namespace Ink
end Ink
namespace Ink
end Ink
namespace Ink
end Ink
namespace Ink
structure Ren (s : Int → Int) (n : Nat) : Prop where
  inv : ∀ x, s (s x) = x
  acr : ∀ x, s (Ink.acr x) = Ink.acr (s x)
  mem : ∀ x : Int, 0 ≤ x ∧ x < n → 0 ≤ s x ∧ s x < n
end Ink
namespace Ink
end Ink
namespace Ink
def rp (rs : Rs) (k : Nat) : Nat × Nat := (pt rs (2 * (k : Int)), pt rs (2 * (k : Int) + 1))
def jn (rs : Rs) (A : List Nat) : List Int := heads rs.length (A.map (rp rs))
def jl (rs : Rs) (A : List Nat) (x : Int) : Int := (jn rs A).getD (pt rs x) 0
theorem Dr.pt_lt {rs : Rs} {n : Nat} (d : Dr rs n) {x : Int} (hx : 0 ≤ x ∧ x < (n : Int)) : pt rs x < rs.length := Ink.pt_lt ((d.mem x).mpr hx)
theorem rp_below {rs : Rs} {n : Nat} (d : Dr rs n) {A : List Nat} (hA : ∀ r ∈ A, 2 * r + 1 < n) : Below rs.length (A.map (rp rs)) := fun p hp => by
  obtain ⟨k, hk, rfl⟩ := List.mem_map.mp hp
  have := hA k hk
  exact ⟨d.pt_lt (by omega), d.pt_lt (by omega)⟩
structure Dual (rs L : Rs) (n : Nat) : Prop where
  d : Dr rs n
  e : Dr L n
  nx : ∀ x : Int, 0 ≤ x ∧ x < n → nextIn L x = nextIn rs (acr x)
def rope (x : Int) : Nat := (x / 2).toNat
inductive Tree (rs : Rs) : List Nat → Prop
  | nil : Tree rs []
  | snoc {A : List Nat} {r : Nat} : Tree rs A → jl rs A (2 * (r : Int)) ≠ jl rs A (2 * (r : Int) + 1) → Tree rs (A ++ [r])
theorem jl_pair {rs : Rs} {n : Nat} (d : Dr rs n) {A : List Nat} (hA : ∀ k ∈ A, 2 * k + 1 < n) {k : Nat} (hk : k ∈ A) : jl rs A (2 * (k : Int)) = jl rs A (2 * (k : Int) + 1) := heads_pair (rp_below d hA) (rp rs k) (List.mem_map.mpr ⟨k, hk, rfl⟩)
end Ink
namespace Ink
def allR (n : Nat) : List Nat := List.range (n / 2)
theorem allR_lt {n : Nat} (hn : n % 2 = 0) : ∀ k ∈ allR n, 2 * k + 1 < n := fun k hk => by have := List.mem_range.mp hk; omega
end Ink
namespace Ink
def sw (rs : Rs) (k : Nat) : Nat × Nat := (pt rs (2 * (k : Int) + 1), pt rs (2 * (k : Int)))
def mrk (rs : Rs) (A : List Nat) : List Int := heads rs.length (A.map (sw rs))
theorem mrk_length (rs : Rs) (A : List Nat) : (mrk rs A).length = rs.length := heads_length _ _
theorem mrk_snoc (rs : Rs) (A : List Nat) (r : Nat) : mrk rs (A ++ [r]) = relab (mrk rs A) (sw rs r) := by unfold mrk; rw [List.map_append]; exact heads_snoc _ _ _
theorem sw_below {rs : Rs} {n : Nat} (d : Dr rs n) {A : List Nat} (hA : ∀ r ∈ A, 2 * r + 1 < n) : Below rs.length (A.map (sw rs)) := fun p hp => by
  obtain ⟨k, hk, rfl⟩ := List.mem_map.mp hp
  have := hA k hk
  exact ⟨d.pt_lt (by omega), d.pt_lt (by omega)⟩
theorem mrk_ker {rs : Rs} {n : Nat} (d : Dr rs n) {A : List Nat} (hA : ∀ r ∈ A, 2 * r + 1 < n) {i j : Nat} (hi : i < rs.length) (hj : j < rs.length) : (mrk rs A).getD i 0 = (mrk rs A).getD j 0 ↔ (jn rs A).getD i 0 = (jn rs A).getD j 0 := by
  constructor
  · intro q
    refine (heads_closed (sw_below d hA) (fun k => (jn rs A).getD k 0 = (jn rs A).getD j 0) (fun p hp => ?_) i j hi hj q).mpr rfl
    obtain ⟨k, hk, rfl⟩ := List.mem_map.mp hp
    have := jl_pair d hA hk
    show (jn rs A).getD (pt rs (2 * (k : Int) + 1)) 0 = _ ↔ (jn rs A).getD (pt rs (2 * (k : Int))) 0 = _
    unfold jl at this
    rw [this]
  · intro q
    refine (heads_closed (rp_below d hA) (fun k => (mrk rs A).getD k 0 = (mrk rs A).getD j 0) (fun p hp => ?_) i j hi hj q).mpr rfl
    obtain ⟨k, hk, rfl⟩ := List.mem_map.mp hp
    have : (mrk rs A).getD (pt rs (2 * (k : Int) + 1)) 0 = (mrk rs A).getD (pt rs (2 * (k : Int))) 0 := heads_pair (sw_below d hA) (sw rs k) (List.mem_map.mpr ⟨k, hk, rfl⟩)
    show (mrk rs A).getD (pt rs (2 * (k : Int))) 0 = _ ↔ (mrk rs A).getD (pt rs (2 * (k : Int) + 1)) 0 = _
    rw [this]
def kru (rs : Rs) : List Nat → List Nat → List Nat
  | acc, [] => acc
  | acc, r :: R => kru rs (if jl rs acc (2 * (r : Int)) = jl rs acc (2 * (r : Int) + 1) then acc else acc ++ [r]) R
theorem kru_snoc (rs : Rs) (r : Nat) : ∀ (R acc : List Nat), kru rs acc (R ++ [r]) = if jl rs (kru rs acc R) (2 * (r : Int)) = jl rs (kru rs acc R) (2 * (r : Int) + 1) then kru rs acc R else kru rs acc R ++ [r]
  | [], acc => rfl
  | s :: R, acc => kru_snoc rs r R _
theorem kru_sub {rs : Rs} : ∀ (R acc : List Nat), ∃ S, kru rs acc R = acc ++ S ∧ S.Sublist R
  | [], acc => ⟨[], by rw [List.append_nil]; rfl, List.Sublist.refl _⟩
  | r :: R, acc => by
    unfold kru
    split
    · obtain ⟨S, e, h⟩ := kru_sub (rs := rs) R acc
      exact ⟨S, e, h.cons _⟩
    · obtain ⟨S, e, h⟩ := kru_sub (rs := rs) R (acc ++ [r])
      exact ⟨r :: S, by rw [e]; simp, h.cons_cons _⟩
theorem kru_mem {rs : Rs} {R : List Nat} : ∀ k ∈ kru rs [] R, k ∈ R := fun k hk => by
  obtain ⟨S, e, h⟩ := kru_sub (rs := rs) R []
  rw [e] at hk
  exact h.subset (by simpa using hk)
def butR (R S : List Nat) : List Nat := R.filter fun k => decide (k ∉ S)
structure Trees (rs L : Rs) (n F C : Nat) (A B E : List Nat) : Prop where
  perm : (A ++ (B ++ E)).Perm (allR n)
  ta : Tree rs A
  tb : Tree L B
  la : A.length + C = rs.length
  lb : B.length + C = L.length + aln rs
  subA : A.Sublist (allR n)
  subB : B.Sublist (butR (allR n) A)
end Ink
namespace Ink
end Ink
namespace Ink
structure Ring (rs : Rs) (n : Nat) (q : List Int) : Prop where
  ne : q ≠ []
  mem : ∀ x ∈ q, 0 ≤ x ∧ x < (n : Int)
  leads : ∀ (i : Nat) (x y : Int), q[i]? = some x → q[(i + 1) % q.length]? = some y → pt rs (acr x) = pt rs y
  pts : (q.map (pt rs)).Nodup
  rps : (q.map rope).Nodup
theorem nodup_ix {α : Type} {l : List α} (nd : l.Nodup) {i j : Nat} {x : α} (hi : l[i]? = some x) (hj : l[j]? = some x) : i = j := by
  have h1 := (List.getElem?_eq_some_iff.mp hi).1
  have h2 := (List.getElem?_eq_some_iff.mp hj).1
  exact (List.getElem?_inj h1 nd).mp (hi.trans hj.symm)
section
variable {rs L : Rs} {n : Nat} {q : List Int}
end
end Ink
namespace Ink
structure Simple (rs : Rs) (n : Nat) (S : List Nat) : Prop where
  inS : ∀ x : Int, 0 ≤ x ∧ x < (n : Int) → pt rs x ∈ S
  noLoop : ∀ x : Int, 0 ≤ x ∧ x < (n : Int) → pt rs x ≠ pt rs (acr x)
  once : ∀ x y : Int, 0 ≤ x ∧ x < (n : Int) → 0 ≤ y ∧ y < (n : Int) → pt rs x = pt rs y → pt rs (acr x) = pt rs (acr y) → x = y
theorem flat_ge {k : Nat} : ∀ {L : Rs}, (∀ r ∈ L, k ≤ r.length) → k * L.length ≤ L.flatten.length
  | [], _ => by simp
  | r :: L, h => by
    have h1 := h r (by simp)
    have h2 := flat_ge (L := L) fun r hr => h r (by simp [hr])
    rw [List.length_cons, List.flatten_cons, List.length_append, Nat.mul_succ]
    omega
end Ink
namespace Ink
open PySem L2
def ofN (R : List Nat) : List Int := R.map fun (k : Nat) => (k : Int)
theorem ofN_length (R : List Nat) : (ofN R).length = R.length := List.length_map _
theorem ofN_at {R : List Nat} {i : Nat} {e : Int} (h : (ofN R)[i]? = some e) : ∃ r, R[i]? = some r ∧ e = (r : Int) := by
  unfold ofN at h
  rw [List.getElem?_map] at h
  cases q : R[i]? with
  | none => rw [q] at h; cases h
  | some r => rw [q] at h; exact ⟨r, rfl, (Option.some.inj h).symm⟩
theorem ofN_mem {R : List Nat} {r : Nat} : (r : Int) ∈ ofN R ↔ r ∈ R := by
  unfold ofN
  rw [List.mem_map]
  exact ⟨fun ⟨a, h, e⟩ => by rw [← Int.ofNat_inj.mp e]; exact h, fun h => ⟨r, h, rfl⟩⟩
theorem ofN_append (A B : List Nat) : ofN (A ++ B) = ofN A ++ ofN B := List.map_append
def spTreeOf : Sp := fun vs H Q _ => ∃ (p q : Addr) (ps : List Addr) (rs : Rs) (n : Nat) (R : List Nat), vs = [.ref p, .ref q] ∧ Rows H p ps rs ∧ Dr rs n ∧ n ≤ 1000 ∧ rs.length ≤ 1000 ∧ H q = some (.lst ((ofN R).map V.int)) ∧ (∀ k ∈ R, 2 * k + 1 < n) ∧ R.length ≤ 1000 ∧
  ∀ (l : Addr) (H' : Hp), H l = none → H' l = some (.lst ((ofN (kru rs [] R)).map V.int)) → Same H H' → Q (.ref l) H'
def spAllBut : Sp := fun vs H Q _ => ∃ (q l : Addr) (R S : List Nat), vs = [.ref q, .ref l] ∧ H q = some (.lst ((ofN R).map V.int)) ∧ H l = some (.lst ((ofN S).map V.int)) ∧ R.length ≤ 1000 ∧
  ∀ (b : Addr) (H' : Hp), H b = none → H' b = some (.lst ((ofN (butR R S)).map V.int)) → Same H H' → Q (.ref b) H'
theorem kru_len {rs : Rs} {R : List Nat} : (kru rs [] R).length ≤ R.length := by
  obtain ⟨S, e, h⟩ := kru_sub (rs := rs) R []
  rw [e, List.nil_append]
  exact h.length_le
section
variable {P : Program} {w : World} {K : PySem.W.Frag} {mg : Str → Option Value} {base : Heap}
theorem scTreeOf : FnScope ["places", "ropes", "place_of", "marks", "chosen", "rope", "one", "other"] ["places", "ropes"] (defScope sTreeOf) := ⟨rfl, rfl, rfl, by decide +kernel, rfl, by decide +kernel, by decide +kernel⟩
theorem ok_treeOf {f : Addr} {fd : FuncData} (F : Fun K "tree_of" "tree_of" sTreeOf f fd) (T : Txt mg) (DPt : Def P w K mg base "points_of_ends" 1 ["rounds"] spPointsOf) : FnOk P w K mg base CX0 2 f fd ["places", "ropes"] spTreeOf := by
  refine F.ok scTreeOf (fun vs H Q E h => ?_) (fun cdv A outer s H vs Q E hr1 h => ?_)
  · obtain ⟨p, q, ps, rs, n, R, rfl, _⟩ := h
    rfl
  · obtain ⟨p, q, ps, rs, n, R, rfl, RW, D, hn, hrs, hQ, hR, hRl, k⟩ := h
    have hs : sizeLine = 16777216 := sizeLine_eq
    have nd := scTreeOf.nd
    have hu := hr1.units
    have hu1 := hu_of hr1
    refine ⟨_, pss_cons (ps_set (i := 2) nd rfl (Or.inl rfl) (pcall DPt hr1 (pa_cons (pv 0) pa_nil)))
      (pss_cons (ps_set (i := 3) nd rfl (Or.inl rfl) (pe_callTy (call_list_rng rfl) (by rfl) T.list PyProof.Rows.boot_list (pa_cons (pe_callTy call_range1 (by rfl) T.range PyProof.Rows.boot_range (pa_cons (pe_callB call_len_seq (by rfl) T.len PySem.boot_len (pa_cons (pv 0) pa_nil)) pa_nil)) pa_nil)))
      (pss_cons (ps_set (i := 4) nd rfl (Or.inl rfl) (pe_lst pa_nil))
      (pss_cons (ps_for PassesOwn.never rfl (pi_list (pv 1)) (pg_name (i := 5) nd rfl (Or.inl rfl)) (pss_cons (ps_set (i := 6) nd rfl (Or.inr rfl) (pe_ix ix_list (pv 3) (pe_dget hu1 (pv 2) (pe_op op_mul pe_int (pv 5)) (fun _ _ => rfl)) (fun _ _ => rfl)))
      (pss_cons (ps_set (i := 7) nd rfl (Or.inr rfl) (pe_ix ix_list (pv 3) (pe_dget hu1 (pv 2) (pe_op op_add (pe_op op_mul pe_int (pv 5)) pe_int) (fun _ _ => rfl)) (fun _ _ => rfl)))
      (pss_one (ps_if (pt_cmpR op_ne (pv 6) (pv 7) (nomark _)) (pss_cons (ps_expr (pe_bm PySem.F.plainAttrs_list PySem.F.slot_list_append PySem.F.type_list_append mt_append (pv 4) (pa_cons (pv 5) pa_nil)))
      (pss_one (ps_setComp (i0 := 3) (te := _) nd rfl (Or.inl rfl) rfl (Blk.captN (caps := [6, 7]) ["places", "ropes", "place_of", "marks", "chosen", "rope", "one", "other"] (defScope sTreeOf).names rfl rfl rfl (by decide +kernel) (by decide +kernel) (by decide +kernel)) (pi_list (pv 3)) (fun _ _ _ _ => pts_nil) (fun _ _ _ _ => (pe_ifExp (pt_cmpR op_eq (pv 0) (pv 2) (nomark _)) (pv 1) (pv 0)))))) (pss_nil))))))
      (pss_one (ps_ret (pv 4)))))), ?_⟩
    refine ⟨_, rfl, p, ps, rs, n, rfl, RW, D, by omega, by omega, fun d H1 hd TB s1 => ?_⟩
    have RW1 := RW.same s1
    refine ⟨_, rfl, p, _, rfl, .inl (.of RW1.out), _, rfl, fun l0 h0 => ?_⟩
    refine ⟨l0, (ps.map V.ref).length, rfl, upd_same, (by rw [List.length_map, RW.len]; omega), fun l1 h1 => ?_⟩
    obtain ⟨n10, h1'⟩ := upd_none h1
    rw [List.length_map, RW.len, map_upTo]
    refine ⟨(by show 0 ≤ sizeLine; omega), fun c hc => ?_⟩
    obtain ⟨nc1, hc1⟩ := upd_none hc
    obtain ⟨nc0, hc0⟩ := upd_none hc1
    have s2 : Same H (L2.upd (L2.upd (L2.upd H1 l0 (.rng 0 ((rs.length : Nat) : Int))) l1 (.lst ((upTo rs.length).map V.int))) c (.lst [])) := ((s1.put (s1.free h0)).put (s1.free h1')).put (s1.free hc0)
    refine ⟨_, rfl, q, rfl, ⟨_, .of (s2 _ _ hQ)⟩, for_list (K := K) (a := q) (xs := (ofN R).map V.int) (fun i σ H3 => ∃ l v5 v6 v7, σ = [some (.ref p), some (.ref q), some (.ref d), some (.ref l), some (.ref c), v5, v6, v7] ∧ Same H H3 ∧ Same H1 H3 ∧ H1 l = none ∧ H1 c = none ∧ l ≠ c ∧
        H3 l = some (.lst ((mrk rs (kru rs [] (R.take i))).map V.int)) ∧ H3 c = some (.lst ((ofN (kru rs [] (R.take i))).map V.int)))
      ⟨l1, none, none, none, rfl, s2, ?_, h1', hc0, Ne.symm nc1, ?_, upd_same⟩ (fun i σ H3 _ ⟨_, _, _, _, _, s3, _⟩ => .of (s3 _ _ hQ)) ?_ ?_⟩
    · exact (((Same.refl H1).put h0).put h1').put hc0
    · rw [upd_ne (Ne.symm nc1), upd_same]; rfl
    · rintro i y σ H3 hi ⟨l, v5, v6, v7, rfl, s3, s13, fl, fc, hlc, hL, hC⟩
      obtain ⟨e, he, rfl⟩ := int_of hi
      obtain ⟨r, hr, rfl⟩ := ofN_at he
      have hrn : 2 * r + 1 < n := hR r (List.mem_of_getElem? hr)
      have TB3 := TB.same s13
      generalize hA : kru rs [] (R.take i) = A at hL hC
      have hAl : ∀ k ∈ A, 2 * k + 1 < n := fun k hk => hR k (List.mem_of_mem_take (by rw [← hA] at hk; exact kru_mem k hk))
      have hAi : A.length ≤ R.length := by rw [← hA]; exact Nat.le_trans kru_len (by rw [List.length_take]; omega)
      have b1 : pt rs (2 * (r : Int)) < (mrk rs A).length := by rw [mrk_length]; exact D.pt_lt (by omega)
      have b2 : pt rs (2 * (r : Int) + 1) < (mrk rs A).length := by rw [mrk_length]; exact D.pt_lt (by omega)
      have nx : kru rs [] (R.take (i + 1)) = if jl rs A (2 * (r : Int)) = jl rs A (2 * (r : Int) + 1) then A else A ++ [r] := by rw [take_at hr, kru_snoc, hA]
      have eq : ((mrk rs A).getD (pt rs (2 * (r : Int))) 0 = (mrk rs A).getD (pt rs (2 * (r : Int) + 1)) 0) ↔ jl rs A (2 * (r : Int)) = jl rs A (2 * (r : Int) + 1) := mrk_ker D hAl (by rw [← mrk_length rs A]; exact b1) (by rw [← mrk_length rs A]; exact b2)
      refine ⟨_, rfl, _, rfl, _, rfl, _, _, rfl, rfl, .inl ⟨by decide, by decide⟩, d, _, rfl, TB3.get (e := 2 * (r : Int)) (by omega), l, _, _, _, rfl, rfl, .of hL, int_at b1 rfl, ?_⟩
      refine ⟨_, rfl, _, rfl, _, rfl, _, _, rfl, rfl, .inl ⟨by decide, by decide⟩, _, _, rfl, rfl, d, _, rfl, TB3.get (e := 2 * (r : Int) + 1) (by omega), l, _, _, _, rfl, rfl, .of hL, int_at b2 rfl, ?_⟩
      refine ⟨_, rfl, _, rfl, rfl, _, rfl, ?_⟩
      refine ite2 (fun hne => ?_) (fun hne => ?_)
      · have hdf : ¬ (mrk rs A).getD (pt rs (2 * (r : Int))) 0 = (mrk rs A).getD (pt rs (2 * (r : Int) + 1)) 0 := fun q => by
          rw [q, decide_eq_true rfl] at hne
          exact absurd hne (by decide)
        rw [if_neg (fun q => hdf (eq.mpr q))] at nx
        refine ⟨_, rfl, .inl ⟨rfl, _, .of hC⟩, _, rfl, c, _, _, rfl, rfl, hC, (by rw [List.length_map, ofN_length]; omega), ?_⟩
        have hL4 : (L2.upd H3 c (.lst ((ofN A).map V.int ++ [.int (r : Int)]))) l = some (.lst ((mrk rs A).map V.int)) := by rw [upd_ne hlc]; exact hL
        refine ⟨_, rfl, l, rfl, ⟨_, .of hL4⟩, fun e hE => comp_list (xs := (mrk rs A).map V.int) (fun j H4 => Same (L2.upd H3 c (.lst ((ofN A).map V.int ++ [.int (r : Int)]))) H4 ∧ H4 e = some (.lst ((((mrk rs A).take j).map fun z => if z = (mrk rs A).getD (pt rs (2 * (r : Int) + 1)) 0 then (mrk rs A).getD (pt rs (2 * (r : Int))) 0 else z).map V.int)))
          ⟨(Same.refl _).put hE, upd_same⟩ (fun j H4 _ ⟨s4, _⟩ => .of (s4 _ _ hL4)) ?_ ?_⟩
        · rintro j z H4 hj ⟨s4, hL5⟩
          obtain ⟨x, hx, rfl⟩ := int_of hj
          have hjl : j < (mrk rs A).length := (List.getElem?_eq_some_iff.mp hx).1
          rw [mrk_length] at hjl
          refine yes_go ⟨_, rfl, _, rfl, rfl, _, rfl, ?_⟩
          have stepT : (((mrk rs A).take (j + 1)).map fun z => if z = (mrk rs A).getD (pt rs (2 * (r : Int) + 1)) 0 then (mrk rs A).getD (pt rs (2 * (r : Int))) 0 else z).map V.int = (((mrk rs A).take j).map fun z => if z = (mrk rs A).getD (pt rs (2 * (r : Int) + 1)) 0 then (mrk rs A).getD (pt rs (2 * (r : Int))) 0 else z).map V.int ++ [V.int (if x = (mrk rs A).getD (pt rs (2 * (r : Int) + 1)) 0 then (mrk rs A).getD (pt rs (2 * (r : Int))) 0 else x)] := by
            rw [take_at hx, List.map_append, List.map_append]; rfl
          refine ite2 (fun hxe => ?_) (fun hxe => ?_)
          · have hxe' : x = (mrk rs A).getD (pt rs (2 * (r : Int) + 1)) 0 := by
              have := of_decide_eq_true hxe
              injection this
            refine ⟨_, rfl, _, hL5, (by rw [List.length_map, List.length_map, List.length_take]; omega), s4.put hE, ?_⟩
            rw [upd_same, stepT, if_pos hxe']
          · have hxe' : ¬ x = (mrk rs A).getD (pt rs (2 * (r : Int) + 1)) 0 := fun q => hxe (by rw [q]; exact decide_eq_true rfl)
            refine ⟨_, rfl, _, hL5, (by rw [List.length_map, List.length_map, List.length_take]; omega), s4.put hE, ?_⟩
            rw [upd_same, stepT, if_neg hxe']
        · rintro H4 ⟨s4, hL5⟩
          rw [List.length_map, List.take_length] at hL5
          have hec : e ≠ c := fun q => by rw [q, upd_same] at hE; cases hE
          have fe : H3 e = none := by rw [upd_ne hec] at hE; exact hE
          have s5 : Same H (L2.upd H3 c (.lst ((ofN A).map V.int ++ [.int (r : Int)]))) := s3.put (s1.free fc)
          refine ⟨e, _, _, _, rfl, s5.trans s4, ?_, s13.free fe, fc, hec, ?_, ?_⟩
          · exact (s13.put fc).trans s4
          · rw [nx, mrk_snoc]; exact hL5
          · rw [nx, ofN_append, List.map_append]
            exact s4 _ _ upd_same
      · have hdf : (mrk rs A).getD (pt rs (2 * (r : Int))) 0 = (mrk rs A).getD (pt rs (2 * (r : Int) + 1)) 0 := by
          apply Classical.byContradiction
          intro q
          exact hne (by rw [decide_eq_false fun z => q (by injection z)]; rfl)
        rw [if_pos (eq.mp hdf)] at nx
        refine ⟨l, _, _, _, rfl, s3, s13, fl, fc, hlc, ?_, ?_⟩
        · rw [nx]; exact hL
        · rw [nx]; exact hC
    · rintro σ H3 ⟨l, v5, v6, v7, rfl, s3, s13, fl, fc, hlc, hL, hC⟩
      rw [List.length_map, ofN_length, List.take_length] at hC
      exact ⟨_, rfl, k c H3 (s1.free fc) hC s3⟩
theorem scAllBut : FnScope ["ropes", "chosen"] ["ropes", "chosen"] (defScope sAllBut) := ⟨rfl, rfl, rfl, by decide +kernel, rfl, by decide +kernel, by decide +kernel⟩
theorem ok_allBut {f : Addr} {fd : FuncData} (F : Fun K "all_but" "all_but" sAllBut f fd) : FnOk P w K mg base CX0 1 f fd ["ropes", "chosen"] spAllBut := by
  refine F.ok scAllBut (fun vs H Q E h => ?_) (fun cdv A outer s H vs Q E hr h => ?_)
  · obtain ⟨q, l, R, S, rfl, _⟩ := h
    rfl
  · obtain ⟨q, l, R, S, rfl, hQ, hL, hR, k⟩ := h
    have hs : sizeLine = 16777216 := sizeLine_eq
    have nd := scAllBut.nd
    refine ⟨_, pss_one (ps_ret (pe_compC (te := tVar 0) (tc := tTest (tOp (rIn K true) (tVar 0) (tVar 1))) rfl (Blk.captN (caps := [1]) ["ropes", "chosen"] (defScope sAllBut).names rfl rfl rfl (by decide +kernel) (by decide +kernel) (by decide +kernel)) (pi_list (pv 0)) (fun _ _ _ _ => pts_one (pt_cmpR op_notIn_seq (pv 0) (pv 1) rfl)) (fun _ _ _ _ => pv 0))), ?_⟩
    refine ⟨_, rfl, q, rfl, ⟨_, .of hQ⟩, fun e hE => comp_list (xs := (ofN R).map V.int) (fun j H4 => Same H H4 ∧ H4 e = some (.lst ((ofN (butR (R.take j) S)).map V.int))) ⟨(Same.refl _).put hE, upd_same⟩ (fun j H4 _ ⟨s4, _⟩ => .of (s4 _ _ hQ)) ?_ ?_⟩
    · rintro j z H4 hj ⟨s4, hL5⟩
      obtain ⟨x, hx, rfl⟩ := int_of hj
      obtain ⟨r, hr', rfl⟩ := ofN_at hx
      have hjl : j < R.length := (List.getElem?_eq_some_iff.mp hr').1
      have hb : (butR (R.take j) S).length ≤ j := Nat.le_trans (List.length_filter_le _ _) (by rw [List.length_take]; omega)
      refine ⟨_, rfl, _, rfl, l, _, rfl, .inl (.of (s4 _ _ hL)), rfl, flat_ints _, _, rfl, ?_⟩
      rw [in_ints]
      refine ite2 (fun hin => ?_) (fun hin => ?_)
      · have hin' : r ∉ S := fun z => by
          rw [decide_eq_true (ofN_mem.mpr z)] at hin
          exact absurd hin (by decide)
        refine ⟨_, rfl, _, hL5, (by rw [List.length_map, ofN_length]; omega), s4.put hE, ?_⟩
        rw [upd_same, take_at hr']
        unfold butR
        rw [List.filter_append, List.filter_cons, if_pos (by simpa using hin'), ofN_append, List.map_append]
        rfl
      · have hin' : r ∈ S := by
          apply Classical.byContradiction
          intro z
          exact hin (by rw [decide_eq_false fun y => z (ofN_mem.mp y)]; rfl)
        refine ⟨s4, ?_⟩
        rw [take_at hr']
        unfold butR at hL5 ⊢
        rw [List.filter_append, List.filter_cons, if_neg (by simpa using hin'), List.filter_nil, List.append_nil]
        exact hL5
    · rintro H4 ⟨s4, hL5⟩
      rw [List.length_map, ofN_length, List.take_length] at hL5
      exact k e H4 hE hL5 s4
def spTwoTrees : Sp := fun vs H Q _ => ∃ (p : Addr) (ps : List Addr) (rs : Rs) (n : Nat), vs = [.ref p] ∧ Rows H p ps rs ∧ Dr rs n ∧ n < 64 ∧ rs.length < 64 ∧
  ∀ (fs : Rs) (t a b c : Addr) (H' : Hp), Fcs (stp rs) n fs → [a, b, c].Nodup → H t = none → H' t = some (.tup [.ref a, .ref b, .ref c]) → H' a = some (.lst ((ofN (kru rs [] (allR n))).map V.int)) → H' b = some (.lst ((ofN (kru fs [] (butR (allR n) (kru rs [] (allR n))))).map V.int)) →
    H' c = some (.lst ((ofN (butR (butR (allR n) (kru rs [] (allR n))) (kru fs [] (butR (allR n) (kru rs [] (allR n)))))).map V.int)) → Same H H' → Q (.ref t) H'
theorem scTwoTrees : FnScope ["rounds", "ropes", "of_points", "rest", "of_faces"] ["rounds"] (defScope sTwoTrees) := ⟨rfl, rfl, rfl, by decide +kernel, rfl, by decide +kernel, by decide +kernel⟩
theorem ok_twoTrees {f : Addr} {fd : FuncData} (F : Fun K "two_trees" "two_trees" sTwoTrees f fd) (T : Txt mg) (DR : Def P w K mg base "refuse_no_drawing" 3 ["rounds"] spRefuse) (DN : Def P w K mg base "how_many_ropes" 1 ["rounds"] spRopes)
    (DTr : Def P w K mg base "tree_of" 2 ["places", "ropes"] spTreeOf) (DA : Def P w K mg base "all_but" 1 ["ropes", "chosen"] spAllBut) (DG : Def P w K mg base "faces" 4 ["rounds"] spFaces) : FnOk P w K mg base CX0 5 f fd ["rounds"] spTwoTrees := by
  refine F.ok scTwoTrees (fun vs H Q E h => ?_) (fun cdv A outer s H vs Q E hr4 h => ?_)
  · obtain ⟨p, ps, rs, n, rfl, _⟩ := h
    rfl
  · obtain ⟨p, ps, rs, n, rfl, RW, D, hn, hrs, k⟩ := h
    have hs : sizeLine = 16777216 := sizeLine_eq
    have nd := scTwoTrees.nd
    have hr1 : Room 1 _ := hr4.mono (by decide)
    have hr2 : Room 2 _ := hr4.mono (by decide)
    have hr3 : Room 3 _ := hr4.mono (by decide)
    refine ⟨_, pss_cons (ps_expr (pcall DR hr3 (pa_cons (pv 0) pa_nil)))
      (pss_cons (ps_set (i := 1) nd rfl (Or.inl rfl) (pe_callTy (call_list_rng rfl) (by rfl) T.list PyProof.Rows.boot_list (pa_cons (pe_callTy call_range1 (by rfl) T.range PyProof.Rows.boot_range (pa_cons (pcall DN hr1 (pa_cons (pv 0) pa_nil)) pa_nil)) pa_nil)))
      (pss_cons (ps_set (i := 2) nd rfl (Or.inl rfl) (pcall DTr hr2 (pa_cons (pv 0) (pa_cons (pv 1) pa_nil))))
      (pss_cons (ps_set (i := 3) nd rfl (Or.inl rfl) (pcall DA hr1 (pa_cons (pv 1) (pa_cons (pv 2) pa_nil))))
      (pss_cons (ps_set (i := 4) nd rfl (Or.inl rfl) (pcall DTr hr2 (pa_cons (pcall DG hr4 (pa_cons (pv 0) pa_nil)) (pa_cons (pv 3) pa_nil))))
      (pss_one (ps_ret (pe_tup (pa_cons (pv 2) (pa_cons (pv 4) (pa_cons (pcall DA hr1 (pa_cons (pv 3) (pa_cons (pv 4) pa_nil))) pa_nil)))))))))), ?_⟩
    have hall := allR_lt D.even
    have hlen : (allR n).length = n / 2 := List.length_range
    refine ⟨_, rfl, p, ps, rs, n, rfl, RW, D, hn, fun H1 s1 => ?_⟩
    have RW1 := RW.same s1
    refine ⟨_, rfl, p, ps, rs, n, rfl, RW1, D, by omega, fun H2 s2 => ?_⟩
    refine ⟨_, rfl, fun l0 h0 => ?_⟩
    refine ⟨l0, n / 2, rfl, upd_same, by omega, fun q h1 => ?_⟩
    obtain ⟨nq0, h1'⟩ := upd_none h1
    rw [map_upTo]
    have s3 : Same H2 (L2.upd (L2.upd H2 l0 (.rng 0 ((n / 2 : Nat) : Int))) q (.lst ((upTo (n / 2)).map V.int))) := ((Same.refl H2).put h0).put h1'
    have RW3 := (RW1.same s2).same s3
    refine ⟨_, rfl, _, rfl, p, q, ps, rs, n, allR n, rfl, RW3, D, by omega, by omega, upd_same, hall, by omega, fun a H3 ha hA s4 => ?_⟩
    generalize eA : kru rs [] (allR n) = TA at hA k
    have mA : ∀ k ∈ TA, k ∈ allR n := by rw [← eA]; exact kru_mem
    have hQ3 := s4 _ _ (upd_same (H := L2.upd H2 l0 (.rng 0 ((n / 2 : Nat) : Int))) (a := q) (o := .lst ((upTo (n / 2)).map V.int)))
    refine ⟨_, rfl, _, rfl, q, a, allR n, TA, rfl, hQ3, hA, by omega, fun b H4 hb hB s5 => ?_⟩
    have lb : (butR (allR n) TA).length ≤ n / 2 := Nat.le_trans (List.length_filter_le _ _) (by omega)
    have RW5 := (RW3.same s4).same s5
    refine ⟨_, rfl, p, ps, rs, n, rfl, RW5, D, by omega, fun p' ps' fs H5 hF R5 s6 _ _ => ?_⟩
    have hDf := (D.inside hF).1
    have cF := D.faces hF
    have lf : fs.length ≤ n := by
      have := flat_ge (k := 1) (L := fs) fun r hr => List.length_pos_iff.mpr (cF.cyc r hr).ne
      rw [cF.len] at this
      omega
    refine ⟨_, rfl, p', b, ps', fs, n, butR (allR n) TA, rfl, R5, hDf, by omega, by omega, s6 _ _ hB, fun k hk => hall k (List.mem_filter.mp hk).1, by omega, fun c H6 hc hC s7 => ?_⟩
    generalize eB : kru fs [] (butR (allR n) TA) = TB at hC
    have hA6 := s7 _ _ (s6 _ _ (s5 _ _ hA))
    have hB6 := s7 _ _ (s6 _ _ hB)
    refine ⟨_, rfl, _, rfl, _, rfl, _, rfl, b, c, butR (allR n) TA, TB, rfl, hB6, hC, by omega, fun e H7 he hE s8 => ?_⟩
    refine ⟨(by show 3 ≤ sizeLine; omega), fun t ht => ?_⟩
    have sz : Same H7 (L2.upd H7 t (.tup [.ref a, .ref c, .ref e])) := (Same.refl H7).put ht
    have d1 : a ≠ c := ne_of_none (s6 _ _ (s5 _ _ hA)) hc
    have d2 : a ≠ e := ne_of_none hA6 he
    have d3 : c ≠ e := ne_of_none hC he
    have sAll := ((((((s1.trans s2).trans s3).trans s4).trans s5).trans s6).trans s7).trans s8
    refine k fs t a c e _ hF (by simp [d1, d2, d3]) (sAll.free ht) upd_same (sz _ _ (s8 _ _ hA6)) ?_ ?_ ?_
    · rw [eB]; exact sz _ _ (s8 _ _ hC)
    · rw [eB]; exact sz _ _ hE
    · exact sAll.trans sz
end
end Ink
namespace L2
open PySem PySem.Spec PyProof.Rows
section
variable {X : Cx}
end
end L2
namespace Tab
open PySem
abbrev Up (xs : Array Nat) : Prop := xs.toList.Pairwise (· < ·)
theorem Up.lt {xs : Array Nat} (h : Up xs) {i j : Nat} (hij : i < j) (hj : j < xs.size) : xs[i]'(by omega) < xs[j] := by
  have := (List.pairwise_iff_getElem.mp h) i j (by simpa using (by omega : i < xs.size)) (by simpa using hj) hij
  simpa using this
theorem go_spec {xs : Array Nat} (h : Up xs) (j : Nat) : ∀ (fuel lo hi : Nat), hi - lo ≤ fuel → lo ≤ hi → hi ≤ xs.size → (∀ k (hk : k < xs.size), k < lo → xs[k] < j) → (∀ k (hk : k < xs.size), hi ≤ k → j ≤ xs[k]) →
    SetTable.below.go xs j fuel lo hi ≤ xs.size ∧ (∀ k (hk : k < xs.size), k < SetTable.below.go xs j fuel lo hi → xs[k] < j) ∧ (∀ k (hk : k < xs.size), SetTable.below.go xs j fuel lo hi ≤ k → j ≤ xs[k]) := by
  intro fuel
  induction fuel with
  | zero =>
    intro lo hi hf hl hh h1 h2
    have e : lo = hi := by omega
    subst e
    unfold SetTable.below.go
    exact ⟨hh, h1, h2⟩
  | succ fuel ih =>
    intro lo hi hf hl hh h1 h2
    unfold SetTable.below.go
    by_cases hlt : lo < hi
    · rw [if_pos hlt]
      have hm : (lo + hi) / 2 < xs.size := by omega
      have e : xs.getD ((lo + hi) / 2) j = xs[(lo + hi) / 2] := by
        rw [Array.getD_eq_getD_getElem?, Array.getElem?_eq_getElem hm]
        rfl
      dsimp only
      rw [e]
      by_cases hc : xs[(lo + hi) / 2] < j
      · rw [if_pos hc]
        refine ih _ _ (by omega) (by omega) hh (fun k hk hk' => ?_) h2
        by_cases q : k = (lo + hi) / 2
        · subst q; exact hc
        · have := h.lt (i := k) (j := (lo + hi) / 2) (by omega) hm
          omega
      · rw [if_neg hc]
        refine ih _ _ (by omega) (by omega) (by omega) h1 (fun k hk hk' => ?_)
        by_cases q : k = (lo + hi) / 2
        · subst q; omega
        · have := h.lt (i := (lo + hi) / 2) (j := k) (by omega) hk
          omega
    · rw [if_neg hlt]
      have e : lo = hi := by omega
      subst e
      exact ⟨hh, h1, h2⟩
theorem below_spec {xs : Array Nat} (h : Up xs) (j : Nat) : SetTable.below xs j ≤ xs.size ∧ (∀ k (hk : k < xs.size), k < SetTable.below xs j → xs[k] < j) ∧ (∀ k (hk : k < xs.size), SetTable.below xs j ≤ k → j ≤ xs[k]) := by
  unfold SetTable.below
  exact go_spec h j _ _ _ (by omega) (by omega) (by omega) (fun k _ q => by omega) (fun k hk q => by omega)
theorem insertAt_toList {α : Type} (xs : Array α) (p : Nat) (x : α) (hp : p ≤ xs.size) : (SetTable.insertAt xs p x).toList = xs.toList.take p ++ x :: xs.toList.drop p := by
  unfold SetTable.insertAt
  simp [List.take_of_length_le]
theorem Up.insert {xs : Array Nat} (h : Up xs) {j : Nat} (hj : xs[SetTable.below xs j]? ≠ some j) : Up (SetTable.insertAt xs (SetTable.below xs j) j) := by
  obtain ⟨b1, b2, b3⟩ := below_spec h j
  show List.Pairwise _ _
  rw [insertAt_toList _ _ _ b1]
  refine List.pairwise_append.mpr ⟨h.sublist (List.take_sublist _ _), List.pairwise_cons.mpr ⟨fun z hz => ?_, h.sublist (List.drop_sublist _ _)⟩, fun a ha b hb => ?_⟩
  · obtain ⟨k, hk, rfl⟩ := List.mem_iff_getElem.mp hz
    rw [List.length_drop, Array.length_toList] at hk
    rw [List.getElem_drop]
    have hk' : SetTable.below xs j + k < xs.size := by omega
    have h3 := b3 _ hk' (by omega)
    have e : xs.toList[SetTable.below xs j + k]'(by simpa using hk') = xs[SetTable.below xs j + k] := by simp
    rw [e]
    by_cases q : k = 0
    · subst q
      have : xs[SetTable.below xs j] ≠ j := fun z => hj (by rw [Array.getElem?_eq_getElem (by simpa using hk'), z])
      have h4 : xs[SetTable.below xs j + 0] = xs[SetTable.below xs j] := rfl
      omega
    · have h5 := h.lt (i := SetTable.below xs j) (j := SetTable.below xs j + k) (by omega) hk'
      have h6 := b3 (SetTable.below xs j) (by omega) (Nat.le_refl _)
      omega
  · obtain ⟨k, hk, rfl⟩ := List.mem_iff_getElem.mp ha
    rw [List.length_take, Array.length_toList] at hk
    rw [List.getElem_take]
    have ea : xs.toList[k]'(by simp; omega) = xs[k]'(by omega) := by simp
    rw [ea]
    have h1 := b2 k (by omega) (by omega)
    rcases List.mem_cons.mp hb with rfl | hb
    · exact h1
    · obtain ⟨m, hm, rfl⟩ := List.mem_iff_getElem.mp hb
      rw [List.length_drop, Array.length_toList] at hm
      rw [List.getElem_drop]
      have h3 := b3 (SetTable.below xs j + m) (by omega) (by omega)
      have eb : xs.toList[SetTable.below xs j + m]'(by simp; omega) = xs[SetTable.below xs j + m]'(by omega) := by simp
      rw [eb]
      omega
end Tab
namespace Tab
open PySem
structure Good (t : SetTable) (led : Bool) : Prop where
  up : Up t.place
  nod : t.dummies = #[]
  led : t.led = led
theorem Good.fresh (f m : Nat) (led : Bool) : Good (SetTable.fresh f m led) led := ⟨List.Pairwise.nil, rfl, rfl⟩
theorem Good.unplain {t : SetTable} {led : Bool} (g : Good t led) : Good { t with plain := false } led := ⟨g.up, g.nod, g.led⟩
theorem up_range (n : Nat) : Up (Array.range n) := by
  show List.Pairwise _ _
  rw [Array.toList_range]
  exact List.pairwise_lt_range
theorem Good.standIn {t : SetTable} {led : Bool} (g : Good t led) (n : Nat) : Good (t.standIn n) led := ⟨up_range n, rfl, g.led⟩
theorem has_none {j : Nat} : SetTable.has #[] j = false := by
  unfold SetTable.has
  simp
theorem slot_empty {t : SetTable} {led : Bool} (g : Good t led) {j : Nat} (h : t.slot j = .empty) : t.place[SetTable.below t.place j]? ≠ some j := fun e => by
  unfold SetTable.slot at h
  simp [e] at h
theorem slot_dummy {t : SetTable} {led : Bool} (g : Good t led) {j : Nat} : t.slot j ≠ .dummy := fun h => by
  unfold SetTable.slot at h
  rw [g.nod, has_none] at h
  dsimp only at h
  split at h
  · cases h
  · simp at h
theorem probe_go {t : SetTable} {led : Bool} (g : Good t led) {f : Nat → Int} {h : Int} : ∀ (fuel : Nat) (p : SetTable.Probe), p.dummy = none → ∀ j d, SetTable.probe.go t f h fuel p = some (.empty j d) → d = none ∧ t.slot j = .empty := by
  intro fuel
  induction fuel with
  | zero => intro p _ j d e; cases e
  | succ fuel ih =>
    intro p hp j d e
    unfold SetTable.probe.go at e
    cases hs : t.slot p.j with
    | empty =>
      rw [hs] at e
      have e' : SetTable.Met.empty p.j p.dummy = .empty j d := Option.some.inj e
      injection e' with e1 e2
      subst e1
      exact ⟨by rw [← e2, hp], hs⟩
    | dummy => exact absurd hs (slot_dummy g)
    | live i =>
      rw [hs] at e
      dsimp only at e
      split at e
      · cases e
      · refine ih _ ?_ j d e
        unfold SetTable.advance
        split
        · exact hp
        · exact hp
theorem freeSlot_spec {t : SetTable} {led : Bool} (g : Good t led) {h : Int} {j : Nat} {b : Bool} (e : t.freeSlot h = some (j, b)) : t.slot j = .empty := by
  unfold SetTable.freeSlot at e
  cases hp : t.probe (fun _ => h + 1) h (t.probeStart h) with
  | none => rw [hp] at e; cases e
  | some m =>
    rw [hp] at e
    cases m with
    | candidate a b c => cases e
    | empty a d =>
      obtain ⟨rfl, hs⟩ := probe_go g _ _ rfl _ _ hp
      have e' : (a, false) = (j, b) := Option.some.inj e
      injection e' with e1 e2
      rw [← e1]
      exact hs
theorem Good.put {t : SetTable} {led : Bool} (g : Good t led) {j : Nat} (h : t.slot j = .empty) : Good (t.put j).1 led := by
  refine ⟨g.up.insert (slot_empty g h), ?_, g.led⟩
  show (if SetTable.has t.dummies j then _ else t.dummies) = #[]
  rw [g.nod, has_none]
  rfl
theorem Good.layNew {t : SetTable} {led : Bool} (g : Good t led) (es : Array (Int × Value)) (h : Int) (x : Value) : Good (layNew t es h x).2.1 led := by
  unfold PySem.layNew
  cases e : t.freeSlot h with
  | none => exact g.standIn _
  | some p =>
    obtain ⟨j, b⟩ := p
    have g2 := g.put (freeSlot_spec g e)
    dsimp only
    unfold SetTable.orStandIn
    split
    · exact g2
    · exact g2.standIn _
theorem live_up (f : Nat → Option Nat) : ∀ n, ((List.range n).filterMap fun j => (f j).map (j, ·)).Pairwise (fun a b => a.1 < b.1) := fun n => by
  rw [List.pairwise_filterMap]
  refine List.pairwise_lt_range.imp fun {a b} hab x hx y hy => ?_
  cases h1 : f a with
  | none => rw [h1] at hx; cases hx
  | some u =>
    cases h2 : f b with
    | none => rw [h2] at hy; cases hy
    | some v =>
      rw [h1] at hx
      rw [h2] at hy
      cases hx
      cases hy
      exact hab
theorem Good.relaid {t t' : SetTable} {led : Bool} (g : Good t led) {hs : Array Int} {wanted : Nat} {o : Array Nat} (e : t.relaid hs wanted = some (t', o)) : Good t' led := by
  unfold SetTable.relaid SetTable.laid at e
  cases hl : SetTable.layClean (SetTable.sizeAbove wanted - 1) hs with
  | none => rw [hl] at e; cases e
  | some owner =>
    rw [hl] at e
    have e' := Option.some.inj e
    injection e' with e1 e2
    subst e1
    refine ⟨?_, rfl, g.led⟩
    show List.Pairwise _ (List.map _ _)
    rw [List.pairwise_map]
    exact live_up (fun j => owner.getD j none) _
theorem Good.relayAll {t : SetTable} {led : Bool} (g : Good t led) (es : Array (Int × Value)) (wanted : Nat) : Good (relayAll t es wanted).2.1 led := by
  unfold PySem.relayAll
  cases e : t.relaid (es.map (·.1)) wanted with
  | none => exact g.standIn _
  | some p =>
    obtain ⟨t', o⟩ := p
    dsimp only
    split
    · exact g.relaid e
    · exact g.standIn _
theorem below_next {xs : Array Nat} (h : Up xs) {i : Nat} (hi : i < xs.size) : SetTable.below xs (xs[i] + 1) = i + 1 := by
  obtain ⟨b1, b2, b3⟩ := below_spec h (xs[i] + 1)
  have h1 : ¬ SetTable.below xs (xs[i] + 1) ≤ i := fun z => by
    have := b3 i hi z
    omega
  by_cases h2 : i + 1 < SetTable.below xs (xs[i] + 1)
  · have h3 := b2 (i + 1) (by omega) h2
    have h4 := h.lt (i := i) (j := i + 1) (by omega) (by omega)
    omega
  · omega
theorem below_zero {xs : Array Nat} (h : Up xs) : SetTable.below xs 0 = 0 := by
  obtain ⟨b1, b2, b3⟩ := below_spec h 0
  by_cases h2 : 0 < SetTable.below xs 0
  · have := b2 0 (by omega) h2
    omega
  · omega
end Tab
namespace Tab
open PySem
theorem out_perm {α : Type} : ∀ {l : List α} {i : Nat} (h : i < l.length), (l[i] :: l.eraseIdx i).Perm l
  | x :: l, 0, _ => .refl _
  | x :: l, i + 1, h => by
    have h' : i < l.length := by simpa using h
    show (l[i] :: x :: l.eraseIdx i).Perm (x :: l)
    exact (List.Perm.swap _ _ _).trans ((out_perm h').cons x)
theorem pick_go {α : Type} (next : Nat → Nat) : ∀ (fuel k : Nat) (left : List α) (out : Array α), left.length = fuel → (pickOrder.go next fuel k left out).toList.Perm (out.toList ++ left) := by
  intro fuel
  induction fuel with
  | zero =>
    intro k left out h
    have : left = [] := List.length_eq_zero_iff.mp h
    subst this
    unfold pickOrder.go
    rw [List.append_nil]
  | succ fuel ih =>
    intro k left out h
    unfold pickOrder.go
    have hi : next k % left.length < left.length := Nat.mod_lt _ (by omega)
    rw [List.getElem?_eq_getElem hi]
    refine (ih (k + 1) _ _ (by rw [List.length_eraseIdx_of_lt hi, h]; rfl)).trans ?_
    rw [Array.toList_push, List.append_assoc]
    exact (out_perm hi).append_left _
theorem pick_perm {α : Type} (next : Nat → Nat) (xs : Array α) : (pickOrder next xs).toList.Perm xs.toList := by
  unfold pickOrder
  simpa using pick_go next xs.size 0 xs.toList #[] (by simp)
section
variable {prog : Program} {w : World} {A : Around} {E : Value → Shared → Prop}
theorem any_choose {src : Source} {n : Nat} {Q : Nat → Shared → Prop} {s : Shared} (hn : n ≠ 0) (h : ∀ i d, i < n → Q i { s with drawn := d }) : wpAny (model prog w) A (choose src n) Q E s :=
  fun _ _ _ => ⟨hn, h _ _ (Nat.mod_lt _ (Nat.pos_of_ne_zero hn))⟩
theorem any_draw {α : Type} : ∀ (n : Nat) (xs : List α) {Q : List α → Shared → Prop} {s : Shared}, xs.length = n → (∀ ys d, ys.Perm xs → Q ys { s with drawn := d }) → wpAny (model prog w) A (drawOrder n xs) Q E s
  | 0, xs, Q, s, hl, h => by
    have : xs = [] := List.length_eq_zero_iff.mp hl
    subst this
    unfold drawOrder
    exact wpAny_pure (h [] s.drawn .nil)
  | n + 1, [], Q, s, hl, h => by cases hl
  | n + 1, x :: xs, Q, s, hl, h => by
    unfold drawOrder
    refine wpAny_bind (any_choose (by simp) fun i d hi => ?_)
    rw [List.getElem?_eq_getElem hi]
    refine wpAny_bind (any_draw n _ (by rw [List.length_eraseIdx_of_lt hi, hl]; rfl) fun ys d' hp => ?_)
    exact wpAny_pure (h _ d' ((hp.cons _).trans (out_perm hi)))
def SetG (prog : Program) (w : World) (h : Heap) (a : Addr) (S : Int → Bool) (n : Nat) (led : Bool) : Prop :=
  ∃ o es ep t, h.get? a = some o ∧ o.ExactSet ∧ o.data = .set es ep t ∧ (ElemsOf (intKind prog w) es.toList ∧ ∀ k, S k = true ↔ ∃ e ∈ es.toList, (intKind prog w).is k e.2 = true) ∧ es.size < scanBound ∧ t.fits es.size = true ∧ es.size = n ∧ Good t led
theorem SetG.at {h h' : Heap} {a : Addr} {S : Int → Bool} {n : Nat} {led : Bool} (g : SetG prog w h a S n led) (k : ∀ o, h.get? a = some o → h'.get? a = some o) : SetG prog w h' a S n led :=
  let ⟨o, es, ep, t, q1, q2⟩ := g; ⟨o, es, ep, t, k o q1, q2⟩
theorem SetG.store {h : Heap} {a : Addr} {o : Obj} {es es' : Array (Int × Value)} {ep : Nat} {t t' : SetTable} {S : Int → Bool} {led : Bool} (q1 : h.get? a = some o) (q2 : o.ExactSet) (q3 : o.data = .set es ep t)
    (q4 : ElemsOf (intKind prog w) es'.toList ∧ ∀ k, S k = true ↔ ∃ e ∈ es'.toList, (intKind prog w).is k e.2 = true) (q6 : es'.size < scanBound) (q7 : t'.fits es'.size = true) (g : Good t' led) :
    (h.update a (Obj.putSet es' t')).get? a = some { o with data := .set es' (ep + 1) t' } ∧ SetG prog w (h.update a (Obj.putSet es' t')) a S es'.size led := by
  have z := (SetOf_store (knd := intKind prog w) q1 q2 q3 q4.1 q4.2 q6 q7).1
  exact ⟨z, _, es', ep + 1, t', z, q2, rfl, q4, q6, q7, rfl, g⟩
section
variable {s : Shared}
theorem any_tail {g : Bool → Sem Unit} (hg : ∀ (b : Bool) (s' : Shared) (Q : Unit → Shared → Prop), Q () s' → wpAny (model prog w) A (g b) Q E s') {a : Addr} {o : Obj} {es es1 : Array (Int × Value)} {ep : Nat} {t t1 : SetTable} {S : Int → Bool} {led d : Bool} {R : Option Bool → Shared → Prop}
    (q1 : s.heap.get? a = some o) (q2 : o.ExactSet) (q3 : o.data = .set es ep t) (q4 : ElemsOf (intKind prog w) es1.toList ∧ ∀ k, S k = true ↔ ∃ e ∈ es1.toList, (intKind prog w).is k e.2 = true)
    (q6 : es1.size < scanBound) (q7 : t1.fits es1.size = true) (gd : Good t1 led) (fin : ∀ h', Heap.SameBut a s.heap h' → SetG prog w h' a S es1.size led → R (some true) { s with heap := h' }) :
    wpAny (model prog w) A (do
      storeSet a es1 t1
      if (!d && t1.tooFull) = true then do
        g (relayAll t1 es1 (SetTable.grown es1.size)).2.2
        storeSet a (relayAll t1 es1 (SetTable.grown es1.size)).1 (relayAll t1 es1 (SetTable.grown es1.size)).2.1
        pure (some true)
      else pure (some true)) R E s := by
  obtain ⟨z1, z2⟩ := SetG.store (prog := prog) (w := w) q1 q2 q3 q4 q6 q7 gd
  have sb := Heap.SameBut.update s.heap a (Obj.putSet es1 t1)
  refine wpAny_bind (wpAny_storeSet_of q1 q3 ?_ (fits_of_scanBound q6))
  by_cases hc : (!d && t1.tooFull) = true
  · rw [if_pos hc]
    have pp := relayAll_perm t1 es1 (SetTable.grown es1.size)
    have pf := relayAll_fits t1 es1 (SetTable.grown es1.size)
    have pg := gd.relayAll es1 (SetTable.grown es1.size)
    generalize relayAll t1 es1 (SetTable.grown es1.size) = Y at pp pf pg ⊢
    obtain ⟨es2, t2, gv⟩ := Y
    dsimp only at pp pf pg ⊢
    have el : es2.size = es1.size := by
      have := pp.length_eq
      simpa using this
    have r4 : ElemsOf (intKind prog w) es2.toList ∧ ∀ k, S k = true ↔ ∃ e ∈ es2.toList, (intKind prog w).is k e.2 = true :=
      ⟨q4.1.perm pp, fun k => (q4.2 k).trans ⟨fun ⟨e, m, y⟩ => ⟨e, pp.mem_iff.mpr m, y⟩, fun ⟨e, m, y⟩ => ⟨e, pp.mem_iff.mp m, y⟩⟩⟩
    obtain ⟨_, y2⟩ := SetG.store (prog := prog) (w := w) z1 q2 rfl r4 (by omega) pf pg
    refine wpAny_bind (hg gv _ _ ?_)
    refine wpAny_bind (wpAny_storeSet_of z1 rfl ?_ (fits_of_scanBound (by omega)))
    rw [el] at y2
    exact wpAny_pure (fin _ (sb.trans (Heap.SameBut.update _ a _)) y2)
  · rw [if_neg hc]
    exact wpAny_pure (fin _ sb z2)
theorem any_add {a : Addr} {S : Int → Bool} {n : Nat} {led : Bool} {k : Int} {x : Value} {Q : Bool → Shared → Prop} (hx : (intKind prog w).is k x = true) (hy : x.scannable = true) (hS : SetG prog w s.heap a S n led) (room : n + 1 < scanBound)
    (fin : ∀ h', Heap.SameBut a s.heap h' → SetG prog w h' a (fun z => S z || decide (z = k)) (if S k then n else n + 1) led → Q (!S k) { s with heap := h' }) : wpAny (model prog w) A (setAddHashed a x ((intKind prog w).hash k)) Q E s := by
  have whole := hS
  obtain ⟨o, es, ep, t, q1, q2, q3, ⟨q4, q5⟩, q6, q7, q8, q9⟩ := hS
  unfold setAddHashed
  refine wpAny_holding ?_
  unfold setAddHashedIn
  refine wpAny_bind (wpAny_setState_of q1 q3 q7 ?_)
  dsimp only
  rw [if_pos (byScan_of hy q6 q4)]
  refine wpAny_bind ?_
  unfold setAddByScan
  refine wpAny_bind (wpAny_rule (wpAny_bind (wpAny_setScan_of hx q1 q3 q7 q4 ?_)))
  have hk := q5 k
  cases hi : es.toList.findIdx? (fun e => (intKind prog w).is k e.2) with
  | some j =>
    obtain ⟨hj, hz, _⟩ := List.findIdx?_eq_some_iff_getElem.mp hi
    have yes : S k = true := hk.mpr ⟨_, List.getElem_mem hj, hz⟩
    refine wpAny_pure (wpAny_pure ?_)
    have e1 : (fun z => S z || decide (z = k)) = S := funext fun z => by
      by_cases q : z = k
      · subst q; rw [yes]; rfl
      · simp [q]
    have := fin s.heap (.refl a s.heap) (by rw [e1, if_pos yes]; exact whole)
    rw [yes] at this
    exact this
  | none =>
    have no : S k = false := by
      cases q : S k with
      | false => rfl
      | true =>
        obtain ⟨e, m, y⟩ := hk.mp q
        have := List.findIdx?_eq_none_iff.mp hi e m
        rw [y] at this
        cases this
    have pp := layNew_perm t es ((intKind prog w).hash k) x
    have pf := layNew_fits t es ((intKind prog w).hash k) x
    have pg := q9.layNew es ((intKind prog w).hash k) x
    dsimp only
    generalize layNew t es ((intKind prog w).hash k) x = Y at pp pf pg ⊢
    obtain ⟨es1, t1, dm, gv⟩ := Y
    dsimp only at pp pf pg ⊢
    rw [Array.toList_push] at pp
    have el : es1.size = n + 1 := by
      have := pp.length_eq
      rw [List.length_append] at this
      simp at this
      omega
    have r4 : ElemsOf (intKind prog w) es1.toList ∧ ∀ z, (S z || decide (z = k)) = true ↔ ∃ e ∈ es1.toList, (intKind prog w).is z e.2 = true := ⟨(q4.push hx hy).perm pp, mem_push_iff hx q5 pp⟩
    have lst : ∀ h', Heap.SameBut a s.heap h' → SetG prog w h' a (fun z => S z || decide (z = k)) es1.size led → Q true { s with heap := h' } := fun h' sb g => by
      have := fin h' sb
      rw [no, if_neg (by decide), ← el] at this
      exact this g
    have gw : ∀ (b : Bool) (s' : Shared) (Q' : Unit → Shared → Prop), Q' () s' → wpAny (model prog w) A (match b with | true => rule "set.scan.the-table-gave-way" | false => pure ()) Q' E s' := fun b s' Q' q => by
      cases b
      · exact wpAny_pure q
      · exact wpAny_rule q
    refine wpAny_bind (gw gv _ _ ?_)
    have hz : t1.plain = true ∨ t1.plain = false := by cases t1.plain <;> simp
    rcases hz with hz | hz
    · rw [if_pos hz]
      refine wpAny_bind ?_
      rw [hashByValue_scannable 8 hy]
      refine wpAny_pure ?_
      refine any_tail gw q1 q2 q3 r4 (by omega) (t1 := if plainKind x = true then t1 else { t1 with plain := false }) (led := led) ?_ ?_ fun h' sb g => wpAny_pure (lst h' sb g)
      · split
        · exact pf
        · exact SetTable.fits_plain_off pf
      · split
        · exact pg
        · exact pg.unplain
    · rw [if_neg (by rw [hz]; decide)]
      refine wpAny_bind (wpAny_pure ?_)
      rw [if_pos rfl]
      exact any_tail gw q1 q2 q3 r4 (by omega) pf pg fun h' sb g => wpAny_pure (lst h' sb g)
end
end
end Tab
namespace Tab
open PySem
def obj0 (led : Bool) : Obj := { cls := .type "set", dict := none, data := .set #[] 0 (.fresh 0 0 led) }
def ledOf (w : World) : Bool := !w.params.followText "set-order"
section
variable {prog : Program} {w : World} {A : Around} {E : Value → Shared → Prop} {s : Shared}
theorem code_new (a : Value) {Q : Value → Shared → Prop} (fin : Q (.ref s.heap.objs.size) { s with heap := s.heap.push (obj0 (ledOf w)) }) : codeAny (model prog w) A (.call (.builtin "set.__new__") ⟨[.type "set", a], []⟩) (wants Q E) s := by
  refine codeAny_of_tree ?_
  have ck := F.newCall_set_1 a
  show wpAny _ A.in1 (checkBuiltinCall "set.__new__" ⟨[.type "set", a], []⟩ >>= fun _ => again (.builtin "set.__new__" ⟨[.type "set", a], []⟩)) _ _ s
  refine wpAny_bind (wpAny_of_eq ck (wpAny_pure ⟨plainId_quiet F.plain_set_new _, ?_⟩))
  refine codeAny_builtin F.entry_set_new ?_
  rw [Around.under_plainId F.plain_set_new _]
  unfold Builtin.«set.__new__» Builtin.Frozenset.newClass
  have ss := sub_set_self
  obtain ⟨hp, g, d, tk, os⟩ := s
  dsimp only
  wp_walk
  refine wpAny_askSetting (wpAny_pure ?_)
  dsimp only
  simp only [newObj]
  refine wpAny_bind (wpAny_alloc (wpAny_pure (wpAny_pure ?_)))
  exact fin
theorem SetG.new (h : Heap) (led : Bool) (n : Nat) (e : (h.get? n) = some (obj0 led)) : SetG prog w h n (fun _ => false) 0 led :=
  ⟨_, #[], 0, _, e, ⟨rfl, rfl, rfl⟩, rfl, ⟨fun e he => by simp at he, fun k => by simp⟩, by decide, by rfl, rfl, Good.fresh 0 0 led⟩
end
section
variable {prog : Program} {w : World} {A : Around} {R : Result → Shared → Prop} {I : Addr} {fp wr : List Addr} {G : Array GenState → Array GenState → Prop} {n : Nat} {P : Nat → Value → Prop} {St : Nat → Shared → Prop}
open PyProof.Rows
theorem SetG.congr {h : Heap} {a : Addr} {S S' : Int → Bool} {n n' : Nat} {led : Bool} (g : SetG prog w h a S n led) (e : ∀ k, S k = S' k) (en : n = n') : SetG prog w h a S' n' led := by
  obtain rfl : S = S' := funext e
  subst en
  exact g
theorem code_fill (W : WalksS prog w A.in1 I fp wr G n P St) (a : Addr) (ha : a ∉ fp) (val : Nat → Int) (led : Bool) (hv : ∀ i v, P i v → ∃ t, v = .int (val i) t) (hb : n + 1 < scanBound) :
    ∀ (k i : Nat) (s : Shared), n - i = k → i ≤ n → St i s → SetG prog w s.heap a (fun z => (firstMet val i).any (· == z)) (firstMet val i).length led →
      (∀ s', Moved (a :: wr) G s s' → SetG prog w s'.heap a (fun z => (firstMet val n).any (· == z)) (firstMet val n).length led → R (.ok (.ret .none)) s') →
      codeAny (model prog w) A (.builtin "set.update.loop" ⟨[.ref a, .ref I], []⟩) R s := by
  have naw : a ∉ wr := fun h => ha (W.sub _ h)
  have up : ∀ b ∈ wr, b ∈ a :: wr := fun b hb => List.mem_cons_of_mem _ hb
  intro k
  induction k with
  | zero =>
    intro i s hk hi st g fin
    obtain rfl : i = n := by omega
    refine codeAny_builtin F.entry_set_update_loop ?_
    rw [Around.under_plainId F.plain_set_update_loop _]
    show wpAny _ A.in1 (pyNext (.ref I) >>= _) _ _ s
    exact wpAny_bind (W.done s _ _ st fun s' mv => wpAny_pure (fin s' (mv.mono up) (g.at fun o e => mv.heap a o naw e)))
  | succ k ih =>
    intro i s hk hi st g fin
    refine codeAny_builtin F.entry_set_update_loop ?_
    rw [Around.under_plainId F.plain_set_update_loop _]
    show wpAny _ A.in1 (pyNext (.ref I) >>= _) _ _ s
    refine wpAny_bind (W.item i s _ _ (by omega) st fun v s1 hp st1 mv => ?_)
    obtain ⟨t, rfl⟩ := hv i v hp
    have g1 := g.at (h' := s1.heap) fun o e => mv.heap a o naw e
    show wpAny _ A.in1 (holding [Value.int (val i) t] (setAdd a (.int (val i) t)) >>= _) _ _ s1
    refine wpAny_bind (wpAny_holding ?_)
    unfold setAdd
    refine wpAny_holding (wpAny_bind ((intKind prog w).pyHash (k := val i) (intKind_is _ _ _ _) ?_))
    have room : (firstMet val i).length + 1 < scanBound := by
      have := firstMet_length_le val i
      omega
    refine any_add (s := { s1 with toks := s1.toks + 1 }) (intKind_is _ _ _ _) rfl g1 room fun h' sb g2 => ?_
    have g3 : SetG prog w h' a (fun z => (firstMet val (i + 1)).any (· == z)) (firstMet val (i + 1)).length led := g2.congr (fun z => by rw [firstMet_succ, step_any]) (by rw [firstMet_succ, step_length])
    refine wpAny_pure ⟨plainId_quiet F.plain_set_update_loop _, ih (i + 1) _ (by omega) (by omega) (W.frame _ s1 _ _ st1 (Nat.le_succ _) fun b hb o e => ?_) g3 fun s2 mv2 g4 => ?_⟩
    · rw [sb.2 b fun z => ha (z ▸ hb)]
      exact e
    · refine fin s2 (Moved.trans W.gtrans ((mv.mono up).then_heap (Nat.le_succ _) fun b o hb e => ?_) mv2) g4
      rw [sb.2 b fun z => hb (z ▸ List.mem_cons_self)]
      exact e
end
section
variable {prog : Program} {w : World} {A : Around} {E : Value → Shared → Prop} {s : Shared}
open PyProof.Rows in
set_option maxHeartbeats 3200000 in
theorem call_setG {l : Addr} {its : Array Value} {ns : List Int} {Q : Value → Shared → Prop} (hA : A.handled = none) (hl : s.heap.IsList l its) (hi : IntsAre its.toList ns) (hb : its.size + 1 < scanBound)
    (fin : ∀ (h' : Heap) (tk : Nat), SetG prog w h' s.heap.objs.size (fun z => (firstMet (fun i => ns.getD i 0) its.size).any (· == z)) (firstMet (fun i => ns.getD i 0) its.size).length (ledOf w) →
      (∀ b o, b < s.heap.objs.size → s.heap.get? b = some o → h'.get? b = some o) → Q (.ref s.heap.objs.size) { s with heap := h', toks := tk }) :
    wpAny (model prog w) A (call (.type "set") [.ref l]) Q E s := by
  obtain ⟨c0, tl0, mro⟩ := F.called_set.mro
  have made := F.called_set.made
  have sub := F.called_set.sub
  have nt := F.called_set.notType
  have cc := F.called_set.canCreate
  have tc := F.typeCall_set_1 (.ref l)
  refine wpAny_call (codeAny_of_tree ?_)
  show wpAny _ _ (callAny (.type "set") ⟨[.ref l], []⟩) _ _ _
  refine wpAny_pure ⟨Code.quiet_builtin _ (by decide +kernel), ?_⟩
  refine codeAny_builtin F.entry_type_call ?_
  rw [Around.under_plain (weight_type_call_type "set" [.ref l] []) rfl]
  repeat (any_goals (first | assumption | wp_step))
  refine codeAny_mono (code_new (.ref l) (E := E) (Q := fun ob s1 => ob = .ref s.heap.objs.size ∧ s1 = { s with heap := s.heap.push (obj0 (ledOf w)) }) ⟨rfl, rfl⟩) fun r s1 hr => ?_
  match r, hr with
  | .error e, hr => exact hr
  | .ok .next, hr => exact hr.elim
  | .ok .brk, hr => exact hr.elim
  | .ok .cont, hr => exact hr.elim
  | .ok (.ret ob), hr =>
    obtain ⟨rfl, rfl⟩ := hr
    have g0 : (s.heap.push (obj0 (ledOf w))).get? s.heap.objs.size = some (obj0 (ledOf w)) := Heap.get?_push_size _ rfl
    have ty : Shared.TypeIs { s with heap := s.heap.push (obj0 (ledOf w)) } (.ref s.heap.objs.size) "set" := ⟨_, g0, rfl⟩
    have il := F.called_set.init.lookup
    have ib := F.called_set.init.bind (.ref s.heap.objs.size)
    repeat (any_goals (first | assumption | wp_step))
    refine codeAny_mono (codeAny_call_builtin (R := wants (fun r s2 => r = .none ∧ ∃ h' tk, s2 = { s with heap := h', toks := tk } ∧
      SetG prog w h' s.heap.objs.size (fun z => (firstMet (fun i => ns.getD i 0) its.size).any (· == z)) (firstMet (fun i => ns.getD i 0) its.size).length (ledOf w) ∧
      (∀ b o, b < s.heap.objs.size → s.heap.get? b = some o → h'.get? b = some o)) E) F.called_set.init.plain F.entry_set_init (check_set_init_1 ty ?_)) fun r2 s2 hr2 => ?_
    · obtain ⟨⟨cl, dc, dt, sl⟩, hol, hcl, nl, hdl⟩ := hl
      have hcl' : cl = .type "list" := hcl
      have hdl' : dt = .seq its nl := hdl
      subst hcl' hdl'
      have ll : l < s.heap.objs.size := Heap.lt_size hol
      have hol1 : (s.heap.push (obj0 (ledOf w))).get? l = some { cls := .type "list", dict := dc, data := .seq its nl, slots := sl } := Heap.get?_push_of_some _ hol
      have il1 : (s.heap.push (obj0 (ledOf w))).IsList l its := ⟨_, hol1, rfl, nl, rfl⟩
      have u1 := F.sub_list_set
      have u2 := F.sub_list_frozenset
      have u3 : (Value.type "list" == Value.type "dict") = false := by decide
      unfold Builtin.«set.__init__» noKeywords Builtin.Frozenset.updateFrom
      generalize hPI : pyIter = PI
      wp_walk
      subst hPI
      refine wpAny_pyIter_list il1 (wpAny_bind (wpAny_runValue ?_))
      have h3 : A.in1.in1.in1.handled = none := by simp [hA]
      have n1 : l ≠ (s.heap.push (obj0 (ledOf w))).objs.size := by
        rw [Heap.size_push]
        exact Nat.ne_of_lt (Nat.lt_succ_of_lt ll)
      have n2 : s.heap.objs.size ∉ [(s.heap.push (obj0 (ledOf w))).objs.size, l] := by
        rw [Heap.size_push]
        simp only [List.mem_cons, List.not_mem_nil, or_false, not_or]
        exact ⟨Nat.ne_of_lt (Nat.lt_succ_self _), Nat.ne_of_gt ll⟩
      have vals : ∀ (i : Nat) (v : Value), its[i]? = some v → ∃ t, v = .int ((fun i => ns.getD i 0) i) t := fun i v e => IntsAre.int_at hi i v (by rw [Array.getElem?_toList]; exact e)
      refine code_fill ((Walks.list h3 _ l n1 its).toS) s.heap.objs.size n2 (fun i => ns.getD i 0) (ledOf w) vals hb its.size 0 _ rfl (Nat.zero_le _) ⟨⟨_, Heap.get?_push_size _ rfl, rfl, rfl⟩, (il1.push _)⟩ (SetG.new _ _ _ (Heap.get?_push_of_some _ g0)) ?_
      rintro ⟨h', g', d', tk', os'⟩ mv gd
      obtain rfl : g' = s.gens := mv.gens
      obtain rfl : d' = s.drawn := mv.drawn
      obtain rfl : os' = s.os := mv.os
      show wpAny _ _ _ _ _ _
      refine wpAny_pure ?_
      show wpAny _ _ (ret Value.none) _ _ _
      refine wpAny_pure ⟨rfl, h', tk', rfl, gd, fun b o hb' e => ?_⟩
      refine mv.heap b o ?_ (Heap.get?_push_of_some _ (Heap.get?_push_of_some _ e))
      rw [Heap.size_push]
      simp only [List.mem_cons, List.not_mem_nil, or_false, not_or]
      exact ⟨Nat.ne_of_lt hb', Nat.ne_of_lt (Nat.lt_succ_of_lt hb')⟩
    · match r2, hr2 with
      | .error e, hr2 => exact hr2
      | .ok .next, hr2 => exact hr2.elim
      | .ok .brk, hr2 => exact hr2.elim
      | .ok .cont, hr2 => exact hr2.elim
      | .ok (.ret r), hr2 =>
        obtain ⟨rfl, h', tk, rfl, gd, kp⟩ := hr2
        repeat (any_goals (first | assumption | wp_step))
        exact fin h' tk gd kp
end
end Tab
namespace Tab
open PySem
theorem slot_next : Slot "set_iterator" "__next__" "set_iterator.__next__" :=
  Slot.of (owner := "set_iterator") (n := "__next__")
    (by rw [typeLookup_type, builtinLookup_eq_fast]; kernel_rfl) (by decide +kernel) (by decide +kernel)
    (by decide +kernel) (by first | exact .inl (by decide +kernel) | exact .inr (by decide +kernel))
    (by rw [isSubtype_type]; kernel_rfl)
theorem entry_next : entryFor table "set_iterator.__next__" = some Builtin.«set_iterator.__next__» := entryFor_of_tree (by kernel_rfl)
theorem owner_si : Manifest.owners.lookup (String.ofList ['r', 'o', 't', 'a', 'r', 'e', 't', 'i', '_', 't', 'e', 's'].reverse) = some Manifest.sig_set_iterator := by kernel_rfl
theorem args_next (a : Value) : argsOk "set_iterator.__next__" ⟨[a], []⟩ := by
  unfold argsOk
  rw [signature?_of (id := "set_iterator.__next__") (n := ['_', '_', 't', 'x', 'e', 'n', '_', '_']) (o := ['r', 'o', 't', 'a', 'r', 'e', 't', 'i', '_', 't', 'e', 's'])
    (by kernel_rfl) owner_si]
  kernel_rfl
theorem slot_self : Slot "set_iterator" "__iter__" "set_iterator.__iter__" :=
  Slot.of (owner := "set_iterator") (n := "__iter__")
    (by rw [typeLookup_type, builtinLookup_eq_fast]; kernel_rfl) (by decide +kernel) (by decide +kernel)
    (by decide +kernel) (by first | exact .inl (by decide +kernel) | exact .inr (by decide +kernel))
    (by rw [isSubtype_type]; kernel_rfl)
theorem entry_iter : entryFor table "set.__iter__" = some Builtin.«frozenset.__iter__» :=
  entryFor_alias (id' := "frozenset.__iter__") (by kernel_rfl)
    rfl (by decide +kernel) (by kernel_rfl)
def SI (h : Heap) (it : Addr) (first : Value) (i : Nat) (a : Addr) (n ep : Nat) : Prop := ∃ o, h.get? it = some o ∧ o.cls = .type "set_iterator" ∧ o.data = .fields #[first, .int i 0, .ref a, .int n 0, .int ep 0]
def SD (h : Heap) (a : Addr) (es : Array (Int × Value)) (ep : Nat) (t : SetTable) : Prop := ∃ o, h.get? a = some o ∧ o.ExactSet ∧ o.data = .set es ep t
section
variable {prog : Program} {w : World} {A : Around} {E : Value → Shared → Prop} {s : Shared} {it a : Addr} {es : Array (Int × Value)} {ep : Nat} {t : SetTable}
theorem SI.ty {first : Value} {i n : Nat} (h : SI s.heap it first i a n ep) : s.TypeIs (.ref it) "set_iterator" := let ⟨o, e, c, _⟩ := h; ⟨o, e, c⟩
theorem next_slot {j i j' : Nat} {x : Value} {Q : Option Value → Shared → Prop} (hi : SI s.heap it (.int j 0) i a es.size ep) (hs : SD s.heap a es ep t) (hf : t.fits es.size = true)
    (hN : ∀ {A' : Around} {E' : Value → Shared → Prop} (Q' : Option (Value × Nat) → Shared → Prop), Q' (some (x, j')) s → wpAny (model prog w) A' (setNext a j i ep) Q' E' s)
    (fin : ∀ h', SI h' it (.int j' 0) (i + 1) a es.size ep → Heap.SameBut it s.heap h' → Q (some x) { s with heap := h' }) : wpAny (model prog w) A (pyNext (.ref it)) Q E s := by
  obtain ⟨o, ho, hc, hd⟩ := id hi
  obtain ⟨os, hos, hex, hds⟩ := hs
  unfold pyNext
  refine wpAny_bind (wpAny_attempt (wpAny_callSpecial?_slot (name := Str.ofString "__next__") hi.ty slot_next (wpAny_call_entry slot_next hi.ty entry_next ?_ (args_next _))))
  unfold Builtin.«set_iterator.__next__»
  refine wpAny_bind (wpAny_pure ?_)
  refine wpAny_bind (wpAny_fieldsOf ho hd ?_)
  show wpAny _ _ (setEntries a >>= _) _ _ s
  refine wpAny_bind (wpAny_setEntries_of hos hds hf ?_)
  rw [if_neg (by simp)]
  show wpAny _ _ (setNext a j i ep >>= _) _ _ s
  refine wpAny_bind (hN _ ?_)
  show wpAny _ _ (setField (.ref it) 0 (rawInt j') >>= _) _ _ s
  refine wpAny_bind (wpAny_setField ho hd (by simp) ?_)
  have d1 := Obj.data_mapFields hd (fun f => f.setIfInBounds 0 (rawInt (j' : Int)))
  have o1 := Heap.get?_update_self (Obj.mapFields fun f => f.setIfInBounds 0 (rawInt (j' : Int))) ho (Obj.isFreed_of_fields d1)
  show wpAny _ _ (setField (.ref it) 1 (rawInt ((i : Int) + 1)) >>= _) _ _ _
  refine wpAny_bind (wpAny_setField o1 d1 (by simp) ?_)
  have d2 := Obj.data_mapFields d1 (fun f => f.setIfInBounds 1 (rawInt ((i : Int) + 1)))
  have o2 := Heap.get?_update_self (Obj.mapFields fun f => f.setIfInBounds 1 (rawInt ((i : Int) + 1))) o1 (Obj.isFreed_of_fields d2)
  refine wpAny_pure ⟨x, rfl, wpAny_pure (fin _ ⟨_, o2, ?_, ?_⟩ ((Heap.SameBut.update _ it _).trans (Heap.SameBut.update _ it _)))⟩
  · rw [Obj.cls_mapFields, Obj.cls_mapFields]
    exact hc
  · rw [d2]
    simp [rawInt]
theorem stops {A' : Around} {h0 : Heap} {Q : Option Value → Shared → Prop} (hA : A'.handled = none) (fin : ∀ h', (∀ b o, s.heap.get? b = some o → h'.get? b = some o) → Q none { s with heap := h' }) :
    wpAny (model prog w) A' (newExc (.type "StopIteration") [] >>= fun e => (raiseNew e : Sem Fin)) (fun _ _ => False)
      (fun e s' => wpAny (model prog w) A (do
        let b ← isInstance e (.type "StopIteration")
        if b = true then pure none else throw e) Q E s') s := by
  refine wpAny_bind ?_
  simp only [newExc, newTuple]
  refine wpAny_bind (wpAny_newObj_type ?_ (by size_fits))
  refine wpAny_bind (m := firstArgMember _ _) (wpAny_of_eq (a := Value.none) (by first | rfl | (simp only [firstArgMember]; rfl)) ?_)
  refine wpAny_newObj_type ?_ (by size_fits)
  simp only [raiseNew]
  refine wpAny_bind (wpAny_handled ?_)
  rw [hA]
  refine wpAny_bind (wpAny_pure (wpAny_throw ?_))
  refine wpAny_bind (wpAny_isInstance (T := "StopIteration") (b := true) ⟨_, Heap.get?_push_size _ rfl, rfl⟩ isSubtype_stop ?_)
  exact wpAny_pure (fin _ fun b o e => Heap.get?_push_of_some _ (Heap.get?_push_of_some _ e))
theorem end_slot {j i : Nat} {Q : Option Value → Shared → Prop} (hA : A.handled = none) (hi : SI s.heap it (.int j 0) i a es.size ep) (hs : SD s.heap a es ep t) (hf : t.fits es.size = true)
    (hN : ∀ {A' : Around} {E' : Value → Shared → Prop} (Q' : Option (Value × Nat) → Shared → Prop), Q' none s → wpAny (model prog w) A' (setNext a j i ep) Q' E' s)
    (fin : ∀ h', (∀ b o, b ≠ it → s.heap.get? b = some o → h'.get? b = some o) → Q none { s with heap := h' }) : wpAny (model prog w) A (pyNext (.ref it)) Q E s := by
  obtain ⟨o, ho, hc, hd⟩ := id hi
  obtain ⟨os, hos, hex, hds⟩ := hs
  unfold pyNext
  refine wpAny_bind (wpAny_attempt (wpAny_callSpecial?_slot (name := Str.ofString "__next__") hi.ty slot_next (wpAny_call_entry slot_next hi.ty entry_next ?_ (args_next _))))
  unfold Builtin.«set_iterator.__next__»
  refine wpAny_bind (wpAny_pure ?_)
  refine wpAny_bind (wpAny_fieldsOf ho hd ?_)
  show wpAny _ _ (setEntries a >>= _) _ _ s
  refine wpAny_bind (wpAny_setEntries_of hos hds hf ?_)
  rw [if_neg (by simp)]
  show wpAny _ _ (setNext a j i ep >>= _) _ _ s
  refine wpAny_bind (hN _ ?_)
  show wpAny _ _ (setField (.ref it) 2 .none >>= _) _ _ s
  refine wpAny_bind (wpAny_setField ho hd (by simp) ?_)
  have sb := Heap.SameBut.update s.heap it (Obj.mapFields fun f => f.setIfInBounds 2 Value.none)
  refine wpAny_mono (stops (h0 := s.heap) (by simpa using hA) fun h' k => fin h' fun b o n e => k b o ((sb.2 b n).trans e)) (fun _ _ z => z.elim) fun _ _ z => z
end
end Tab
namespace Tab
open PySem
section
variable {prog : Program} {w : World} {A : Around} {E : Value → Shared → Prop} {s : Shared} {it a : Addr} {es : Array (Int × Value)} {ep : Nat} {t : SetTable}
theorem any_no {α : Type} {c : Prop} [Decidable c] {x y : Sem α} {Q : α → Shared → Prop} (h : ¬ c) (k : wpAny (model prog w) A y Q E s) : wpAny (model prog w) A (if c then x else y) Q E s := by rw [if_neg h]; exact k
theorem any_yes {α : Type} {c : Prop} [Decidable c] {x y : Sem α} {Q : α → Shared → Prop} (h : c) (k : wpAny (model prog w) A x Q E s) : wpAny (model prog w) A (if c then x else y) Q E s := by rw [if_pos h]; exact k
theorem any_text {Q : Bool → Shared → Prop} (k : Q (w.params.followText "set-order") s) : wpAny (model prog w) A setsByText Q E s := by
  unfold setsByText
  exact wpAny_bind (wpAny_askSetting (wpAny_pure k))
def byT (w : World) (a : Addr) (ep : Nat) (es : Array (Int × Value)) : Array (Int × Value) := pickOrder (w.params.setOrder a ep) es
theorem set_next_text {j i : Nat} (hw : w.params.followText "set-order" = true) (hs : SD s.heap a es ep t) (hf : t.fits es.size = true) (Q : Option (Value × Nat) → Shared → Prop) (k : Q (((byT w a ep es)[i]?).map fun e => (e.2, j)) s) : wpAny (model prog w) A (setNext a j i ep) Q E s := by
  obtain ⟨o, ho, hex, hd⟩ := hs
  unfold setNext
  refine wpAny_bind (wpAny_setState_of ho hd hf ?_)
  refine wpAny_bind (any_text ?_)
  rw [hw]
  refine any_yes rfl (any_no (by simp) ?_)
  refine wpAny_bind ?_
  unfold setWalk
  refine wpAny_bind (wpAny_setState_of ho hd hf (wpAny_bind (any_text ?_)))
  rw [hw]
  refine any_yes rfl (wpAny_bind (wpAny_askSetting (wpAny_pure (wpAny_pure k))))
theorem set_next_place {j i : Nat} (hw : w.params.followText "set-order" = false) (hs : SD s.heap a es ep t) (hf : t.fits es.size = true) (hp : t.plain = true ∨ es.size ≤ 1) (g : Good t (ledOf w)) (Q : Option (Value × Nat) → Shared → Prop)
    (k : Q (match es[SetTable.below t.place j]?, t.place[SetTable.below t.place j]? with | some (_, x), some j => some (x, j + 1) | _, _ => none) s) : wpAny (model prog w) A (setNext a j i ep) Q E s := by
  obtain ⟨o, ho, hex, hd⟩ := hs
  have hl : t.led = true := by rw [g.led]; unfold ledOf; rw [hw]; rfl
  unfold setNext
  refine wpAny_bind (wpAny_setState_of ho hd hf ?_)
  refine wpAny_bind (any_text ?_)
  rw [hw]
  refine any_no (by decide) ?_
  refine any_no (c := (!t.plain && decide (es.size > 1)) = true) ?_ ?_
  · rcases hp with hp | hp
    · simp [hp]
    · simp; omega
  refine wpAny_bind ?_
  show wpAny _ _ (if (!t.led && !es.isEmpty) = true then _ else _) _ _ _
  refine any_no (by simp [hl]) (wpAny_pure ?_)
  exact wpAny_pure k
def PT (h : Heap) (T : Addr) (ps : List Nat) : Prop := ∃ o n, h.get? T = some o ∧ o.data = .seq (ps.map fun (p : Nat) => Value.int p 0).toArray n
theorem next_drawn {T : Addr} {i p : Nat} {ps : List Nat} {x : Value} {hx : Int} {Q : Option Value → Shared → Prop} (hi : SI s.heap it (.ref T) i a es.size ep) (hs : SD s.heap a es ep t) (hf : t.fits es.size = true) (hT : PT s.heap T ps) (hp : ps[i]? = some p) (he : es[p]? = some (hx, x))
    (fin : ∀ h', SI h' it (.ref T) (i + 1) a es.size ep → Heap.SameBut it s.heap h' → Q (some x) { s with heap := h' }) : wpAny (model prog w) A (pyNext (.ref it)) Q E s := by
  obtain ⟨o, ho, hc, hd⟩ := id hi
  obtain ⟨os, hos, hex, hds⟩ := hs
  obtain ⟨oT, nT, hoT, hdT⟩ := hT
  unfold pyNext
  refine wpAny_bind (wpAny_attempt (wpAny_callSpecial?_slot (name := Str.ofString "__next__") hi.ty slot_next (wpAny_call_entry slot_next hi.ty entry_next ?_ (args_next _))))
  unfold Builtin.«set_iterator.__next__»
  refine wpAny_bind (wpAny_pure ?_)
  refine wpAny_bind (wpAny_fieldsOf ho hd ?_)
  show wpAny _ _ (setEntries a >>= _) _ _ s
  refine wpAny_bind (wpAny_setEntries_of hos hds hf ?_)
  rw [if_neg (by simp)]
  show wpAny _ _ (seqItems? (.ref T) >>= _) _ _ s
  refine wpAny_bind ?_
  show wpAny _ _ (load T >>= _) _ _ s
  refine wpAny_bind (wpAny_load hoT ?_)
  rw [hdT]
  refine wpAny_pure ?_
  have e1 : (ps.map fun (p : Nat) => Value.int p 0).toArray[i]? = some (.int p 0) := by simp [hp]
  have e2 : ((i : Nat) : Int).toNat = i := rfl
  dsimp only
  rw [e2, e1]
  show wpAny _ _ (setNextDrawn a p ep >>= _) _ _ s
  refine wpAny_bind ?_
  unfold setNextDrawn
  refine wpAny_bind (wpAny_setState_of hos hds hf ?_)
  refine any_no (by simp) ?_
  rw [he]
  refine wpAny_pure ?_
  show wpAny _ _ (setField (.ref it) 1 (rawInt ((i : Int) + 1)) >>= _) _ _ _
  refine wpAny_bind (wpAny_setField ho hd (by simp) ?_)
  have d2 := Obj.data_mapFields hd (fun f => f.setIfInBounds 1 (rawInt ((i : Int) + 1)))
  have o2 := Heap.get?_update_self (Obj.mapFields fun f => f.setIfInBounds 1 (rawInt ((i : Int) + 1))) ho (Obj.isFreed_of_fields d2)
  refine wpAny_pure ⟨x, rfl, wpAny_pure (fin _ ⟨_, o2, ?_, ?_⟩ (Heap.SameBut.update _ it _))⟩
  · rw [Obj.cls_mapFields]
    exact hc
  · rw [d2]
    simp [rawInt]
theorem end_drawn {T : Addr} {i : Nat} {ps : List Nat} {Q : Option Value → Shared → Prop} (hA : A.handled = none) (hi : SI s.heap it (.ref T) i a es.size ep) (hs : SD s.heap a es ep t) (hf : t.fits es.size = true) (hT : PT s.heap T ps) (hp : ps[i]? = none)
    (fin : ∀ h', (∀ b o, b ≠ it → s.heap.get? b = some o → h'.get? b = some o) → Q none { s with heap := h' }) : wpAny (model prog w) A (pyNext (.ref it)) Q E s := by
  obtain ⟨o, ho, hc, hd⟩ := id hi
  obtain ⟨os, hos, hex, hds⟩ := hs
  obtain ⟨oT, nT, hoT, hdT⟩ := hT
  unfold pyNext
  refine wpAny_bind (wpAny_attempt (wpAny_callSpecial?_slot (name := Str.ofString "__next__") hi.ty slot_next (wpAny_call_entry slot_next hi.ty entry_next ?_ (args_next _))))
  unfold Builtin.«set_iterator.__next__»
  refine wpAny_bind (wpAny_pure ?_)
  refine wpAny_bind (wpAny_fieldsOf ho hd ?_)
  show wpAny _ _ (setEntries a >>= _) _ _ s
  refine wpAny_bind (wpAny_setEntries_of hos hds hf ?_)
  rw [if_neg (by simp)]
  show wpAny _ _ (seqItems? (.ref T) >>= _) _ _ s
  refine wpAny_bind ?_
  show wpAny _ _ (load T >>= _) _ _ s
  refine wpAny_bind (wpAny_load hoT ?_)
  rw [hdT]
  refine wpAny_pure ?_
  have e1 : (ps.map fun (p : Nat) => Value.int p 0).toArray[i]? = none := by simpa using hp
  have e2 : ((i : Nat) : Int).toNat = i := rfl
  dsimp only
  rw [e2, e1]
  show wpAny _ _ (setField (.ref it) 0 (rawInt 0) >>= _) _ _ s
  refine wpAny_bind (wpAny_setField ho hd (by simp) ?_)
  have d1 := Obj.data_mapFields hd (fun f => f.setIfInBounds 0 (rawInt 0))
  have o1 := Heap.get?_update_self (Obj.mapFields fun f => f.setIfInBounds 0 (rawInt 0)) ho (Obj.isFreed_of_fields d1)
  have sb1 := Heap.SameBut.update s.heap it (Obj.mapFields fun f => f.setIfInBounds 0 (rawInt 0))
  show wpAny _ _ (setField (.ref it) 2 .none >>= _) _ _ _
  refine wpAny_bind (wpAny_setField o1 d1 (by simp) ?_)
  have sb := Heap.SameBut.update (s.heap.update it (Obj.mapFields fun f => f.setIfInBounds 0 (rawInt 0))) it (Obj.mapFields fun f => f.setIfInBounds 2 Value.none)
  refine wpAny_mono (stops (h0 := s.heap) (by simpa using hA) fun h' k => fin h' fun b o n e => k b o ((sb.2 b n).trans ((sb1.2 b n).trans e))) (fun _ _ z => z.elim) fun _ _ z => z
theorem iter_set {Q : Value → Shared → Prop} (hs : SD s.heap a es ep t) (hf : t.fits es.size = true) (hb : es.size < scanBound)
    (f1 : (w.params.followText "set-order" = true ∨ (w.params.followText "set-order" = false ∧ (t.plain = true ∨ es.size ≤ 1))) → Q (.ref s.heap.objs.size) { s with heap := s.heap.push { cls := .type "set_iterator", data := .fields #[.int 0 0, .int 0 0, .ref a, .int es.size 0, .int ep 0] } })
    (f2 : ∀ (ps : List Nat) d h', w.params.followText "set-order" = false → ps.Perm (List.range es.size) → PT h' s.heap.objs.size ps → SI h' (s.heap.objs.size + 1) (.ref s.heap.objs.size) 0 a es.size ep → (∀ b o, s.heap.get? b = some o → h'.get? b = some o) → Q (.ref (s.heap.objs.size + 1)) { s with heap := h', drawn := d }) :
    wpAny (model prog w) A (pyIter (.ref a)) Q E s := by
  obtain ⟨o, ho, hex, hd⟩ := id hs
  have ty : s.TypeIs (.ref a) "set" := ⟨o, ho, hex.1⟩
  refine wpAny_pyIter_slot ty F.slot_set_iter (wpAny_call_entry F.slot_set_iter ty entry_iter ?_ (F.args_set_iter_1 _))
  unfold Builtin.«frozenset.__iter__» Builtin.Frozenset.slot0
  refine wpAny_bind (wpAny_bind (wpAny_pure ?_))
  show wpAny _ _ (pure a) _ _ _
  refine wpAny_pure ?_
  refine wpAny_bind ?_
  unfold Builtin.Frozenset.sizeOf
  refine wpAny_bind (wpAny_setEntries_of ho hd hf (wpAny_pure ?_))
  refine wpAny_bind ?_
  unfold setDrawn
  refine wpAny_bind (wpAny_setState_of ho hd hf (wpAny_bind (any_text (wpAny_pure ?_))))
  have last : ∀ (first : Value) (s1 : Shared) {o1 : Obj} (ho1 : s1.heap.get? a = some o1) (hd1 : o1.data = .set es ep t), Q (.ref s1.heap.objs.size) { s1 with heap := s1.heap.push { cls := .type "set_iterator", data := .fields #[first, .int 0 0, .ref a, .int es.size 0, .int ep 0] } } →
      wpAny (model prog w) A.in1 (setEpoch a >>= fun e => newFields "set_iterator" [first, rawInt 0, .ref a, rawInt es.size, rawInt e] >>= fun v => ret v) (fun fin s' => ∃ v, fin = Fin.done (Flow.ret v) ∧ ∃ T' r, s'.TypeIs v T' ∧ typeLookup (.type T') (Str.ofString "__next__") = pure (some r) ∧ Q v s') E s1 := fun first s1 o1 ho1 hd1 q => by
    refine wpAny_bind (wpAny_setEpoch_of ho1 hd1 hf ?_)
    refine wpAny_bind (wpAny_newObj_type (wpAny_pure ⟨_, rfl, "set_iterator", _, ⟨_, Heap.get?_push_size _ rfl, rfl⟩, slot_next.lookup, ?_⟩))
    simpa [rawInt] using q
  by_cases hc : (!w.params.followText "set-order" && (!t.plain && decide (es.size > 1))) = true
  · refine any_yes (c := (!w.params.followText "set-order" && (!t.plain && decide (es.size > 1))) = true) hc ?_
    have hw : w.params.followText "set-order" = false := by
      cases q : w.params.followText "set-order" with
      | false => rfl
      | true => rw [q] at hc; simp at hc
    refine wpAny_bind (any_draw es.size (List.range es.size) (by simp) fun ps d hp => ?_)
    refine wpAny_bind ?_
    simp only [newTuple]
    have hl : (ps.map fun (i : Nat) => rawInt (i : Int)).length ≤ sizeLine := by
      have := hp.length_eq
      rw [List.length_range] at this
      rw [List.length_map, this]
      exact fits_of_scanBound hb
    refine wpAny_newObj_type ?_ (by first | exact hl | simpa using hl)
    refine last _ _ (Heap.get?_push_of_some _ ho) hd ?_
    dsimp only
    rw [Heap.size_push]
    have g2 := Heap.get?_push_size (s.heap.push { cls := .type "tuple", data := .seq (ps.map fun (i : Nat) => rawInt (i : Int)).toArray }) (o := { cls := .type "set_iterator", data := .fields #[.ref s.heap.objs.size, .int 0 0, .ref a, .int es.size 0, .int ep 0] }) rfl
    rw [Heap.size_push] at g2
    exact f2 ps d _ hw hp ⟨_, _, Heap.get?_push_of_some _ (Heap.get?_push_size _ rfl), rfl⟩ ⟨_, g2, rfl, rfl⟩ fun b o e => Heap.get?_push_of_some _ (Heap.get?_push_of_some _ e)
  · refine any_no (c := (!w.params.followText "set-order" && (!t.plain && decide (es.size > 1))) = true) hc ?_
    refine wpAny_bind (wpAny_pure ?_)
    refine last _ s ho hd ?_
    have := f1 (by
      cases q : w.params.followText "set-order" with
      | true => exact .inl rfl
      | false =>
        right
        rw [q] at hc
        refine ⟨rfl, ?_⟩
        cases q2 : t.plain with
        | true => exact .inl rfl
        | false =>
          rw [q2] at hc
          simp at hc
          exact .inr hc)
    simpa [rawInt] using this
end
end Tab
namespace Tab
open PySem
section
variable {prog : Program} {w : World} {A : Around} {E : Value → Shared → Prop} {s : Shared} {it a : Addr} {es : Array (Int × Value)} {ep : Nat} {t : SetTable}
theorem SD.at {h h' : Heap} (x : SD h a es ep t) (k : ∀ o, h.get? a = some o → h'.get? a = some o) : SD h' a es ep t := let ⟨o, e, r⟩ := x; ⟨o, k o e, r⟩
theorem SI.at {h h' : Heap} {first : Value} {i n : Nat} (x : SI h it first i a n ep) (k : ∀ o, h.get? it = some o → h'.get? it = some o) : SI h' it first i a n ep := let ⟨o, e, r⟩ := x; ⟨o, k o e, r⟩
theorem PT.at {h h' : Heap} {T : Addr} {ps : List Nat} (x : PT h T ps) (k : ∀ o, h.get? T = some o → h'.get? T = some o) : PT h' T ps := let ⟨o, n, e, r⟩ := x; ⟨o, n, k o e, r⟩
theorem entry_self : entryFor table "set_iterator.__iter__" = some Builtin.«dict_keyiterator.__iter__» :=
  entryFor_alias (id' := "dict_keyiterator.__iter__") (by kernel_rfl)
    rfl (by decide +kernel) (by kernel_rfl)
theorem args_self (v : Value) : argsOk "set_iterator.__iter__" ⟨[v], []⟩ := by
  unfold argsOk
  rw [signature?_of (id := "set_iterator.__iter__") (n := ['_', '_', 'r', 'e', 't', 'i', '_', '_']) (o := ['r', 'o', 't', 'a', 'r', 'e', 't', 'i', '_', 't', 'e', 's'])
    (by kernel_rfl) owner_si]
  kernel_rfl
theorem iter_self {first : Value} {i n : Nat} {Q : Value → Shared → Prop} (h : SI s.heap it first i a n ep) (k : Q (.ref it) s) : wpAny (model prog w) A (pyIter (.ref it)) Q E s := by
  refine wpAny_pyIter_slot h.ty slot_self (wpAny_call_entry slot_self h.ty entry_self ?_ (args_self _))
  show wpAny _ _ (ret (.ref it)) _ _ s
  exact wpAny_pure ⟨_, rfl, "set_iterator", _, h.ty, slot_next.lookup, k⟩
def Eqg : Array GenState → Array GenState → Prop := fun x y => y = x
theorem walk_text (hA : A.handled = none) (hw : w.params.followText "set-order" = true) (hf : t.fits es.size = true) (n : it ≠ a) (hn : (byT w a ep es).size = es.size) :
    WalksS prog w A it [it, a] [it] Eqg es.size (fun i v => ∃ e, (byT w a ep es)[i]? = some e ∧ v = e.2) (fun i s => SI s.heap it (.int 0 0) i a es.size ep ∧ SD s.heap a es ep t) where
  sub := fun b hb => by simp at hb; simp [hb]
  grefl := fun _ => rfl
  gtrans := fun _ _ _ h1 h2 => h2.trans h1
  frame := fun i s h' tk st _ k => ⟨st.1.at fun o e => k it (by simp) o e, st.2.at fun o e => k a (by simp) o e⟩
  item := fun i s Q E hi st fin => by
    have hi' : i < (byT w a ep es).size := by omega
    refine next_slot (j := 0) (j' := 0) (x := (byT w a ep es)[i].2) st.1 st.2 hf (fun Q' q => set_next_text hw st.2 hf Q' ?_) fun h' si sb => ?_
    · rw [Array.getElem?_eq_getElem hi']
      exact q
    · exact fin _ _ ⟨_, Array.getElem?_eq_getElem hi', rfl⟩ ⟨si, st.2.at fun o e => (sb.2 a n.symm).trans e⟩ ⟨fun b o hb e => (sb.2 b (by simpa using hb)).trans e, rfl, rfl, rfl, Nat.le_refl _⟩
  done := fun s Q E st fin => by
    refine end_slot (j := 0) hA st.1 st.2 hf (fun Q' q => set_next_text hw st.2 hf Q' ?_) fun h' k => fin _ ⟨fun b o hb e => k b o (by simpa using hb) e, rfl, rfl, rfl, Nat.le_refl _⟩
    rw [Array.getElem?_eq_none (by omega)]
    exact q
  self := fun i s Q E st q => iter_self st.1 q
theorem walk_place (hA : A.handled = none) (hw : w.params.followText "set-order" = false) (hf : t.fits es.size = true) (n : it ≠ a) (hp : t.plain = true ∨ es.size ≤ 1) (g : Good t (ledOf w)) :
    WalksS prog w A it [it, a] [it] Eqg es.size (fun i v => ∃ e, es[i]? = some e ∧ v = e.2) (fun i s => (∃ j : Nat, SI s.heap it (.int j 0) i a es.size ep ∧ SetTable.below t.place j = i) ∧ SD s.heap a es ep t) where
  sub := fun b hb => by simp at hb; simp [hb]
  grefl := fun _ => rfl
  gtrans := fun _ _ _ h1 h2 => h2.trans h1
  frame := fun i s h' tk st _ k => ⟨let ⟨j, x, y⟩ := st.1; ⟨j, x.at fun o e => k it (by simp) o e, y⟩, st.2.at fun o e => k a (by simp) o e⟩
  item := fun i s Q E hi st fin => by
    obtain ⟨⟨j, si, hj⟩, sd⟩ := st
    have hz : t.place.size = es.size := by
      unfold SetTable.fits at hf
      simp at hf
      exact hf.1
    refine next_slot (j := j) (j' := t.place[i]'(by omega) + 1) (x := es[i].2) si sd hf (fun Q' q => set_next_place hw sd hf hp g Q' ?_) fun h' si' sb => ?_
    · rw [hj, Array.getElem?_eq_getElem hi, Array.getElem?_eq_getElem (by omega)]
      exact q
    · exact fin _ _ ⟨_, Array.getElem?_eq_getElem hi, rfl⟩ ⟨⟨_, si', below_next g.up (by omega)⟩, sd.at fun o e => (sb.2 a n.symm).trans e⟩ ⟨fun b o hb e => (sb.2 b (by simpa using hb)).trans e, rfl, rfl, rfl, Nat.le_refl _⟩
  done := fun s Q E st fin => by
    obtain ⟨⟨j, si, hj⟩, sd⟩ := st
    refine end_slot (j := j) hA si sd hf (fun Q' q => set_next_place hw sd hf hp g Q' ?_) fun h' k => fin _ ⟨fun b o hb e => k b o (by simpa using hb) e, rfl, rfl, rfl, Nat.le_refl _⟩
    rw [hj, Array.getElem?_eq_none (Nat.le_refl _)]
    exact q
  self := fun i s Q E st q => let ⟨j, x, _⟩ := st.1; iter_self x q
theorem walk_drawn {T : Addr} {ps : List Nat} (hA : A.handled = none) (hf : t.fits es.size = true) (n : it ≠ a) (nT : it ≠ T) (hp : ps.Perm (List.range es.size)) :
    WalksS prog w A it [it, a, T] [it] Eqg es.size (fun i v => ∃ (p : Nat) (e : Int × Value), ps[i]? = some p ∧ es[p]? = some e ∧ v = e.2) (fun i s => SI s.heap it (.ref T) i a es.size ep ∧ SD s.heap a es ep t ∧ PT s.heap T ps) where
  sub := fun b hb => by simp at hb; simp [hb]
  grefl := fun _ => rfl
  gtrans := fun _ _ _ h1 h2 => h2.trans h1
  frame := fun i s h' tk st _ k => ⟨st.1.at fun o e => k it (by simp) o e, st.2.1.at fun o e => k a (by simp) o e, st.2.2.at fun o e => k T (by simp) o e⟩
  item := fun i s Q E hi st fin => by
    have hl : ps.length = es.size := by rw [hp.length_eq, List.length_range]
    have hi' : i < ps.length := by omega
    have hm : ps[i] < es.size := List.mem_range.mp (hp.mem_iff.mp (List.getElem_mem hi'))
    refine next_drawn (p := ps[i]) (hx := es[ps[i]].1) (x := es[ps[i]].2) st.1 st.2.1 hf st.2.2 (List.getElem?_eq_getElem hi') (Array.getElem?_eq_getElem hm) fun h' si sb => ?_
    exact fin _ _ ⟨_, _, List.getElem?_eq_getElem hi', Array.getElem?_eq_getElem hm, rfl⟩ ⟨si, st.2.1.at fun o e => (sb.2 a n.symm).trans e, st.2.2.at fun o e => (sb.2 T nT.symm).trans e⟩ ⟨fun b o hb e => (sb.2 b (by simpa using hb)).trans e, rfl, rfl, rfl, Nat.le_refl _⟩
  done := fun s Q E st fin => by
    have hl : ps.length = es.size := by rw [hp.length_eq, List.length_range]
    exact end_drawn hA st.1 st.2.1 hf st.2.2 (List.getElem?_eq_none (by omega)) fun h' k => fin _ ⟨fun b o hb e => k b o (by simpa using hb) e, rfl, rfl, rfl, Nat.le_refl _⟩
  self := fun i s Q E st q => iter_self st.1 q
theorem slot_len : typeLookup (.type "set") "__len__" = pure (some (.builtin "set.__len__")) := F.slot_set_len.lookup
theorem hint_set {Q : Bool → Shared → Prop} (ty : s.TypeIs (.ref a) "set") (k : Q false s) : wpAny (model prog w) A (Builtin.List.listLengthHint (.ref a)) Q E s := by
  unfold Builtin.List.listLengthHint
  refine wpAny_bind (wpAny_specialOf ty slot_len ?_)
  generalize hq : ("set.__len__" : String) = idq
  wp_delta
  have e : splitId idq = some ("set", "__len__") := by
    subst hq
    decide +kernel
  rw [e]
  subst hq
  refine wpAny_bind (wpAny_isInstance (T := "set") (b := true) ty (by rw [isSubtype_type]; kernel_rfl) ?_)
  refine any_no (by decide) ?_
  refine any_yes (by decide +kernel) ?_
  exact wpAny_bind (wpAny_typeOf ty (wpAny_pure k))
theorem touch_loop {I Z : Addr} {fp wr : List Addr} {G : Array GenState → Array GenState → Prop} {n c0 : Nat} {P : Nat → Value → Prop} {St : Nat → Shared → Prop} {K : Result → Shared → Prop} (W : WalksS prog w A.in1 I fp wr G n P St) (hn : n ≤ sizeLine) (hZ : Z ∉ fp) (st : St 0 s)
    (gZ : s.heap.get? Z = some { cls := .type "list", data := .seq #[] c0 })
    (fin : ∀ s' acc c, (∀ b o, b ≠ Z → b ∉ wr → s.heap.get? b = some o → s'.heap.get? b = some o) → G s.gens s'.gens → s'.drawn = s.drawn → s'.os = s.os → s'.heap.get? Z = some { cls := .type "list", dict := none, data := .seq acc c, slots := #[] } → ItemsOf P acc n → K (.ok (.ret (.ref Z))) s') :
    wpAny (model prog w) A.in1 (Builtin.List.listTouch (.ref Z) >>= fun _ => again (.builtin "list.extend.loop" ⟨[.ref Z, .ref I, .ref Z], []⟩))
      (fun f s' => match f with
        | .done f => K (.ok f) s'
        | .again c => c.quiet = true ∧ codeAny (model prog w) A c K s') (fun e s' => K (.error e) s') s := by
  refine wpAny_bind ?_
  show wpAny _ _ (updateSeq Z (·.push .none) >>= fun _ => updateSeq Z (·.pop)) _ _ _
  refine wpAny_bind (wpAny_updateSeq gZ rfl ?_)
  have g2 := Heap.get?_update_self (Obj.mapSeq (·.push Value.none)) gZ rfl
  refine wpAny_updateSeq (hz := by seq_fits) g2 rfl ?_
  have g3 := Heap.get?_update_self (Obj.mapSeq (·.pop)) g2 rfl
  have oth : ∀ b o, b ≠ Z → s.heap.get? b = some o → ((s.heap.update Z (Obj.mapSeq (·.push Value.none))).update Z (Obj.mapSeq (·.pop))).get? b = some o := fun b o nb e =>
    (Heap.get?_update_other _ _ nb.symm).trans ((Heap.get?_update_other _ _ nb.symm).trans e)
  generalize (s.heap.update Z (Obj.mapSeq (·.push Value.none))).update Z (Obj.mapSeq (·.pop)) = H3 at g3 oth ⊢
  have st3 := W.frame 0 s H3 s.toks st (Nat.le_refl _) fun b hb o e => oth b o (fun z => hZ (z ▸ hb)) e
  refine wpAny_pure ⟨plainId_quiet F.plain_extend_loop _, codeAny_extend_loopS W hn Z hZ (.ref Z) n 0 _ #[] _ rfl (Nat.zero_le _) st3 g3 (ItemsOf.nil _) fun s' acc c mv h' ha => ?_⟩
  refine fin s' acc c (fun b o nb nw e => mv.heap b o ?_ (oth b o nb e)) mv.gens mv.drawn mv.os h' ha
  rw [List.mem_cons]
  rintro (z | z)
  · exact nb z
  · exact nw z
theorem collect_set {Q : List Value → Shared → Prop} (hA : A.handled = none) (hs : SD s.heap a es ep t) (hf : t.fits es.size = true) (hb : es.size < scanBound) (g : Good t (ledOf w))
    (fin : ∀ (h' : Heap) (d : Drawn) (tk : Nat) (acc : List Value), (∀ b o, s.heap.get? b = some o → h'.get? b = some o) → acc.Perm (es.toList.map (·.2)) → Q acc { s with heap := h', drawn := d, toks := tk }) :
    wpAny (model prog w) A (collect (.ref a)) Q E s := by
  have hz := fits_of_scanBound hb
  have al : a < s.heap.objs.size := let ⟨o, e, _⟩ := hs; Heap.lt_size e
  unfold collect
  refine wpAny_bind (wpAny_runValue (codeAny_builtin F.entry_proto_collect ?_))
  rw [Around.under_plainId F.plain_proto_collect _]
  show wpAny _ A.in1 (newList [] >>= fun z => again (.builtin "list.__iadd__" ⟨[z, .ref a], []⟩)) _ _ s
  refine wpAny_bind (wpAny_newObj_type ?_)
  refine wpAny_pure ⟨plainId_quiet F.plain_list_iadd _, codeAny_builtin F.entry_list_iadd ?_⟩
  rw [Around.under_plainId F.plain_list_iadd _]
  have g0 : (s.heap.push { cls := .type "list", data := .seq ([] : List Value).toArray }).get? s.heap.objs.size = some { cls := .type "list", data := .seq #[] } := Heap.get?_push_size _ rfl
  have k0 : ∀ b o, s.heap.get? b = some o → (s.heap.push { cls := .type "list", data := .seq ([] : List Value).toArray }).get? b = some o := fun b o e => Heap.get?_push_of_some _ e
  have z0 : (s.heap.push { cls := .type "list", data := .seq ([] : List Value).toArray }).objs.size = s.heap.objs.size + 1 := Heap.size_push _ _
  show wpAny _ A.in1 (Builtin.List.listExtendWith (.ref s.heap.objs.size) (.ref a) (.ref s.heap.objs.size)) _ _ { s with heap := s.heap.push { cls := .type "list", data := .seq ([] : List Value).toArray } }
  generalize s.heap.push { cls := .type "list", data := .seq ([] : List Value).toArray } = H0 at g0 k0 z0 ⊢
  have s0 : SD H0 a es ep t := hs.at fun o e => k0 a o e
  have ty : Shared.TypeIs { s with heap := H0 } (.ref a) "set" := let ⟨o, e, x, _⟩ := s0; ⟨o, e, x.1⟩
  unfold Builtin.List.listExtendWith
  refine wpAny_bind (wpAny_typeOf ty ?_)
  have e1 : Builtin.List.listSameRef (.ref s.heap.objs.size) (.ref a) = false := by
    simp [Builtin.List.listSameRef]
    exact fun z => absurd al (by rw [← z]; exact Nat.lt_irrefl _)
  refine any_no (by rw [e1]; decide) ?_
  have h1 : A.in1.handled = none := by simpa using hA
  have nZ : s.heap.objs.size ≠ a := fun z => absurd al (by rw [← z]; exact Nat.lt_irrefl _)
  have perm : ∀ {f : Nat → Value → Prop} {acc : Array Value} {vs : List Value}, ItemsOf f acc es.size → vs.length = es.size → (∀ i v x, f i v → vs[i]? = some x → v = x) → acc.toList = vs := fun {f acc vs} ha hl hv => by
    refine List.ext_getElem? fun i => ?_
    by_cases hi : i < es.size
    · have q : i < acc.size := by rw [ha.1]; exact hi
      rw [List.getElem?_eq_getElem (by simpa using q), List.getElem?_eq_getElem (by omega)]
      have := ha.2 i acc[i] (by simp)
      rw [← hv i _ _ this (List.getElem?_eq_getElem (by omega : i < vs.length))]
      simp
    · rw [List.getElem?_eq_none (by rw [Array.length_toList, ha.1]; omega), List.getElem?_eq_none (by omega)]
  refine wpAny_bind (iter_set s0 hf hb (fun mode => ?_) fun ps d H2 hw hp pt si kp => ?_)
  · have nI : H0.objs.size ≠ a := fun z => absurd al (by rw [← z, z0]; exact Nat.not_lt.mpr (Nat.le_succ _))
    have nZI : s.heap.objs.size ∉ [H0.objs.size, a] := by
      rw [z0]
      simp only [List.mem_cons, List.not_mem_nil, or_false, not_or]
      exact ⟨Nat.ne_of_lt (Nat.lt_succ_self _), nZ⟩
    have k1 : ∀ b o, H0.get? b = some o → (H0.push { cls := .type "set_iterator", data := .fields #[.int 0 0, .int 0 0, .ref a, .int es.size 0, .int ep 0] }).get? b = some o := fun b o e => Heap.get?_push_of_some _ e
    have si : SI (H0.push { cls := .type "set_iterator", data := .fields #[.int 0 0, .int 0 0, .ref a, .int es.size 0, .int ep 0] }) H0.objs.size (.int ((0 : Nat) : Int) 0) 0 a es.size ep := ⟨_, Heap.get?_push_size _ rfl, rfl, rfl⟩
    dsimp only
    generalize H0.push { cls := .type "set_iterator", data := .fields #[.int 0 0, .int 0 0, .ref a, .int es.size 0, .int ep 0] } = H1 at k1 si ⊢
    have s1 : SD H1 a es ep t := s0.at fun o e => k1 a o e
    have ty1 : Shared.TypeIs { s with heap := H1 } (.ref a) "set" := let ⟨o, e, x, _⟩ := s1; ⟨o, e, x.1⟩
    refine wpAny_bind (wpAny_holding (hint_set ty1 ?_))
    refine any_yes (by decide +kernel) ?_
    refine wpAny_bind (wpAny_rule ?_)
    have ends : ∀ (s' : Shared) (acc : Array Value) (c : Nat), (∀ b o, b ≠ s.heap.objs.size → b ∉ [H0.objs.size] → H1.get? b = some o → s'.heap.get? b = some o) → s'.gens = s.gens → s'.drawn = s.drawn → s'.os = s.os →
        s'.heap.get? s.heap.objs.size = some { cls := .type "list", dict := none, data := .seq acc c, slots := #[] } → acc.toList.Perm (es.toList.map (·.2)) → wpAny (model prog w) A (load s.heap.objs.size >>= fun ob => match ob.data with | .seq xs _ => pure xs.toList | _ => unsupported "internal:collect") Q E s' := by
      rintro ⟨h', g', d', tk', os'⟩ acc c kp rfl rfl rfl gz pm
      refine wpAny_bind (wpAny_load gz (wpAny_pure (fin h' s.drawn tk' acc.toList (fun b o e => ?_) pm)))
      have lb := Heap.lt_size e
      refine kp b o (Nat.ne_of_lt lb) ?_ (k1 b o (k0 b o e))
      rw [z0]
      simp only [List.mem_cons, List.not_mem_nil, or_false]
      exact Nat.ne_of_lt (Nat.lt_succ_of_lt lb)
    rcases mode with hw | ⟨hw, hp⟩
    · have pp := pick_perm (w.params.setOrder a ep) es
      have hn : (byT w a ep es).size = es.size := by
        have := pp.length_eq
        unfold byT
        simpa using this
      refine wpAny_mono (touch_loop (c0 := 0) (s := { s with heap := H1 }) (K := fun r s' => r = .ok (.ret (.ref s.heap.objs.size)) ∧ wpAny (model prog w) A (load s.heap.objs.size >>= fun ob => match ob.data with | .seq xs _ => pure xs.toList | _ => unsupported "internal:collect") Q E s') (walk_text h1 hw hf nI hn) hz nZI ⟨si, s1⟩ (k1 _ _ g0) fun s' acc c kp gg dd oo gz ha => ⟨rfl, ends s' acc c kp gg dd oo gz ?_⟩) (fun f s' x => ?_) fun e s' x => ?_
      rotate_left
      · cases f with
        | done f =>
          obtain ⟨e, p⟩ := x
          cases e
          exact p
        | again c =>
          refine ⟨x.1, codeAny_mono x.2 fun r s2 y => ?_⟩
          obtain ⟨rfl, p⟩ := y
          exact p
      · cases x.1
      rw [perm (vs := (byT w a ep es).toList.map (·.2)) ha (by simp [hn]) fun i v x hv hx => ?_]
      · exact pp.map _
      · obtain ⟨e, h2, rfl⟩ := hv
        rw [List.getElem?_map, Array.getElem?_toList, h2] at hx
        exact Option.some.inj hx
    · have zz : True := trivial
      refine wpAny_mono (touch_loop (c0 := 0) (s := { s with heap := H1 }) (K := fun r s' => r = .ok (.ret (.ref s.heap.objs.size)) ∧ wpAny (model prog w) A (load s.heap.objs.size >>= fun ob => match ob.data with | .seq xs _ => pure xs.toList | _ => unsupported "internal:collect") Q E s') (walk_place h1 hw hf nI hp g) hz nZI ⟨⟨0, si, below_zero g.up⟩, s1⟩ (k1 _ _ g0) fun s' acc c kp gg dd oo gz ha => ⟨rfl, ends s' acc c kp gg dd oo gz ?_⟩) (fun f s' x => ?_) fun e s' x => ?_
      rotate_left
      · cases f with
        | done f =>
          obtain ⟨e, p⟩ := x
          cases e
          exact p
        | again c =>
          refine ⟨x.1, codeAny_mono x.2 fun r s2 y => ?_⟩
          obtain ⟨rfl, p⟩ := y
          exact p
      · cases x.1
      rw [perm (vs := es.toList.map (·.2)) ha (by simp) fun i v x hv hx => ?_]
      · obtain ⟨e, h2, rfl⟩ := hv
        rw [List.getElem?_map, Array.getElem?_toList, h2] at hx
        exact Option.some.inj hx
  · have nI : H0.objs.size + 1 ≠ a := fun z => absurd al (by rw [← z, z0]; exact Nat.not_lt.mpr (Nat.le_succ_of_le (Nat.le_succ _)))
    have nT : H0.objs.size + 1 ≠ H0.objs.size := Nat.succ_ne_self _
    have nZI : s.heap.objs.size ∉ [H0.objs.size + 1, a, H0.objs.size] := by
      rw [z0]
      simp only [List.mem_cons, List.not_mem_nil, or_false, not_or]
      exact ⟨Nat.ne_of_lt (Nat.lt_succ_of_lt (Nat.lt_succ_self _)), nZ, Nat.ne_of_lt (Nat.lt_succ_self _)⟩
    dsimp only at pt si kp ⊢
    have s1 : SD H2 a es ep t := s0.at fun o e => kp a o e
    have ty1 : Shared.TypeIs { s with heap := H2, drawn := d } (.ref a) "set" := let ⟨o, e, x, _⟩ := s1; ⟨o, e, x.1⟩
    refine wpAny_bind (wpAny_holding (hint_set ty1 ?_))
    refine any_yes (by decide +kernel) ?_
    refine wpAny_bind (wpAny_rule ?_)
    refine wpAny_mono (touch_loop (c0 := 0) (s := { s with heap := H2, drawn := d }) (K := fun r s' => r = .ok (.ret (.ref s.heap.objs.size)) ∧ wpAny (model prog w) A (load s.heap.objs.size >>= fun ob => match ob.data with | .seq xs _ => pure xs.toList | _ => unsupported "internal:collect") Q E s') (walk_drawn h1 hf nI nT hp) hz nZI ⟨si, s1, pt⟩ (kp _ _ g0) ?_) (fun f s' x => ?_) fun e s' x => ?_
    rotate_left
    · cases f with
      | done f =>
        obtain ⟨e, p⟩ := x
        cases e
        exact p
      | again c =>
        refine ⟨x.1, codeAny_mono x.2 fun r s2 y => ?_⟩
        obtain ⟨rfl, p⟩ := y
        exact p
    · cases x.1
    rintro ⟨h', g', d', tk', os'⟩ acc c kq gg dd oo gz ha
    obtain rfl : g' = s.gens := gg
    obtain rfl : d' = d := dd
    obtain rfl : os' = s.os := oo
    refine ⟨rfl, ?_⟩
    refine wpAny_bind (wpAny_load gz (wpAny_pure (fin h' d' tk' acc.toList (fun b o e => ?_) ?_)))
    · have lb := Heap.lt_size e
      refine kq b o (Nat.ne_of_lt lb) ?_ (kp b o (k0 b o e))
      rw [z0]
      simp only [List.mem_cons, List.not_mem_nil, or_false]
      exact Nat.ne_of_lt (Nat.lt_succ_of_lt (Nat.lt_succ_of_lt lb))
    · have hl : ps.length = es.size := by rw [hp.length_eq, List.length_range]
      have e2 : ((List.range es.size).map fun p => (es[p]?.map (·.2)).getD .none) = es.toList.map (·.2) := by
        refine List.ext_getElem? fun i => ?_
        by_cases hi : i < es.size
        · simp [hi]
        · rw [List.getElem?_eq_none (by simp; omega), List.getElem?_eq_none (by simp; omega)]
      rw [perm (vs := ps.map fun p => (es[p]?.map (·.2)).getD .none) ha (by simp [hl]) fun i v x hv hx => ?_]
      · rw [← e2]
        exact hp.map _
      · obtain ⟨p, e, h2, h3, rfl⟩ := hv
        rw [List.getElem?_map, h2] at hx
        have hx' : (es[p]?.map (·.2)).getD .none = x := Option.some.inj hx
        rw [h3] at hx'
        exact hx'
end
end Tab
namespace L2
open PySem PySem.Spec PyProof.Rows
theorem perm_of_sub : ∀ {D L : List Int}, D.Nodup → (∀ z ∈ D, z ∈ L) → L.length ≤ D.length → L.Perm D
  | [], L, _, _, h => by
    have : L = [] := List.length_eq_zero_iff.mp (by simpa using h)
    rw [this]
  | x :: D, L, nd, hs, h => by
    obtain ⟨a, b, rfl⟩ := List.append_of_mem (hs x List.mem_cons_self)
    obtain ⟨nx, nd'⟩ := List.nodup_cons.mp nd
    have h' : (a ++ b).length ≤ D.length := by
      rw [List.length_append, List.length_cons] at h
      rw [List.length_append]
      simp at h
      omega
    have := perm_of_sub (L := a ++ b) nd' (fun z hz => by
      have := hs z (List.mem_cons_of_mem _ hz)
      rcases List.mem_append.mp this with q | q
      · exact List.mem_append_left _ q
      · rcases List.mem_cons.mp q with rfl | q
        · exact absurd hz nx
        · exact List.mem_append_right _ q) h'
    exact List.perm_middle.trans (this.cons x)
def intOf : Value → Int
  | .int i _ => i
  | _ => 0
section
variable {X : Cx}
def tSortSet (K : PySem.W.Frag) (ta : TA) : TE := fun σ H Q => ta σ H fun vs H1 => ∃ (b : Addr) (ns : List Int), vs = [.ref b] ∧ SqL K H1 b (ns.map V.int) ∧ ns.length < 64 ∧
  ∀ (l : Addr) (D : List Int), H1 l = none → D.Pairwise (· < ·) → (∀ z, z ∈ D ↔ z ∈ ns) → Q (.ref l) (upd H1 l (.lst (D.map V.int)))
theorem Inv.dr {pins : List (Addr × Obj)} {σ : St} {H : Hp} {s : Shared} (I : Inv X pins σ H s) (d : Drawn) : Inv X pins σ H { s with drawn := d } := ⟨I.ok, I.os, I.bare, I.base, I.loc, I.cell, I.free, I.freeC, I.pin, I.hok, I.len⟩
theorem pe_sortSet {a : Expr} {ta : TA} {p p' pos pos' : Pos} (hc : X.calm = true) (hg : Gl X "sorted") (hm : X.mg "sorted" = none) (hg' : Gl X "set") (hm' : X.mg "set" = none) (ha : PA X [a] ta)
    (hs : starEach [a] X.env = [(false, eval a X.env)] := by rfl) (hs2 : starEach [.Call (.Name "set" p') [a] [] pos'] X.env = [(false, eval (.Call (.Name "set" p') [a] [] pos') X.env)] := by rfl) :
    PE X (.Call (.Name "sorted" p) [.Call (.Name "set" p') [a] [] pos'] [] pos) (tSortSet X.K ta) := by
  intro pins s σ H Q I h
  refine wpAny_Call_Name_kw (ld_blt I hg hm boot_sorted (PyProof.Rows.callWith_builtin1 ?_ hs2 rfl))
  rw [hs2]
  show wpAny _ _ (spliced ((false, eval (.Call (.Name "set" p') [a] [] pos') X.env) :: [])) _ _ s
  refine Calls.spliced_cons (Call_ (ld_blt I hg' hm' boot_set (PyProof.Rows.callWith_type1 (thn (ha pos' pins s σ H _ I h) fun us s1 ⟨vs, H1, I1, r1, q1⟩ => ?_) hs rfl)))
  obtain ⟨b, ns, e, hq, h1000, q⟩ := q1
  subst e
  obtain ⟨u, rfl, ru⟩ := vals1 r1
  cases ru
  obtain ⟨its, rv, pl, hz⟩ := I1.list hq
  have hi := intsAre_of rv
  have hlen : its.length = ns.length := hi.length
  have hsb : scanBound = 4096 := rfl
  have hsz : sizeLine = 16777216 := sizeLine_eq
  have hd0 := I1.ok.hd hc
  refine Tab.call_setG (its := its.toArray) (ns := ns) hd0 pl.isList (by simpa using hi) (by rw [List.size_toArray]; omega) fun h' tk hS hk => Calls.spliced_nil ?_
  rw [show its.toArray.size = ns.length from hlen] at hS
  obtain ⟨o, es, ep, t, ho, hex, hd, ⟨hel, hmem⟩, hbd, hf, hn, hgd⟩ := hS
  have hkeep : ∀ b o, s1.heap.get? b = some o → h'.get? b = some o := fun b o e => hk b o (Heap.lt_size e) e
  have I2 : Inv X pins σ H1 { s1 with heap := h', toks := tk } := I1.kept hkeep
  refine Calls.call_function_entry kind_sorted plain_sorted entry_sorted (args_sorted1 _) ?_
  unfold Builtin.«sorted»
  refine wpAny_bind (m := checkCount "sorted" 1 1 _) (wpAny_pure ?_)
  refine wpAny_bind (Tab.collect_set hd0 ⟨o, ho, hex, hd⟩ hf hbd hgd fun h2 dd tk2 acc kp pm => ?_)
  have I3 : Inv X pins σ H1 { s1 with heap := h2, drawn := dd, toks := tk2 } := (I2.kept (h' := h2) (t' := tk2) kp).dr dd
  have shape : ∀ v ∈ acc, ∃ t, v = .int (intOf v) t := fun v hv => by
    obtain ⟨e, he, rfl⟩ := List.mem_map.mp (pm.mem_iff.mp hv)
    obtain ⟨⟨k, hk', _⟩, _⟩ := hel e he
    obtain ⟨t, e7⟩ := Value.isInt_shape (k := k) (v := e.2) hk'
    exact ⟨t, by rw [e7]; rfl⟩
  have hI : IntsAre acc (acc.map intOf) := by
    refine intsAre_of ?_
    clear pm
    induction acc with
    | nil => exact .nil
    | cons v acc ih => exact .cons (shape v List.mem_cons_self) (ih fun z hz => shape z (List.mem_cons_of_mem _ hz))
  have nd0 := firstMet_nodup (fun i => ns.getD i 0) ns.length
  have mem0 := firstMet_mem ns
  have hmm : ∀ z, z ∈ acc.map intOf ↔ z ∈ firstMet (fun i => ns.getD i 0) ns.length := fun z => by
    have h1 : (firstMet (fun i => ns.getD i 0) ns.length).any (· == z) = true ↔ z ∈ firstMet (fun i => ns.getD i 0) ns.length := by simp
    rw [← h1, hmem z]
    constructor
    · intro hz
      obtain ⟨v, hv, rfl⟩ := List.mem_map.mp hz
      obtain ⟨e, he, rfl⟩ := List.mem_map.mp (pm.mem_iff.mp hv)
      obtain ⟨⟨k, hk', _⟩, _⟩ := hel e he
      obtain ⟨t, e7⟩ := Value.isInt_shape (k := k) (v := e.2) hk'
      refine ⟨e, he, ?_⟩
      have : intOf e.2 = k := by rw [e7]; rfl
      rw [this]
      exact hk'
    · rintro ⟨e, he, hz⟩
      obtain ⟨t, e7⟩ := Value.isInt_shape (k := z) (v := e.2) hz
      exact List.mem_map.mpr ⟨e.2, pm.mem_iff.mpr (List.mem_map.mpr ⟨e, he, rfl⟩), by rw [e7]; rfl⟩
  have hla : acc.length = (firstMet (fun i => ns.getD i 0) ns.length).length := by
    have h0 : acc.length = (es.toList.map (·.2)).length := pm.length_eq
    have h1 : (es.toList.map (·.2)).length = es.toList.length := List.length_map _
    have h2 : es.toList.length = es.size := Array.length_toList
    omega
  have pD : (acc.map intOf).Perm (firstMet (fun i => ns.getD i 0) ns.length) := perm_of_sub nd0 (fun z hz => (hmm z).mpr hz) (by rw [List.length_map, hla]; exact Nat.le_refl _)
  have hle : acc.length < 64 := by
    have := firstMet_length_le (fun i => ns.getD i 0) ns.length
    omega
  refine wpAny_bind (wpAny_newList ?_ (by omega))
  have hoL : (h2.push (seqObj "list" acc.toArray 0)).get? h2.objs.size = some (seqObj "list" acc.toArray 0) := Heap.get?_push_size _ rfl
  show wpAny _ _ _ _ _ { s1 with heap := h2.push (seqObj "list" acc.toArray 0), drawn := dd, toks := tk2 }
  refine wpAny_bind (wpAny_holding (wpAny_call_entry slot_list_sort ⟨_, hoL, rfl⟩ entry_list_sort (list_sort_tree hoL hI (by omega) fun out ns' a1 a2 a3 => ⟨_, rfl, ?_⟩) (args_list_sort _)))
  obtain ⟨e, he⟩ := sortedHeap_at (out := out) hoL
  have nd' : ns'.Nodup := (a2.trans pD).nodup_iff.mpr nd0
  have up : ns'.Pairwise (· < ·) := (List.pairwise_and_iff.mpr ⟨a3, List.nodup_iff_pairwise_ne.mp nd'⟩).imp fun {x y} hxy => by
    have h1 : x ≤ y := hxy.1
    have h2 : x ≠ y := hxy.2
    omega
  refine wpAny_pure ⟨_, rfl, .ref h2.objs.size, _, I3.laid (t' := tk2) (o := .lst (ns'.map V.int)) (fun b o zz => ?_) (Nat.le_refl _) ?_, rfl, q _ ns' (I3.hok.fresh (Nat.le_refl _)) up fun z => ?_⟩
  · have zz' : h2.get? b = some o := zz
    have hb : b < h2.objs.size := Heap.lt_size zz'
    show (sortedHeap _ _ _ _).get? b = _
    rw [sortedHeap_old (Nat.ne_of_lt hb) (by rw [size_push']; exact Nat.lt_succ_of_lt hb), Heap.get?_push_ne _ _ _ (Nat.ne_of_lt hb)]
    exact zz'
  · refine ⟨?_, out.toList, e, vals_ints a1, ?_⟩
    · rw [List.length_map, a2.length_eq, List.length_map]; omega
    · have q' : (seqObj "list" out e : Obj) = { cls := .type "list", data := .seq out.toList.toArray e } := by simp [seqObj]
      rw [← q']; exact he
  · rw [a2.mem_iff, hmm, mem0]
end
end L2
namespace Ink
def cntN (N : Rs) (A : List Int) (p : Int) : Nat := ((N.getD p.toNat []).filter fun o => decide (o ∈ A)).length
theorem filter_le_of {α : Type} {p q : α → Bool} : ∀ {l : List α}, (∀ x ∈ l, p x = true → q x = true) → (l.filter p).length ≤ (l.filter q).length
  | [], _ => Nat.le_refl _
  | x :: l, h => by
    have ih := filter_le_of (l := l) fun y hy => h y (List.mem_cons_of_mem _ hy)
    rw [List.filter_cons, List.filter_cons]
    by_cases hp : p x = true
    · rw [if_pos hp, if_pos (h x (by simp) hp), List.length_cons, List.length_cons]
      omega
    · rw [if_neg hp]
      by_cases hq : q x = true
      · rw [if_pos hq, List.length_cons]; omega
      · rw [if_neg hq]; exact ih
theorem cntN_mono {N : Rs} {A B : List Int} {p : Int} (h : ∀ o, o ∈ A → o ∈ B) : cntN N A p ≤ cntN N B p :=
  filter_le_of fun x _ hx => decide_eq_true (h x (of_decide_eq_true hx))
theorem cntN_same {N : Rs} {A B : List Int} {p : Int} (h : ∀ o, o ∈ A ↔ o ∈ B) : cntN N A p = cntN N B p :=
  Nat.le_antisymm (cntN_mono fun o => (h o).mp) (cntN_mono fun o => (h o).mpr)
structure Peel (N : Rs) (m : Nat) (order counts left : List Int) : Prop where
  len : counts.length = order.length
  perm : (order ++ left).Perm (nums m)
  at_ : ∀ (k : Nat) (x c : Int), order[k]? = some x → counts[k]? = some c → c = (cntN N (order.drop k ++ left) x : Nat) ∧ ∀ p ∈ order.drop k ++ left, c ≤ (cntN N (order.drop k ++ left) p : Nat)
theorem Peel.start (N : Rs) (m : Nat) : Peel N m [] [] (nums m) := ⟨rfl, .refl _, fun k x c h => by simp at h⟩
theorem Peel.step {N : Rs} {m : Nat} {order counts left : List Int} (P : Peel N m order counts left) {i : Nat} {x : Int} (hx : left[i]? = some x) (hm : ∀ p ∈ left, cntN N left x ≤ cntN N left p) :
    Peel N m (order ++ [x]) (counts ++ [((cntN N left x : Nat) : Int)]) (left.eraseIdx i) := by
  have hi := (List.getElem?_eq_some_iff.mp hx).1
  have pe : (x :: left.eraseIdx i).Perm left := by
    have e : left[i] = x := (List.getElem?_eq_some_iff.mp hx).2
    rw [List.eraseIdx_eq_take_drop_succ]
    have h1 : left.take i ++ (x :: left.drop (i + 1)) = left := by
      rw [← e, List.getElem_cons_drop hi]
      exact List.take_append_drop i left
    calc (x :: (left.take i ++ left.drop (i + 1))).Perm (left.take i ++ (x :: left.drop (i + 1))) := List.perm_middle.symm
      _ = left := h1
  have mm : ∀ o, o ∈ x :: left.eraseIdx i ↔ o ∈ left := fun o => pe.mem_iff
  refine ⟨by rw [List.length_append, List.length_append, P.len]; rfl, ?_, fun k y c hy hc => ?_⟩
  · rw [List.append_assoc]
    exact (List.Perm.append_left order (by exact pe)).trans P.perm
  · by_cases hk : k < order.length
    · rw [List.getElem?_append_left hk] at hy
      rw [List.getElem?_append_left (by rw [P.len]; exact hk)] at hc
      have hd : (order ++ [x]).drop k ++ left.eraseIdx i = order.drop k ++ (x :: left.eraseIdx i) := by
        rw [List.drop_append_of_le_length (Nat.le_of_lt hk), List.append_assoc]; rfl
      have sm : ∀ o, o ∈ (order ++ [x]).drop k ++ left.eraseIdx i ↔ o ∈ order.drop k ++ left := fun o => by
        rw [hd, List.mem_append, List.mem_append, mm o]
      obtain ⟨a1, a2⟩ := P.at_ k y c hy hc
      refine ⟨by rw [cntN_same sm]; exact a1, fun p hp => ?_⟩
      rw [cntN_same sm]
      exact a2 p ((sm p).mp hp)
    · have hkl : k = order.length := by
        have := (List.getElem?_eq_some_iff.mp hy).1
        rw [List.length_append, List.length_singleton] at this
        omega
      subst hkl
      rw [List.getElem?_append_right (Nat.le_refl _), Nat.sub_self] at hy
      rw [← P.len, List.getElem?_append_right (Nat.le_refl _), Nat.sub_self] at hc
      have ey : x = y := by simpa using hy
      have ec : ((cntN N left x : Nat) : Int) = c := by simpa using hc
      subst ey
      have hd : (order ++ [x]).drop order.length ++ left.eraseIdx i = x :: left.eraseIdx i := by rw [List.drop_left]; rfl
      have sm : ∀ o, o ∈ (order ++ [x]).drop order.length ++ left.eraseIdx i ↔ o ∈ left := fun o => by rw [hd, mm o]
      refine ⟨by rw [cntN_same sm, ← ec], fun p hp => ?_⟩
      rw [cntN_same sm, ← ec]
      have := hm p ((sm p).mp hp)
      omega
theorem first_of {order A : List Int} (hA : A ≠ []) (hs : ∀ x ∈ A, x ∈ order) : ∃ (k : Nat) (x : Int), order[k]? = some x ∧ x ∈ A ∧ ∀ y ∈ A, y ∈ order.drop k := by
  induction order with
  | nil =>
    obtain ⟨a, t, rfl⟩ := List.exists_cons_of_ne_nil hA
    exact absurd (hs a (by simp)) (by simp)
  | cons z t ih =>
    by_cases hz : z ∈ A
    · exact ⟨0, z, rfl, hz, fun y hy => hs y hy⟩
    · obtain ⟨k, x, h1, h2, h3⟩ := ih fun x hx => by
        rcases List.mem_cons.mp (hs x hx) with q | q
        · exact absurd (q ▸ hx) hz
        · exact q
      exact ⟨k + 1, x, h1, h2, h3⟩
theorem Peel.goes {N : Rs} {m : Nat} {order counts : List Int} (P : Peel N m order counts []) {g : Int} (hg : ∀ c ∈ counts, c ≤ g) {A : List Int} (hA : A ≠ []) (hs : ∀ x ∈ A, x ∈ nums m) : ∃ x ∈ A, ((cntN N A x : Nat) : Int) ≤ g := by
  have hp : ∀ x, x ∈ order ↔ x ∈ nums m := fun x => by
    have := P.perm.mem_iff (a := x)
    rw [List.append_nil] at this
    exact this
  obtain ⟨k, x, h1, h2, h3⟩ := first_of hA fun x hx => (hp x).mpr (hs x hx)
  have hk := (List.getElem?_eq_some_iff.mp h1).1
  have hc : counts[k]? = some (counts[k]'(by rw [P.len]; exact hk)) := List.getElem?_eq_getElem _
  obtain ⟨a1, _⟩ := P.at_ k x _ h1 hc
  refine ⟨x, h2, ?_⟩
  have b1 := hg _ (List.mem_of_getElem? hc)
  have b2 : cntN N A x ≤ cntN N (order.drop k ++ []) x := cntN_mono fun o ho => by rw [List.append_nil]; exact h3 o ho
  omega
theorem Peel.dense {N : Rs} {m : Nat} {order counts : List Int} (P : Peel N m order counts []) {k : Nat} {g : Int} (hk : counts[k]? = some g) : order.drop k ≠ [] ∧ ∀ p ∈ order.drop k, g ≤ ((cntN N (order.drop k) p : Nat) : Int) := by
  have hl := (List.getElem?_eq_some_iff.mp hk).1
  rw [P.len] at hl
  have hx : order[k]? = some order[k] := List.getElem?_eq_getElem hl
  obtain ⟨_, a2⟩ := P.at_ k _ _ hx hk
  rw [List.append_nil] at a2
  refine ⟨fun z => ?_, a2⟩
  have := congrArg List.length z
  rw [List.length_drop, List.length_nil] at this
  omega
theorem free_le {used : List Int} {c : Nat} (h : ∀ i < c, ((i : Nat) : Int) ∈ used) : c ≤ used.length := by
  have hn : (nums c).Nodup := pairwise_lt_nodup (nums_sorted c)
  have := sub_len hn (b := used) fun y hy => by
    unfold nums at hy
    obtain ⟨i, hi, rfl⟩ := List.mem_map.mp hy
    exact h i (List.mem_range.mp hi)
  rw [nums_length] at this
  exact this
structure Col (N : Rs) (g : Int) (D : List Int) (col : Int → Int) : Prop where
  rng : ∀ x ∈ D, 0 ≤ col x ∧ col x ≤ g
  ok : ∀ x ∈ D, ∀ y ∈ D, y ∈ N.getD x.toNat [] → col x ≠ col y
def usedC (N : Rs) (D : List Int) (col : Int → Int) (x : Int) : List Int := ((N.getD x.toNat []).filter fun o => decide (o ∈ D)).map col
theorem usedC_mem {N : Rs} {D : List Int} {col : Int → Int} {x y : Int} (h : y ∈ N.getD x.toNat []) (hd : y ∈ D) : col y ∈ usedC N D col x :=
  List.mem_map.mpr ⟨y, List.mem_filter.mpr ⟨h, decide_eq_true hd⟩, rfl⟩
theorem Col.step {N : Rs} {g : Int} {D : List Int} {col : Int → Int} (C : Col N g D col) {x : Int} (hx : x ∉ D) (sym : ∀ y ∈ D, x ∈ N.getD y.toNat [] → y ∈ N.getD x.toNat []) (hl : x ∉ N.getD x.toNat []) {c : Nat} (hc : ((c : Nat) : Int) ∉ usedC N D col x) (hlt : ∀ i < c, ((i : Nat) : Int) ∈ usedC N D col x) (hg : ((cntN N D x : Nat) : Int) ≤ g) :
    Col N g (x :: D) (fun y => if y = x then ((c : Nat) : Int) else col y) := by
  have hcl : c ≤ cntN N D x := by
    have := free_le hlt
    unfold usedC at this
    rw [List.length_map] at this
    exact this
  refine ⟨fun y hy => ?_, fun y hy z hz hyz => ?_⟩
  · try dsimp only
    by_cases e : y = x
    · rw [if_pos e]; omega
    · rw [if_neg e]
      exact C.rng y ((List.mem_cons.mp hy).resolve_left e)
  · try dsimp only
    by_cases e : y = x
    · subst e
      rw [if_pos rfl]
      by_cases e2 : z = y
      · subst e2; exact absurd hyz hl
      · rw [if_neg e2]
        intro q
        exact hc (q ▸ usedC_mem hyz ((List.mem_cons.mp hz).resolve_left e2))
    · rw [if_neg e]
      have hyD := (List.mem_cons.mp hy).resolve_left e
      by_cases e2 : z = x
      · subst e2
        rw [if_pos rfl]
        intro q
        exact hc (q ▸ usedC_mem (sym y hyD hyz) hyD)
      · rw [if_neg e2]
        exact C.ok y hyD z ((List.mem_cons.mp hz).resolve_left e2) hyz
theorem Peel.behind {N : Rs} {m : Nat} {order counts : List Int} (P : Peel N m order counts []) {g : Int} (hg : ∀ c ∈ counts, c ≤ g) {k : Nat} {x : Int} (hx : order[k]? = some x) : ((cntN N (order.drop (k + 1)) x : Nat) : Int) ≤ g ∧ x ∉ order.drop (k + 1) := by
  have hk := (List.getElem?_eq_some_iff.mp hx).1
  have hc : counts[k]? = some (counts[k]'(by rw [P.len]; exact hk)) := List.getElem?_eq_getElem _
  obtain ⟨a1, _⟩ := P.at_ k x _ hx hc
  have b1 := hg _ (List.mem_of_getElem? hc)
  have ed : order.drop k = x :: order.drop (k + 1) := by
    rw [← List.getElem_cons_drop hk, (List.getElem?_eq_some_iff.mp hx).2]
  have b2 : cntN N (order.drop (k + 1)) x ≤ cntN N (order.drop k ++ []) x := cntN_mono fun o ho => by rw [List.append_nil, ed]; exact List.mem_cons_of_mem _ ho
  refine ⟨by omega, fun z => ?_⟩
  have nd : order.Nodup := by
    have := P.perm.nodup_iff.mpr (pairwise_lt_nodup (nums_sorted m))
    rw [List.append_nil] at this
    exact this
  have nd2 : (order.drop k).Nodup := nd.sublist (List.drop_sublist k order)
  rw [ed] at nd2
  exact (List.nodup_cons.mp nd2).1 z
end Ink
namespace Ink
open PySem L2
structure Txt3 (mg : Str → Option Value) : Prop where
  set : mg "set" = none
  tuple : mg "tuple" = none
  str : mg "str" = none
def rowsSz : Rs → Nat
  | [] => 0
  | r :: rs => 1 + r.length + rowsSz rs
theorem rowsSz_eq : ∀ rs : Rs, rowsSz rs = rs.length + rs.flatten.length
  | [] => rfl
  | r :: rs => by rw [List.flatten_cons, List.length_append, List.length_cons]; show 1 + r.length + rowsSz rs = _; rw [rowsSz_eq rs]; omega
inductive Alk (H : Hp) : V → V → PyData → Nat → Prop
  | int (z : Int) : Alk H (.int z) (.int z) (.int z) 1
  | row {a b : Addr} {r : List Int} : H a = some (.lst (r.map V.int)) → H b = some (.lst (r.map V.int)) → Alk H (.ref a) (.ref b) (intsD r) (1 + r.length)
  | rows {p q : Addr} {ps qs : List Addr} {rs : Rs} : Rows H p ps rs → Rows H q qs rs → Alk H (.ref p) (.ref q) (rowsD rs) (1 + rowsSz rs)
inductive Alks (H : Hp) : List V → List V → List PyData → Nat → Prop
  | nil : Alks H [] [] [] 0
  | snoc {xs ys : List V} {ds : List PyData} {m : Nat} {x y : V} {d : PyData} {k : Nat} : Alks H xs ys ds m → Alk H x y d k → Alks H (xs ++ [x]) (ys ++ [y]) (ds ++ [d]) (m + k)
theorem Alk.pos {H : Hp} {x y : V} {d : PyData} {k : Nat} (a : Alk H x y d k) : 1 ≤ k := by cases a <;> omega
theorem Alks.len {H : Hp} {xs ys : List V} {ds : List PyData} {m : Nat} (h : Alks H xs ys ds m) : xs.length ≤ m ∧ ys.length ≤ m ∧ ds.length = ys.length := by
  induction h with
  | nil => exact ⟨Nat.le_refl _, Nat.le_refl _, rfl⟩
  | snoc _ a ih => have := a.pos; simp only [List.length_append, List.length_singleton]; omega
theorem Alks.ints {H : Hp} : ∀ (r : List Int) {xs ys : List V} {ds : List PyData} {m : Nat}, Alks H xs ys ds m → ∃ ds', Alks H (xs ++ r.map V.int) (ys ++ r.map V.int) ds' (m + r.length)
  | [], xs, ys, ds, m, h => ⟨ds, by simpa using h⟩
  | z :: r, xs, ys, ds, m, h => by
    obtain ⟨ds', h'⟩ := Alks.ints r (h.snoc (.int z))
    refine ⟨ds', ?_⟩
    rw [List.map_cons, List.length_cons, show m + (r.length + 1) = m + 1 + r.length by omega]
    simpa using h'
theorem Alks.rows {H : Hp} : ∀ (rs : Rs) {ps qs : List Addr} {xs ys : List V} {ds : List PyData} {m : Nat}, Alks H xs ys ds m → ps.length = rs.length → qs.length = rs.length →
    (∀ (i : Nat) (q : Addr) (r : List Int), ps[i]? = some q → rs[i]? = some r → H q = some (.lst (r.map V.int))) → (∀ (i : Nat) (q : Addr) (r : List Int), qs[i]? = some q → rs[i]? = some r → H q = some (.lst (r.map V.int))) →
    ∃ ds', Alks H (xs ++ ps.map V.ref) (ys ++ qs.map V.ref) ds' (m + rowsSz rs)
  | [], [], [], xs, ys, ds, m, h, _, _, _, _ => ⟨ds, by simpa [rowsSz] using h⟩
  | r :: rs, p :: ps, q :: qs, xs, ys, ds, m, h, h1, h2, h3, h4 => by
    obtain ⟨ds', h'⟩ := Alks.rows rs (ps := ps) (qs := qs) (h.snoc (.row (h3 0 p r rfl rfl) (h4 0 q r rfl rfl))) (by simpa using h1) (by simpa using h2) (fun i a b e1 e2 => h3 (i + 1) a b (by simpa using e1) (by simpa using e2)) (fun i a b e1 e2 => h4 (i + 1) a b (by simpa using e1) (by simpa using e2))
    refine ⟨ds', ?_⟩
    rw [List.map_cons, List.map_cons, show rowsSz (r :: rs) = 1 + r.length + rowsSz rs from rfl, show m + (1 + r.length + rowsSz rs) = m + (1 + r.length) + rowsSz rs by omega]
    simpa using h'
theorem layAll_snoc : ∀ (ds : List PyData) (d : PyData), PyData.canLayAll0 ds = true → d.canLay0 = true → PyData.canLayAll0 (ds ++ [d]) = true
  | [], d, _, h => by show PyData.canLayAll0 [d] = true; rw [PyData.canLayAll0, h]; rfl
  | e :: ds, d, h1, h2 => by
    rw [PyData.canLayAll0, Bool.and_eq_true] at h1
    rw [List.cons_append, PyData.canLayAll0, h1.1, layAll_snoc ds d h1.2 h2]
    rfl
theorem depthAll_snoc : ∀ (ds : List PyData) (d : PyData), PyData.depthAll ds ≤ 2 → d.depth ≤ 2 → PyData.depthAll (ds ++ [d]) ≤ 2
  | [], d, _, h => by show PyData.depthAll [d] ≤ 2; rw [PyData.depthAll, PyData.depthAll]; omega
  | e :: ds, d, h1, h2 => by
    rw [PyData.depthAll] at h1
    rw [List.cons_append, PyData.depthAll]
    have := depthAll_snoc ds d (by omega) h2
    omega
theorem DatVs.snoc {K : PySem.W.Frag} {H : Hp} {d : PyData} {x : V} (hx : DatV K H x d) : ∀ {xs : List V} {ds : List PyData}, DatVs K H xs ds → DatVs K H (xs ++ [x]) (ds ++ [d])
  | _, _, .nil => .cons hx .nil
  | _, _, .cons h r => .cons h (DatVs.snoc hx r)
theorem Alks.dat {K : PySem.W.Frag} {H H' : Hp} (s : Same H H') {xs ys : List V} {ds : List PyData} {m : Nat} (h : Alks H xs ys ds m) : DatVs K H' ys ds ∧ PyData.canLayAll0 ds = true ∧ PyData.depthAll ds ≤ 2 := by
  induction h with
  | nil => exact ⟨.nil, rfl, Nat.zero_le _⟩
  | snoc _ a ih =>
    obtain ⟨i1, i2, i3⟩ := ih
    cases a with
    | int z => exact ⟨DatVs.snoc (.int z) i1, layAll_snoc _ _ i2 rfl, depthAll_snoc _ _ i3 (by show PyData.depth (.int z) ≤ 2; rw [PyData.depth]; exact Nat.zero_le _)⟩
    | row h1 h2 => exact ⟨DatVs.snoc (.ints (.of (s _ _ h2))) i1, layAll_snoc _ _ i2 (lay_ints _), depthAll_snoc _ _ i3 (Nat.le_trans (depth_ints _) (by decide))⟩
    | rows h1 h2 => exact ⟨DatVs.snoc (h2.same s).dat i1, layAll_snoc _ _ i2 (lay_rows _), depthAll_snoc _ _ i3 (depth_rows _)⟩
theorem eqv_nil (ds : List PyData) : PyData.eqv (.list ds) (.list []) = decide (ds = []) := by
  rw [PyData.eqv]
  cases ds with
  | nil => simp [PyData.eqvAll]
  | cons a b => simp [PyData.eqvAll]
def spLike : Sp := fun vs H Q _ => ∃ (p q : Addr) (ps qs : List Addr) (rs : Rs), vs = [.ref p, .ref q] ∧ Rows H p ps rs ∧ Rows H q qs rs ∧ rs.length ≤ 1000 ∧ rs.flatten.length ≤ 1000 ∧ ∀ H', Same H H' → Q (.bl true) H'
section
variable {P : Program} {w : World} {K : PySem.W.Frag} {mg : Str → Option Value} {base : Heap}
theorem scLike : FnScope ["_law_found", "_law_due", "_law_got_parts", "_law_due_parts", "_law_one", "_law_two"] ["_law_found", "_law_due"] (defScope sLike) := ⟨rfl, rfl, rfl, by decide +kernel, rfl, by decide +kernel, by decide +kernel⟩
theorem ok_like {f : Addr} {fd : FuncData} (F : Fun K "_law_like" "_law_like" sLike f fd) (T : Txt mg) (T3 : Txt3 mg) : FnOk P w K mg base CX0 1 f fd ["_law_found", "_law_due"] spLike := by
  refine F.ok scLike (fun vs H Q E h => ?_) (fun cdv A outer s H vs Q E hr h => ?_)
  · obtain ⟨p, q, ps, qs, rs, rfl, _⟩ := h
    rfl
  · obtain ⟨p, q, ps, qs, rs, rfl, R, R', hl1, hl2, k⟩ := h
    have hs : sizeLine = 16777216 := sizeLine_eq
    have nd := scLike.nd
    have hu := hr.units
    refine ⟨_, pss_cons (ps_set (i := 2) nd rfl (Or.inl rfl) (pe_lst (pa_cons (pv 0) pa_nil)))
      (pss_cons (ps_set (i := 3) nd rfl (Or.inl rfl) (pe_lst (pa_cons (pv 1) pa_nil)))
      (pss_cons (ps_while PassesOwn.never (pt_cmpR (op_neD hu) (pv 3) (pe_lst pa_nil) (nomark _)) (pss_cons (ps_set (i := 4) nd rfl (Or.inl rfl) (pe_bm0 PySem.F.plainAttrs_list PySem.F.slot_list_pop PySem.F.type_list_pop mt_pop (pv 2)))
      (pss_cons (ps_set (i := 5) nd rfl (Or.inl rfl) (pe_bm0 PySem.F.plainAttrs_list PySem.F.slot_list_pop PySem.F.type_list_pop mt_pop (pv 3)))
      (pss_one (ps_if (pt_val (pe_callB call_isi (by rfl) T.isi PyProof.Rows.boot_isinstance (pa_cons (pv 5) (pa_cons (pe_bltn (v := .ty "list") (by rfl) T.list PyProof.Rows.boot_list rfl) pa_nil)))) (pss_cons (ps_if (pw_or (pt_not (pt_val (pe_callB call_isi (by rfl) T.isi PyProof.Rows.boot_isinstance (pa_cons (pv 4) (pa_cons (pe_bltn (v := .ty "list") (by rfl) T.list PyProof.Rows.boot_list rfl) pa_nil))))) (pw_or1 (pt_cmpR op_ne (pe_callB call_len_seq (by rfl) T.len PySem.boot_len (pa_cons (pv 4) pa_nil)) (pe_callB call_len_seq (by rfl) T.len PySem.boot_len (pa_cons (pv 5) pa_nil)) (nomark _)))).pt (pss_one (ps_ret pe_bl)) (pss_nil))
      (pss_cons (ps_expr (pe_bm PySem.F.plainAttrs_list PySem.F.slot_list_extend PySem.F.type_list_extend mt_extend (pv 2) (pa_cons (pv 4) pa_nil)))
      (pss_one (ps_expr (pe_bm PySem.F.plainAttrs_list PySem.F.slot_list_extend PySem.F.type_list_extend mt_extend (pv 3) (pa_cons (pv 5) pa_nil)))))) (pss_one (ps_if (pt_val (pe_callB call_isi (by rfl) T.isi PyProof.Rows.boot_isinstance (pa_cons (pv 5) (pa_cons (pe_bltn (v := .ty "tuple") (by rfl) T3.tuple PyProof.Rows.boot_tuple rfl) pa_nil)))) (pss_never) (pss_one (ps_if (pt_val (pe_callB call_isi (by rfl) T.isi PyProof.Rows.boot_isinstance (pa_cons (pv 5) (pa_cons (pe_bltn (v := .ty "str") (by rfl) T3.str PyProof.Rows.boot_str rfl) pa_nil)))) (pss_never) (pss_one (ps_if (pt_cmp (pc_isN (pv 5))) (pss_never) (pss_one (ps_if (pw_or (pt_not (pt_val (pe_callB call_isi (by rfl) T.isi PyProof.Rows.boot_isinstance (pa_cons (pv 4) (pa_cons (pe_bltn (v := .ty "int") (by rfl) T.int PyProof.Rows.boot_int rfl) pa_nil))))) (pw_or1 (pt_cmpR op_ne (pe_callB call_isi (by rfl) T.isi PyProof.Rows.boot_isinstance (pa_cons (pv 4) (pa_cons (pe_bltn (v := .ty "bool") (by rfl) T.bool PyProof.Rows.boot_bool rfl) pa_nil))) (pe_callB call_isi (by rfl) T.isi PyProof.Rows.boot_isinstance (pa_cons (pv 5) (pa_cons (pe_bltn (v := .ty "bool") (by rfl) T.bool PyProof.Rows.boot_bool rfl) pa_nil))) (nomark _)))).pt (pss_one (ps_ret pe_bl)) (pss_one (ps_if (pt_cmpR op_ne (pv 4) (pv 5) (nomark _)) (pss_one (ps_ret pe_bl)) (pss_nil))))))))))))))))
      (pss_one (ps_ret pe_bl)))), ?_⟩
    refine ⟨_, rfl, (by show 1 ≤ sizeLine; omega), fun g hg => ?_⟩
    refine ⟨_, rfl, (by show 1 ≤ sizeLine; omega), fun t ht => ?_⟩
    obtain ⟨ntg, ht'⟩ := upd_none ht
    have s0 : Same H (L2.upd (L2.upd H g (.lst [.ref p])) t (.lst [.ref q])) := ((Same.refl H).put hg).put ht'
    have hsz := rowsSz_eq rs
    refine ⟨fun m σ H2 => ∃ xs ys ds v4 v5, σ = [some (.ref p), some (.ref q), some (.ref g), some (.ref t), v4, v5] ∧ Same H H2 ∧ H2 g = some (.lst xs) ∧ H2 t = some (.lst ys) ∧ Alks H xs ys ds m ∧ m ≤ 3000,
      ⟨_, [.ref p], [.ref q], _, none, none, rfl, s0, by rw [upd_ne (Ne.symm ntg), upd_same], upd_same, Alks.nil.snoc (.rows R R'), by omega⟩, ?_⟩
    rintro m σ H2 ⟨xs, ys, ds, v4, v5, rfl, s2, hG, hT, hA, hm⟩
    obtain ⟨hx1, hx2, hx3⟩ := hA.len
    refine ⟨_, rfl, (by show 0 ≤ sizeLine; omega), fun z hz => ?_⟩
    have s3 : Same H (L2.upd H2 z (.lst [])) := s2.put (s2.free hz)
    have hG3 : (L2.upd H2 z (.lst [])) g = some (.lst xs) := by rw [upd_ne (ne_of_none hG hz)]; exact hG
    have hT3 : (L2.upd H2 z (.lst [])) t = some (.lst ys) := by rw [upd_ne (ne_of_none hT hz)]; exact hT
    obtain ⟨a1, a2, a3⟩ := hA.dat (K := K) s3
    refine ⟨.list ds, .list [], .lst (.of hT3) a1, .lst (.of upd_same) .nil, (by rw [PyData.canLay0]; exact a2), rfl, (by rw [PyData.depth]; omega), _, rfl, ?_⟩
    rw [eqv_nil]
    generalize L2.upd H2 z (.lst []) = H3 at s3 hG3 hT3 a1
    clear hG hT hz
    cases hA with
    | nil => exact iteNS rfl (k H3 s3)
    | snoc hA hx =>
      rename_i xs ys ds m0 x y dd k0
      have hne : ¬ (ds ++ [dd] = []) := by simp
      rw [decide_eq_false hne]
      have hk0 := hx.pos
      obtain ⟨hy1, hy2, hy3⟩ := hA.len
      refine iteT ⟨fun σ' H' => ∃ xs ys ds v4 v5, σ' = [some (.ref p), some (.ref q), some (.ref g), some (.ref t), v4, v5] ∧ Same H H' ∧ H' g = some (.lst xs) ∧ H' t = some (.lst ys) ∧ Alks H xs ys ds (m0 + k0 - 1),
        fun σ' H' ⟨xs', ys', ds', w4, w5, b1, b2, b3, b4, b5⟩ => ⟨m0 + k0 - 1, by omega, xs', ys', ds', w4, w5, b1, b2, b3, b4, b5, by omega⟩, ?_⟩
      refine ⟨_, rfl, .inl ⟨rfl, _, .of hG3⟩, g, _, x, rfl, rfl, hG3, by simp, ?_⟩
      rw [List.dropLast_concat]
      have hT4 : (L2.upd H3 g (.lst xs)) t = some (.lst (ys ++ [y])) := by rw [upd_ne ntg]; exact hT3
      refine ⟨_, rfl, .inl ⟨rfl, _, .of hT4⟩, t, _, y, rfl, rfl, hT4, by simp, ?_⟩
      rw [List.dropLast_concat]
      have s5 : Same H (L2.upd (L2.upd H3 g (.lst xs)) t (.lst ys)) := (s3.put hg).put ht'
      have hG5 : (L2.upd (L2.upd H3 g (.lst xs)) t (.lst ys)) g = some (.lst xs) := by rw [upd_ne (Ne.symm ntg), upd_same]
      have hT5 : (L2.upd (L2.upd H3 g (.lst xs)) t (.lst ys)) t = some (.lst ys) := upd_same
      generalize L2.upd (L2.upd H3 g (.lst xs)) t (.lst ys) = H5 at s5 hG5 hT5
      cases hx with
      | int z =>
        refine ⟨_, rfl, _, _, _, rfl, .il z, _, rfl, iteF ?_⟩
        refine ⟨_, rfl, _, _, _, rfl, .it z, _, rfl, iteF ?_⟩
        refine ⟨_, rfl, _, _, _, rfl, .is z, _, rfl, iteF ?_⟩
        refine ⟨_, rfl, _, rfl, iteF ?_⟩
        refine ⟨_, rfl, _, _, _, rfl, .ii z, _, rfl, iteF ?_⟩
        refine ⟨_, rfl, _, _, _, rfl, .ib z, _, rfl, _, _, _, rfl, .ib z, rfl, _, rfl, iteNS rfl ?_⟩
        refine ⟨_, rfl, _, rfl, rfl, _, rfl, iteNS rfl ?_⟩
        exact ⟨xs, ys, ds, _, _, rfl, s5, hG5, hT5, by rw [Nat.add_sub_cancel]; exact hA⟩
      | row h1 h2 =>
        rename_i a b r
        obtain ⟨ds', hA'⟩ := Alks.ints r hA
        have c1 := s5 _ _ h1
        have c2 := s5 _ _ h2
        refine ⟨_, rfl, _, _, _, rfl, .ll (.of c2), _, rfl, iteT ?_⟩
        refine ⟨_, rfl, _, _, _, rfl, .ll (.of c1), _, rfl, iteF ?_⟩
        refine ⟨_, rfl, a, _, rfl, .inl (.of c1), _, rfl, b, _, rfl, .inl (.of c2), rfl, _, rfl, iteNS rfl ?_⟩
        refine ⟨_, rfl, .inl ⟨rfl, _, .of hG5⟩, _, rfl, g, a, _, _, rfl, rfl, hG5, c1, by rw [List.length_map]; omega, ?_⟩
        have s6 : Same H (L2.upd H5 g (.lst (xs ++ r.map V.int))) := s5.put hg
        have hT6 : (L2.upd H5 g (.lst (xs ++ r.map V.int))) t = some (.lst ys) := by rw [upd_ne ntg]; exact hT5
        refine ⟨_, rfl, .inl ⟨rfl, _, .of hT6⟩, _, rfl, t, b, _, _, rfl, rfl, hT6, s6 _ _ h2, by rw [List.length_map]; omega, ?_⟩
        exact ⟨_, _, ds', _, _, rfl, s6.put ht', by rw [upd_ne (Ne.symm ntg), upd_same], upd_same, by rw [show m0 + (1 + r.length) - 1 = m0 + r.length by omega]; exact hA'⟩
      | rows h1 h2 =>
        rename_i a b pa pb rr
        obtain ⟨ds', hA'⟩ := Alks.rows rr hA h1.len h2.len h1.row h2.row
        have c1 := s5 _ _ h1.out
        have c2 := s5 _ _ h2.out
        have hsz' := rowsSz_eq rr
        refine ⟨_, rfl, _, _, _, rfl, .ll (.of c2), _, rfl, iteT ?_⟩
        refine ⟨_, rfl, _, _, _, rfl, .ll (.of c1), _, rfl, iteF ?_⟩
        refine ⟨_, rfl, a, _, rfl, .inl (.of c1), _, rfl, b, _, rfl, .inl (.of c2), rfl, _, rfl, iteNS (by rw [List.length_map, List.length_map, h1.len, h2.len]) ?_⟩
        refine ⟨_, rfl, .inl ⟨rfl, _, .of hG5⟩, _, rfl, g, a, _, _, rfl, rfl, hG5, c1, by rw [List.length_map, h1.len]; omega, ?_⟩
        have s6 : Same H (L2.upd H5 g (.lst (xs ++ pa.map V.ref))) := s5.put hg
        have hT6 : (L2.upd H5 g (.lst (xs ++ pa.map V.ref))) t = some (.lst ys) := by rw [upd_ne ntg]; exact hT5
        refine ⟨_, rfl, .inl ⟨rfl, _, .of hT6⟩, _, rfl, t, b, _, _, rfl, rfl, hT6, s6 _ _ h2.out, by rw [List.length_map, h2.len]; omega, ?_⟩
        exact ⟨_, _, ds', _, _, rfl, s6.put ht', by rw [upd_ne (Ne.symm ntg), upd_same], upd_same, by rw [show m0 + (1 + rowsSz rr) - 1 = m0 + rowsSz rr by omega]; exact hA'⟩
end
end Ink
namespace L2
open PySem PySem.Spec PyProof.Rows
def Trc (h : Heap) (a T : Addr) (cls : Value) : Prop :=
  ∃ oe vs oT ts a0, h.get? a = some oe ∧ oe.cls = cls ∧ vs[0]? = some a0 ∧ oe.data = .fields vs ∧ vs[1]? = some (.ref T) ∧ T ≠ a ∧ h.get? T = some oT ∧ oT.data = .fields ts ∧ ts[3]? = some .none
theorem frs_in {l : List Env} : ∀ env ∈ l, ∀ b, env.frame = some b → b ∈ frs l := fun env he b hb => List.mem_filterMap.mpr ⟨env, he, hb⟩
structure Past (l : List Env) (no : List Addr) (h h' : Heap) : Prop where
  keep : ∀ b o, h.get? b = some o → b ∉ frs l → b ∉ no → h'.get? b = some o
  slot : ∀ b o, h.get? b = some o → b ∈ frs l → ∃ sl, h'.get? b = some { o with slots := sl }
section
variable {M : Model} {A : Around} {E : Value → Shared → Prop} {s : Shared} {base : Heap} {env : Env} {outer : List Env} {L a T : Addr} {cls a0 : Value} {Q : Unit → Shared → Prop}
theorem past_left {no : List Addr} {h h' : Heap} {l : List Env} (hl : h.FunFrames base l) (x : Heap.LeftW (PySem.W.hideAll h (no ++ frs l)) l a cls a0 h h') : Past l no h h' := by
  obtain ⟨k1, k2, k3, k4⟩ := x
  refine ⟨fun b o hb h1 h2 => k1 b o (PySem.W.hideAll_get _ hb fun z => ?_), fun b o hb hm => ?_⟩
  · rcases List.mem_append.mp z with z | z
    · exact h2 z
    · exact h1 z
  · obtain ⟨_, o', ho', hd⟩ := hl.mem hm
    rw [hb] at ho'
    cases ho'
    exact k4 b o hb hd
theorem trc_left {no : List Addr} {h h' : Heap} {l : List Env} (hl : h.FunFrames base l) (x : Heap.LeftW (PySem.W.hideAll h (no ++ frs l)) l a cls a0 h h') : ∃ T', Trc h' a T' cls ∧ (T' ∈ no ∨ h.get? T' = none) := by
  have P := past_left hl x
  obtain ⟨k1, k2, k3, k4⟩ := x
  obtain ⟨oe, vs, T', oT, ts, e1, ⟨e2, e0⟩, e3, e4, e5, e6, e7, e8, e9⟩ := k3
  refine ⟨T', ⟨oe, vs, oT, ts, a0, e1, e2, e0, e3, e4, e6, e7, e8, e9⟩, ?_⟩
  cases q : h.get? T' with
  | none => exact .inr rfl
  | some o =>
    left
    apply Classical.byContradiction
    intro hno
    by_cases hf : T' ∈ frs l
    · obtain ⟨sl, z⟩ := P.slot T' o q hf
      obtain ⟨_, o', ho', hd⟩ := hl.mem hf
      rw [q] at ho'
      cases ho'
      rw [e7] at z
      cases z
      exact hd ts e8
    · have := PySem.W.hideAll_get (no ++ frs l) q fun z => (List.mem_append.mp z).elim hno hf
      rw [e5] at this
      cases this
theorem leave_next (hfr : A.frames = some (env :: outer)) (hl : s.heap.FunFrames base (env :: outer)) (hf : env.frame = some L) (t : Trc s.heap a T cls)
    (h : ∀ h' T', Past (env :: outer) [a, T] s.heap h' → Trc h' a T' cls → (T' = T ∨ s.heap.get? T' = none) → Q () { s with heap := h' }) : wpAny M A (leaving env (.ref a)) Q E s := by
  obtain ⟨oe, vs, oT, ts, a0, e1, e2, e0, e3, e4, e6, e7, e8, e9⟩ := t
  refine wpAny_leaving_nextW (a0 := a0) (base := PySem.W.hideAll s.heap ([a, T] ++ frs (env :: outer))) hfr (PySem.W.funFrames_hide hl fun e he b hb => List.mem_append_right _ (frs_in e he b hb)) hf
    ⟨oe, vs, T, oT, ts, e1, ⟨e2, e0⟩, e3, e4, PySem.W.hideAll_none _ (by simp), e6, e7, e8, e9⟩ (fun b o q => PySem.W.of_hideAll _ q) (PySem.W.hideAll_none _ (by simp)) fun h' hL => ?_
  obtain ⟨T', t', n'⟩ := trc_left hl hL
  refine h h' T' (past_left hl hL) t' ?_
  rcases n' with n' | n'
  · have : T' = a ∨ T' = T := by simpa using n'
    rcases this with z | z
    · obtain ⟨_, _, _, _, _, _, _, _, _, _, q, _⟩ := t'
      exact absurd z q
    · exact .inl z
  · exact .inr n'
theorem leave_first {h0 : Heap} {vs : List Value} (hfr : A.frames = some (env :: outer)) (hl : s.heap.FunFrames base (env :: outer)) (hf : env.frame = some L) (hx : Heap.MadeExcOf h0 s.heap a cls vs)
    (h : ∀ h' T', Past (env :: outer) [a] s.heap h' → Trc h' a T' cls → s.heap.get? T' = none → Q () { s with heap := h' }) : wpAny M A (leaving env (.ref a)) Q E s := by
  obtain ⟨t, he, htn, ht⟩ := hx.there
  refine wpAny_leaving_firstW (a0 := .ref t) (base := PySem.W.hideAll s.heap ([a] ++ frs (env :: outer))) hfr (PySem.W.funFrames_hide hl fun e he b hb => List.mem_append_right _ (frs_in e he b hb)) hf he
    (fun b o q => PySem.W.of_hideAll _ q) (PySem.W.hideAll_none _ (by simp)) rfl rfl rfl fun h' hL => ?_
  obtain ⟨T', t', n'⟩ := trc_left hl hL
  refine h h' T' (past_left hl hL) t' ?_
  rcases n' with n' | n'
  · have z : T' = a := by simpa using n'
    obtain ⟨_, _, _, _, _, _, _, _, _, _, q, _⟩ := t'
    exact absurd z q
  · exact n'
end
theorem ObjOk.obj {P : Program} {w : World} {H : Hp} {h : Heap} {a : Addr} {o : HO} (x : ObjOk P w H h a o) : ∃ u, h.get? a = some u := by
  cases o with
  | lst xs => obtain ⟨_, _, _, _, e⟩ := x; exact ⟨_, e⟩
  | tup xs => obtain ⟨_, _, _, o, e, _⟩ := x; exact ⟨_, e⟩
  | dK kvs => obtain ⟨_, _, _, _, o, _, _, e, _⟩ := x; exact ⟨_, e⟩
  | dT kvs => obtain ⟨_, _, _, _, o, _, _, e, _⟩ := x; exact ⟨_, e⟩
  | set S n => obtain ⟨o, _, _, _, e, _⟩ := x; exact ⟨_, e⟩
  | ins C dx fs => obtain ⟨_, _, _, e, _⟩ := x; exact ⟨_, e⟩
  | own y => exact x
  | xd fs => obtain ⟨_, ⟨_, _, _, e, _⟩, _⟩ := x; exact ⟨_, e⟩
  | rng lo hi => obtain ⟨_, _, _, e⟩ := x; exact ⟨_, e⟩
  | frz ob u => obtain ⟨e, _⟩ := x; exact ⟨_, e⟩
  | tbl ps => exact ⟨_, show h.get? a = some _ from x⟩
  | met f y => exact ⟨_, show h.get? a = some _ from x⟩
  | ext φ => obtain ⟨_, e, _⟩ := x; exact e
theorem HOk.none_of {P : Program} {w : World} {H : Hp} {h : Heap} (ok : HOk P w H h) {a : Addr} (n : h.get? a = none) : H a = none := by
  cases q : H a with
  | none => rfl
  | some o =>
    obtain ⟨u, e⟩ := (ok a o q).obj
    rw [n] at e
    cases e
theorem HOk.past {P : Program} {w : World} {H : Hp} {h h' : Heap} {l : List Env} {no : List Addr} (ok : HOk P w H h) (p : Past l no h h') (hl : ∀ b ∈ frs l, H b = none) (hn : ∀ b ∈ no, H b = none) : HOk P w H h' := fun b u e => by
  refine (ok b u e).stay (fun c v hc q => p.keep c v q (fun z => ?_) fun z => ?_) (fun _ q => q) fun _ _ q => q
  · have n := hl c z
    rcases hc with rfl | hc
    · rw [n] at e; cases e
    · rw [n] at hc; cases hc
  · have n := hn c z
    rcases hc with rfl | hc
    · rw [n] at e; cases e
    · rw [n] at hc; cases hc
def CX1 (P : Program) (w : World) : CXT := fun outer H s E e s' => ∃ a T cls H', e = .ref a ∧ s'.os = s.os ∧ AllBare s'.gens ∧ Un (frs outer) [] H H' s.heap s'.heap ∧ HOk P w H' s'.heap ∧
  H' a = none ∧ H' T = none ∧ s.heap.get? a = none ∧ s.heap.get? T = none ∧ Trc s'.heap a T cls ∧ E cls none H'
theorem FnOk.lift {P : Program} {w : World} {K : PySem.W.Frag} {mg : Str → Option Value} {base : Heap} {k : Nat} {f : Addr} {fd : FuncData} {ps : List Str} {sp : Sp} (F : FnOk P w K mg base CX0 k f fd ps sp) : FnOk P w K mg base (CX1 P w) k f fd ps sp :=
  ⟨F.len, fun A outer s H args us vs Q E hr he hb hv hs => codeAny_mono (F.run A outer s H args us vs Q E hr he hb hv hs) fun r s' hq => by
    cases r with
    | ok f => cases f <;> first | exact hq | exact hq.elim
    | error e => exact hq.elim⟩
section
variable {P : Program} {w : World} {K : PySem.W.Frag} {mg : Str → Option Value} {base : Heap} {N : List Str} {qual : Str} {scope : Scope} {f : Addr} {cd : Value} {A : Around} {outer : List Env} {s0 : Shared} {H0 : Hp} {E : XK}
abbrev cx1 (P : Program) (w : World) (K : PySem.W.Frag) (mg : Str → Option Value) (base : Heap) (N : List Str) (qual : Str) (scope : Scope) (f : Addr) (cd : Value) (A : Around) (outer : List Env) (s : Shared) (H : Hp) (E : XK) : Cx := cxOf (CX1 P w) P w K mg base N qual scope f cd A outer s H E
theorem none_back {h0 h : Heap} {H H' : Hp} {fs : List Addr} (u : Un fs [] H H' h0 h) {b : Addr} (n : h.get? b = none) : h0.get? b = none := by
  cases q : h0.get? b with
  | none => rfl
  | some o =>
    obtain ⟨o', e⟩ := u.there b o q (by simp)
    rw [n] at e
    cases e
theorem cx1_out {pins : List (Addr × Obj)} {σ : St} {H : Hp} {s : Shared} {h' : Heap} {no : List Addr} {a T : Addr} {cls : Value} (I : Inv (cx1 P w K mg base N qual scope f cd A outer s0 H0 E) pins σ H s)
    (p : Past (cx1 P w K mg base N qual scope f cd A outer s0 H0 E).stack no s.heap h') (hn : ∀ b ∈ no, H b = none) (hn0 : ∀ b ∈ no, s0.heap.get? b = none) (ha : H a = none) (hT : H T = none) (ha0 : s0.heap.get? a = none) (hT0 : s0.heap.get? T = none) (t : Trc h' a T cls) (e : E cls none H) :
    CX1 P w outer H0 s0 E (.ref a) { s with heap := h' } := by
  refine ⟨a, T, cls, H, rfl, I.os, I.bare, ?_, I.hok.past p I.stkFree hn, ha, hT, ha0, hT0, t, e⟩
  have neL : ∀ b o, s0.heap.get? b = some o → b ≠ (cx1 P w K mg base N qual scope f cd A outer s0 H0 E).env.locals := fun b o q => Nat.ne_of_lt (Nat.lt_of_lt_of_le (Heap.lt_size q) I.ok.above)
  have u : Un (frs outer) [] H0 H s0.heap s.heap := I.base
  have nno : ∀ b o, s0.heap.get? b = some o → b ∉ no := fun b o q z => by rw [hn0 b z] at q; cases q
  have sub : ∀ b, b ∈ frs (cx1 P w K mg base N qual scope f cd A outer s0 H0 E).stack → b ≠ (cx1 P w K mg base N qual scope f cd A outer s0 H0 E).env.locals → b ∈ frs outer := fun b hb ne => (List.mem_cons.mp (I.stkSub b hb)).resolve_left ne
  refine ⟨fun b o q n hb _ => ?_, fun b o q n hb hx => ?_, u.free, fun b o q hx => ?_, u.tups, u.frzs, u.tbls⟩
  · exact p.keep b o (u.keep b o q n hb (by simp)) (fun z => hb (sub b z (neL b o q))) (nno b o q)
  · obtain ⟨sl, e1⟩ := u.slot b o q n hb hx
    by_cases z : b ∈ frs (cx1 P w K mg base N qual scope f cd A outer s0 H0 E).stack
    · obtain ⟨sl', e2⟩ := p.slot b _ e1 z
      exact ⟨sl', e2⟩
    · exact ⟨sl, p.keep b _ e1 z (nno b o q)⟩
  · obtain ⟨o', e1⟩ := u.there b o q hx
    by_cases z : b ∈ frs (cx1 P w K mg base N qual scope f cd A outer s0 H0 E).stack
    · obtain ⟨sl, e2⟩ := p.slot b _ e1 z
      exact ⟨_, e2⟩
    · exact ⟨o', p.keep b _ e1 z (nno b o q)⟩
theorem pass1 : Passes (CX1 P w) (cx1 P w K mg base N qual scope f cd A outer s0 H0 E) E := by
  intro pins σ H s e s' I hcx
  obtain ⟨a, T, cls, H', rfl, os, bare, un, hok, fa, fT, na, nT, t, hE⟩ := hcx
  obtain ⟨hh, g, d, tk, os'⟩ := s'
  obtain rfl : os' = s.os := os
  have I' : Inv (cx1 P w K mg base N qual scope f cd A outer s0 H0 E) pins σ H' { s with heap := hh, gens := g, drawn := d, toks := tk } := I.call (h' := hh) (g' := g) (d' := d) (t' := tk) (ch := []) un hok bare (fun b z => absurd z (by simp))
  have fr := I'.ok.frames
  have hl := I'.stack
  refine leave_next (base := base) fr hl rfl t fun h' T' p t' n' => ?_
  have a0 : s0.heap.get? a = none := none_back (show Un (frs outer) [] H0 H s0.heap s.heap from I.base) na
  have T0 : s0.heap.get? T = none := none_back (show Un (frs outer) [] H0 H s0.heap s.heap from I.base) nT
  refine cx1_out I' p (fun b hb => ?_) (fun b hb => ?_) fa ?_ a0 ?_ t' hE
  · have : b = a ∨ b = T := by simpa using hb
    rcases this with rfl | rfl
    · exact fa
    · exact fT
  · have : b = a ∨ b = T := by simpa using hb
    rcases this with rfl | rfl
    · exact a0
    · exact T0
  · rcases n' with rfl | n'
    · exact fT
    · exact I'.hok.none_of n'
  · rcases n' with rfl | n'
    · exact T0
    · exact none_back (show Un (frs outer) [] H0 H' s0.heap hh from I'.base) n'
theorem raised1 {pins : List (Addr × Obj)} {σ : St} {H : Hp} {s : Shared} {h' : Heap} {a : Addr} {cls : Value} {vs : List Value} (I : Inv (cx1 P w K mg base N qual scope f cd A outer s0 H0 E) pins σ H s) (hx : Heap.MadeExcOf s.heap h' a cls vs) (hE : E cls none H) :
    (cx1 P w K mg base N qual scope f cd A outer s0 H0 E).xe (.ref a) { s with heap := h' } := by
  have I' : Inv (cx1 P w K mg base N qual scope f cd A outer s0 H0 E) pins σ H { s with heap := h' } := I.un (t' := s.toks) (Un.kept hx.keeps) (I.hok.kept hx.keeps)
  have hl := I'.stack
  have na : H a = none := I.hok.none_of hx.new
  have a0 : s0.heap.get? a = none := none_back (show Un (frs outer) [] H0 H s0.heap s.heap from I.base) hx.new
  refine leave_first (base := base) I'.ok.frames hl rfl hx fun h2 T' p t' n' => ?_
  have n0 : s0.heap.get? T' = none := none_back (show Un (frs outer) [] H0 H s0.heap h' from I'.base) n'
  refine cx1_out I' p (fun b hb => ?_) (fun b hb => ?_) na (I'.hok.none_of n') a0 n0 t' hE
  · have : b = a := by simpa using hb
    subst this; exact na
  · have : b = a := by simpa using hb
    subst this; exact a0
end
end L2
namespace L2
open PySem PySem.Spec PyProof.Rows
theorem exc_obj {K : PySem.W.Frag} {h : Heap} {C : Addr} {bmB : List Value} {newId : String} (kin : K.In h) (q : PySem.W.excIn K C bmB newId = true) :
    ∃ bm N nm qn bs hd sn sub ab col dd k0 k1 k2 k3 k5 mN, h.get? C = some (excClassObj nm qn C N bs bm hd sn sub ab col dd k0 k1 k2 k3 k5 newId) ∧ h.Ns N mN ∧ mN "__init__" = none ∧ OwnTail h bmB bm := by
  unfold PySem.W.excIn at q
  split at q
  case h_2 => exact absurd q Bool.false_ne_true
  case h_1 ob dd cd sl lk =>
    split at q
    case h_2 => exact absurd q Bool.false_ne_true
    case h_1 C1 tl k0 k1 k2 k3 nw k5 mro slots =>
      simp only [Bool.and_eq_true, beq_iff_eq, Bool.not_eq_true'] at q
      rcases q with ⟨⟨⟨⟨⟨c1, c2⟩, c3⟩, c4⟩, c5⟩, c6⟩
      cases c1
      cases c2
      rcases cd with ⟨nm, bs, mr, ns, qn, hd, sn, sub, ab, col, dl⟩
      have m1 : mr = .ref C :: tl := mro
      have m2 : dl = false := c3
      have m3 : sl = #[k0, k1, k2, k3, some (.builtin newId), k5] := by
        rw [← Array.toArray_toList (xs := sl), slots]
      rw [m1, m2, m3] at lk
      exact ⟨tl, ns, nm, qn, bs, hd, sn, sub, ab, col, dd, k0, k1, k2, k3, k5, _, kin _ _ lk, .of_isNs (PySem.W.isNs_of_in kin c5), PySem.W.nsMap_none_of_in kin c5 c6, PySem.W.tail_of_in kin c4⟩
structure ExcC (K : PySem.W.Frag) (mg : Str → Option Value) (x : Str) (C : Addr) : Prop where
  mgx : mg x = some (.ref C)
  ob : ∃ bmB B nid initId, ExcBaseFacts B nid initId bmB ∧ PySem.W.excIn K C bmB nid = true
def tRaise (cls : Value) (E : XK) : TS := fun _ _ H => E cls none H
section
variable {P : Program} {w : World} {K : PySem.W.Frag} {mg : Str → Option Value} {base : Heap} {N : List Str} {qual : Str} {scope : Scope} {f : Addr} {cd : Value} {A : Around} {outer : List Env} {s0 : Shared} {H0 : Hp} {E : XK}
theorem ps_raise {x m : Str} {C : Addr} {np mp cpos pos : Pos} {j : Nat} (O : ExcC K mg x C) (hg : Gl (cx1 P w K mg base N qual scope f cd A outer s0 H0 E) x) (hd : (x == ("__debug__" : Str)) = false := by decide) :
    PS (cx1 P w K mg base N qual scope f cd A outer s0 H0 E) (.Raise (some (.Call (.Name x np) [.Constant (.str m) j mp] [] cpos)) none pos) (tRaise (.ref C) E) := by
  intro pins s σ H D I h
  obtain ⟨bmB, B, nid, initId, FB, q⟩ := O.ob
  obtain ⟨bm, NS, nm, qn, bs, hdc, sn, sub, ab, col, dd, k0, k1, k2, k3, k5, mN, hC, hN, hi, T⟩ := exc_obj I.ok.mod.kin q
  refine wpAny_Raise_call_subU (C := C) (nm := nm) (q := qn) (N := NS) (bs := bs) (bm := bm) (hdct := hdc) (sn := sn) (sub := sub) (ab := ab) (col := col) (dd := dd) (k0 := k0) (k1 := k1) (k2 := k2) (k3 := k3) (k5 := k5) (mN := mN)
    FB FB.hasB FB (T.hasType FB.hasBase) (I.ok.hd rfl) rfl hi (ld_glob I hg O.mgx ⟨rfl, ?_⟩ hd)
  have pa : PA (cx1 P w K mg base N qual scope f cd A outer s0 H0 E) [.Constant (.str m) j mp] (tCons (tC (.str m)) tNil) := pa_cons pe_str pa_nil
  refine Calls.evalArgs_plain (thn (pa cpos pins s σ H (fun vs H1 => vs.length = 1 ∧ H1 = H) I ⟨rfl, rfl⟩) fun us s1 ⟨vs, H1, I1, r, q1, q2⟩ => ?_)
  subst q2
  refine ⟨rfl, ?_, I1.bk _ _ hC, hN.keeps I1.bk, T.keeps I1.bk, fun h' e hx => raised1 I1 hx h⟩
  have := r.length
  show us.length ≤ sizeLine
  rw [← this, q1]
  decide
end
theorem Fun.ok1 {P : Program} {w : World} {K : PySem.W.Frag} {mg : Str → Option Value} {base : Heap} {x qual : Str} {st : Stmt} {f : Addr} {fd : FuncData} {N ps : List Str} {k : Nat} {sp : Sp} (F : Fun K x qual st f fd) (S : FnScope N ps (defScope st)) (len : ∀ vs H Q E, sp vs H Q E → vs.length = ps.length)
    (hbody : ∀ (cdv : Value) (A : Around) (outer : List Env) (s : Shared) (H : Hp) (vs : List V) (Q : VK) (E : XK), Room k (A.deeper (envOfC qual (defScope st) s.heap.objs.size f cdv)) → sp vs H Q E →
      ∃ t, PSs (cx1 P w K mg base N qual (defScope st) f cdv A outer s H E) (defBody st) t ∧ t { nx := fun _ H' => Q .non H', rt := Q } (start N vs) H) : FnOk P w K mg base (CX1 P w) (k + 1) f fd ps sp := by
  obtain ⟨oc, od, kV, doc, pm, an, cdv, ct, osl, rfl, lk, hcd⟩ := F.ex
  exact fn_of lk hcd S len fun A outer s H vs Q E hr hsp => hbody cdv A outer s H vs Q E hr hsp
end L2
namespace L2
open PySem PySem.Spec PyProof.Rows
def excO (a : Addr) (cls : Value) : HO := .ext fun h => ∃ oe vs, h.get? a = some oe ∧ oe.cls = cls ∧ oe.data = .fields vs
abbrev Cx.inH (X : Cx) (a : Addr) : Cx := { X with A := X.A.mark (some (.ref a)), calm := false, xe := fun _ _ => False }
abbrev Cx.inT (X : Cx) (pn : List (Addr × Obj)) (xe : Value → Shared → Prop) : Cx := { X with pn := pn, xe := xe }
section
variable {X : Cx} {pins pn : List (Addr × Obj)} {σ : St} {H : Hp} {s : Shared} {a : Addr} {xe : Value → Shared → Prop}
theorem Cx.Ok.inH (ok : X.Ok) (a : Addr) : (X.inH a).Ok :=
  ⟨ok.mod, ok.kind, ok.glob, ok.blt, ok.above, ok.inj, ok.has, ok.cab, (fun h => nomatch h), ok.frames, ok.stk, ok.exf, ok.bs, ok.bsz, ok.noex, ok.exfs, ok.funs, ok.frf⟩
theorem Inv.inH (I : Inv X pins σ H s) (a : Addr) : Inv (X.inH a) pins σ H s := ⟨I.ok.inH a, I.os, I.bare, I.base, I.loc, I.cell, I.free, I.freeC, I.pin, I.hok, I.len⟩
theorem Inv.ofH (I : Inv (X.inH a) pins σ H s) (ok : X.Ok) : Inv X pins σ H s := ⟨ok, I.os, I.bare, I.base, I.loc, I.cell, I.free, I.freeC, I.pin, I.hok, I.len⟩
theorem Inv.inT (I : Inv X pins σ H s) (xe : Value → Shared → Prop) : Inv (X.inT (X.pn ++ pins) xe) [] σ H s :=
  ⟨⟨I.ok.mod, I.ok.kind, I.ok.glob, I.ok.blt, I.ok.above, I.ok.inj, I.ok.has, I.ok.cab, I.ok.hd, I.ok.frames, I.ok.stk, I.ok.exf, I.ok.bs, I.ok.bsz, I.ok.noex, I.ok.exfs, I.ok.funs, I.ok.frf⟩,
    I.os, I.bare, I.base, I.loc, I.cell, I.free, I.freeC, fun p hp => I.pin p (by simpa using hp), I.hok, I.len⟩
theorem Inv.ofT {more : List (Addr × Obj)} (I : Inv (X.inT (X.pn ++ pins) xe) more σ H s) : Inv X pins σ H s :=
  ⟨⟨I.ok.mod, I.ok.kind, I.ok.glob, I.ok.blt, I.ok.above, I.ok.inj, I.ok.has, I.ok.cab, I.ok.hd, I.ok.frames, I.ok.stk, I.ok.exf, I.ok.bs, I.ok.bsz, I.ok.noex, I.ok.exfs, I.ok.funs, I.ok.frf⟩,
    I.os, I.bare, I.base, I.loc, I.cell, I.free, I.freeC, fun p hp => I.pin p (List.mem_append_left _ hp), I.hok, I.len⟩
theorem SP.ofT {D : Ends} {f : Flow} {s' : Shared} (h : SP (X.inT (X.pn ++ pins) xe) [] D f s') : SP X pins D f s' := by
  cases f with
  | next => obtain ⟨σ', H', I, q⟩ := h; exact ⟨σ', H', I.ofT, q⟩
  | brk => obtain ⟨σ', H', I, q⟩ := h; exact ⟨σ', H', I.ofT, q⟩
  | cont => obtain ⟨σ', H', I, q⟩ := h; exact ⟨σ', H', I.ofT, q⟩
  | ret u => obtain ⟨v, σ', H', I, r, q⟩ := h; exact ⟨v, σ', H', I.ofT, r, q⟩
theorem Inv.gone {n : Str} {i : Nat} {m : Str → Option Value} {v : Option Value} {h' : Heap} {tk : Nat} (I : Inv X pins σ H s) (hN : X.N.Nodup) (hi : X.N[i]? = some n) (hl : X.env.kindOf n = some .local)
    (hm : ∀ (i : Nat) (x : Str) (v : V), X.N[i]? = some x → σ[i]? = some (some v) → Vis X.env.scope x → ∃ u, RelV v u ∧ Look X.env s.heap m x u)
    (hn : h'.Ns X.env.locals (fun x => if x = n then v else m x)) (hs : Heap.SameBut X.env.locals s.heap h') : Inv X pins (σ.set i none) H { s with heap := h', toks := tk } := by
  have neL : ∀ b o, X.s₀.heap.get? b = some o → b ≠ X.env.locals := fun b o e => Nat.ne_of_lt (Nat.lt_of_lt_of_le (Heap.lt_size e) I.ok.above)
  have kp : ∀ b o, b ≠ X.env.locals → s.heap.get? b = some o → h'.get? b = some o := fun b o hb e => (hs.2 b hb).trans e
  refine ⟨I.ok, I.os, I.bare, ⟨fun b o e n' hb hx => ?_, fun b o e n' hb hx => ?_, I.base.free, fun b o e hx => ?_, I.base.tups, I.base.frzs, I.base.tbls⟩, ⟨_, hn, fun j y w e1 e2 e3 => ?_⟩, fun y c e => ?_, I.free, I.freeC, fun p hp => ?_, fun b u e => ?_, by simpa using I.len⟩
  · exact kp b o (neL b o e) (I.base.keep b o e n' hb hx)
  · obtain ⟨sl, e1⟩ := I.base.slot b o e n' hb hx
    exact ⟨sl, kp b _ (neL b o e) e1⟩
  · obtain ⟨o', e1⟩ := I.base.there b o e hx
    exact ⟨o', kp b _ (neL b o e) e1⟩
  · have hj : j ≠ i := by
      intro q
      subst q
      rw [List.getElem?_set] at e2
      simp at e2
    rw [List.getElem?_set_ne (Ne.symm hj)] at e2
    obtain ⟨u, r, l⟩ := hm j y w e1 e2 e3
    have hyn : y ≠ n := fun q => hj (nodup_ix hN e1 (q ▸ hi))
    refine ⟨u, r, ?_⟩
    rcases l with ⟨k, z⟩ | ⟨k, c, e, z⟩
    · exact .inl ⟨k, by show (if y = n then v else m y) = _; rw [if_neg hyn]; exact z⟩
    · obtain ⟨oc, ho, hd⟩ := z
      exact .inr ⟨k, c, e, oc, kp c oc (I.cne y c e) ho, hd⟩
  · obtain ⟨w, oc, ho, hd⟩ := I.cell y c e
    exact ⟨w, oc, kp c oc (I.cne y c e) ho, hd⟩
  · obtain ⟨e, n', ne, nf, d⟩ := I.pin p hp
    exact ⟨kp p.1 p.2 ne e, n', ne, nf, d⟩
  · refine (I.hok b u e).stay (fun c w hc q => kp c w (fun z => ?_) q) (fun _ q => q) fun _ _ q => q
    have fr := I.free
    rw [← z] at fr
    rcases hc with rfl | hc
    · rw [fr] at e; cases e
    · rw [fr] at hc; cases hc
theorem Inv.past {h' : Heap} {no : List Addr} {s1 : Shared} {σ1 : St} {H1 : Hp} (I : Inv X pins σ H s) (I1 : Inv X pins σ1 H1 s1) (hex : X.ex = []) (p : Past X.stack no s.heap h') (hn : ∀ b ∈ no, H b = none) (hn1 : ∀ b ∈ no, s1.heap.get? b = none) : Inv X pins σ H { s with heap := h' } := by
  have any : ∀ b o, s.heap.get? b = some o → b ∉ no → ∃ sl, h'.get? b = some { o with slots := sl } := fun b o e hb => by
    by_cases z : b ∈ frs X.stack
    · exact p.slot b o e z
    · exact ⟨o.slots, p.keep b o e z hb⟩
  have neL : ∀ b o, X.s₀.heap.get? b = some o → b ≠ X.env.locals := fun b o e => Nat.ne_of_lt (Nat.lt_of_lt_of_le (Heap.lt_size e) I.ok.above)
  have was : ∀ b o, s1.heap.get? b = some o → b ∉ no := fun b o e z => by rw [hn1 b z] at e; cases e
  have nno : ∀ b o, X.s₀.heap.get? b = some o → b ∉ no := fun b o e => by
    obtain ⟨o', e1⟩ := I1.base.there b o e (by rw [hex]; simp)
    exact was b o' e1
  have sub : ∀ b, b ∈ frs X.stack → b ≠ X.env.locals → b ∈ X.fs := fun b hb ne => (List.mem_cons.mp (I.stkSub b hb)).resolve_left ne
  have cno : ∀ x c, X.env.cells.lookup x = some c → c ∉ no := fun x c e => by
    obtain ⟨_, o, ho, _⟩ := I1.cell x c e
    exact was c o ho
  have cellK : ∀ x c, X.env.cells.lookup x = some c → ∀ v, s.heap.IsCell c v → h'.IsCell c v := fun x c e v ⟨o, ho, hd⟩ => by
    obtain ⟨sl, q⟩ := any c o ho (cno x c e)
    exact ⟨_, q, hd⟩
  refine ⟨I.ok, I.os, I.bare, ⟨fun b o e n' hb hx => ?_, fun b o e n' hb hx => ?_, I.base.free, fun b o e hx => ?_, I.base.tups, I.base.frzs, I.base.tbls⟩, ?_, fun y c e => ?_, I.free, I.freeC, fun q hq => ?_, I.hok.past p I.stkFree hn, I.len⟩
  · exact p.keep b o (I.base.keep b o e n' hb hx) (fun z => hb (sub b z (neL b o e))) (nno b o e)
  · obtain ⟨sl, e1⟩ := I.base.slot b o e n' hb hx
    obtain ⟨sl', e2⟩ := any b _ e1 (nno b o e)
    exact ⟨sl', e2⟩
  · obtain ⟨o', e1⟩ := I.base.there b o e hx
    obtain ⟨sl', e2⟩ := any b _ e1 (nno b o e)
    exact ⟨_, e2⟩
  · obtain ⟨m, ⟨o, es, ep, ho, r⟩, hm⟩ := I.loc
    obtain ⟨_, ⟨o1, _, _, ho1, _⟩, _⟩ := I1.loc
    obtain ⟨sl, e2⟩ := any _ o ho (was _ o1 ho1)
    refine ⟨m, ⟨_, es, ep, e2, r⟩, fun j y w e1 e2 e3 => ?_⟩
    obtain ⟨u, r, l⟩ := hm j y w e1 e2 e3
    refine ⟨u, r, ?_⟩
    rcases l with l | ⟨k, c, e, z⟩
    · exact .inl l
    · exact .inr ⟨k, c, e, cellK y c e _ z⟩
  · obtain ⟨w, z⟩ := I.cell y c e
    exact ⟨w, cellK y c e w z⟩
  · obtain ⟨e, n', ne, nf, d⟩ := I.pin q hq
    obtain ⟨e1, _⟩ := I1.pin q hq
    exact ⟨p.keep q.1 q.2 e (fun z => nf (sub _ z ne)) (was _ _ e1), n', ne, nf, d⟩
theorem Inv.caught {cls : Value} {s1 : Shared} {σ1 : St} {H1 : Hp} (I : Inv X pins σ H s) (I1 : Inv X pins σ1 H1 s1) (hex : X.ex = []) (ha : H a = none) (n1 : s1.heap.get? a = none) (ex : ∃ oe vs, s.heap.get? a = some oe ∧ oe.cls = cls ∧ oe.data = .fields vs) : Inv X pins σ (upd H a (excO a cls)) s := by
  have ne : ∀ b o, s1.heap.get? b = some o → b ≠ a := fun b o e z => by rw [z, n1] at e; cases e
  have ne0 : ∀ b o, X.s₀.heap.get? b = some o → b ≠ a := fun b o e => by
    obtain ⟨o', e1⟩ := I1.base.there b o e (by rw [hex]; simp)
    exact ne b o' e1
  have neH : ∀ b u, H b = some u → b ≠ a := fun b u e z => by rw [z, ha] at e; cases e
  refine ⟨I.ok, I.os, I.bare, ⟨I.base.keep, I.base.slot, fun b o e n' hx => ?_, I.base.there, fun b xs e => ?_, fun b o xs e => ?_, fun b ps e => ?_⟩, I.loc, I.cell, ?_, fun y c e => ?_, fun q hq => ?_, fun b u e => ?_, I.len⟩
  · rw [upd_ne (ne0 b o e)]; exact I.base.free b o e n' hx
  · rw [upd_ne (neH b _ (I.base.tups b xs e))]; exact I.base.tups b xs e
  · rw [upd_ne (neH b _ (I.base.frzs b o xs e))]; exact I.base.frzs b o xs e
  · obtain ⟨more, e1⟩ := I.base.tbls b ps e
    exact ⟨more, by rw [upd_ne (neH b _ e1)]; exact e1⟩
  · obtain ⟨_, ⟨o1, _, _, ho1, _⟩, _⟩ := I1.loc
    rw [upd_ne (ne _ o1 ho1)]; exact I.free
  · obtain ⟨_, o, ho, _⟩ := I1.cell y c e
    rw [upd_ne (ne c o ho)]; exact I.freeC y c e
  · obtain ⟨e1, _⟩ := I1.pin q hq
    obtain ⟨p1, p2, p3⟩ := I.pin q hq
    exact ⟨p1, by rw [upd_ne (ne _ _ e1)]; exact p2, p3⟩
  · by_cases hb : b = a
    · subst hb
      rw [upd_same] at e
      cases e
      obtain ⟨oe, vs, x1, x2, x3⟩ := ex
      exact ⟨⟨oe, vs, x1, x2, x3⟩, ⟨oe, x1⟩, fun h1 h2 ⟨o1, v1, y1, y2, y3⟩ k => ⟨o1, v1, k o1 y1, y2, y3⟩⟩
    · rw [upd_ne hb] at e
      exact (I.hok b u e).stay (fun c v _ q => q) (fun c q => by rw [upd_ne (neH c _ q)]; exact q) fun c xs q => by rw [upd_ne (neH c _ q)]; exact q
end
def PassAt (CX : CXT) (X : Cx) (E : XK) (σ : St) : Prop := ∀ (pins : List (Addr × Obj)) (H : Hp) (s : Shared) (e : Value) (s' : Shared), Inv X pins σ H s → CX X.stack H s E e s' → X.xe e s'
def tTry (tb : XK → St → TS) (th : Value → Addr → TS) : TS := fun D σ H => tb (fun cls _ H' => ∀ a, H' a = none → th cls a D σ (upd H' a (excO a cls))) σ D σ H
def tHandAs (K : PySem.W.Frag) (C : Addr) (i : Nat) (t : TS) : Value → Addr → TS := fun cls a D σ H => PySem.W.exmOne K cls (.ref C) = some true ∧
  t { nx := fun σ' H' => D.nx (σ'.set i none) H', rt := D.rt, bk := fun σ' H' => D.bk (σ'.set i none) H', ct := fun σ' H' => D.ct (σ'.set i none) H' } (σ.set i (some (.ref a))) H
section
variable {X : Cx} {body : List Stmt} {x n : Str} {b0 : Stmt} {suite : List Stmt} {pos hpos np : Pos} {C : Addr} {tb : XK → St → TS} {t : TS} {i : Nat}
theorem caught_at {pins : List (Addr × Obj)} {σ : St} {H1 : Hp} {s1 s' : Shared} {e : Value} {E' : XK} {Q : Flow → Shared → Prop} {h0 : ExceptHandler} {E : Value → Shared → Prop}
    (hst : X.stack = X.env :: X.outer) (hfr : X.env.frame = some X.env.locals) (hex : X.ex = []) (I1 : Inv X pins σ H1 s1) (hcx : CX1 X.prog X.w X.stack H1 s1 E' e s')
    (k : ∀ a T cls H' h2, e = .ref a → H' a = none → H' T = none → s1.heap.get? a = none → s1.heap.get? T = none → E' cls none H' → Trc h2 a T cls → Inv X pins σ H' { s' with heap := h2 } → wpAny (model X.prog X.w) X.A (handleBy e X.env [h0]) Q E { s' with heap := h2 }) :
    wpAny (model X.prog X.w) X.A (noteFrame e X.env) (fun _ s₂ => wpAny (model X.prog X.w) X.A (setFlight e none) (fun _ s₃ => wpAny (model X.prog X.w) X.A (handleBy e X.env [h0]) Q E s₃) E s₂) E s' := by
  obtain ⟨a, T, cls, H', rfl, os, bare, un, hok, fa, fT, na, nT, tr, hE⟩ := hcx
  obtain ⟨hh, g, d, tk, os'⟩ := s'
  obtain rfl : os' = s1.os := os
  have I' : Inv X pins σ H' { s1 with heap := hh, gens := g, drawn := d, toks := tk } := I1.call (h' := hh) (g' := g) (d' := d) (t' := tk) (ch := []) un hok bare (fun b z => absurd z (by simp))
  have fr := I'.ok.frames
  have hl := I'.stack
  rw [hst] at fr hl
  obtain ⟨oe, vs, oT, ts, a0, e1, e2, e0, e3, e4, e6, e7, e8, e9⟩ := tr
  have hl' : hh.FunFrames (PySem.W.hideAll hh ([a, T] ++ frs (X.env :: X.outer))) (X.env :: X.outer) := PySem.W.funFrames_hide hl fun e he b hb => List.mem_append_right _ (frs_in e he b hb)
  refine wpAny_noteFrame_onW (a0 := a0) (base := PySem.W.hideAll hh ([a, T] ++ frs (X.env :: X.outer))) fr hl' hfr
    ⟨oe, vs, T, oT, ts, e1, ⟨e2, e0⟩, e3, e4, PySem.W.hideAll_none _ (by simp), e6, e7, e8, e9⟩ (fun b o q => PySem.W.of_hideAll _ q) (PySem.W.hideAll_none _ (by simp)) fun h1 hN => ?_
  obtain ⟨n1, n2, n3, n4⟩ := hN
  refine wpAny_setFlight_noneW n1 n2 n3 fun h2 m1 m2 m3 m4 => ?_
  have hL : Heap.LeftW (PySem.W.hideAll hh ([a, T] ++ frs (X.env :: X.outer))) (X.env :: X.outer) a cls a0 hh h2 := ⟨m1, m2, m3, fun b o hb hnf => by
    obtain ⟨sl, q⟩ := n4 b o hb hnf
    exact ⟨sl, m4 b _ q hnf⟩⟩
  obtain ⟨T', t', n'⟩ := trc_left hl hL
  have P := past_left hl hL
  rw [← hst] at P
  have both : ∀ b ∈ [a, T], H' b = none ∧ s1.heap.get? b = none := fun b hb => by
    have : b = a ∨ b = T := by simpa using hb
    rcases this with rfl | rfl
    · exact ⟨fa, na⟩
    · exact ⟨fT, nT⟩
  have I2 := I'.past I1 hex P (fun b hb => (both b hb).1) (fun b hb => (both b hb).2)
  have hT' : H' T' = none ∧ s1.heap.get? T' = none := by
    rcases n' with n' | n'
    · exact both T' n'
    · refine ⟨I'.hok.none_of n', ?_⟩
      cases q : s1.heap.get? T' with
      | none => rfl
      | some o =>
        obtain ⟨o', z⟩ := un.there T' o q (by simp)
        rw [show hh.get? T' = none from n'] at z
        cases z
  exact k a T' cls H' h2 rfl fa hT'.1 na hT'.2 hE t' I2
theorem land_at {pins : List (Addr × Obj)} {σ : St} {H1 H' : Hp} {s1 s' : Shared} {a T : Addr} {cls : Value} {Q : Unit → Shared → Prop} {E : Value → Shared → Prop} {A : Around}
    (hst : X.stack = X.env :: X.outer) (hex : X.ex = []) (I1 : Inv X pins σ H1 s1) (I : Inv X pins σ H' s') (fa : H' a = none) (fT : H' T = none) (na : s1.heap.get? a = none) (nT : s1.heap.get? T = none) (tr : Trc s'.heap a T cls)
    (k : ∀ h2, Inv X pins σ (upd H' a (excO a cls)) { s' with heap := h2 } → Q () { s' with heap := h2 }) : wpAny (model X.prog X.w) A (setFlight (.ref a) none) Q E s' := by
  have hl := I.stack
  rw [hst] at hl
  obtain ⟨oe, vs, oT, ts, a0, e1, e2, e0, e3, e4, e6, e7, e8, e9⟩ := tr
  have hl' : s'.heap.FunFrames (PySem.W.hideAll s'.heap ([a, T] ++ frs (X.env :: X.outer))) (X.env :: X.outer) := PySem.W.funFrames_hide hl fun e he b hb => List.mem_append_right _ (frs_in e he b hb)
  refine wpAny_setFlight_noneW (base := PySem.W.hideAll s'.heap ([a, T] ++ frs (X.env :: X.outer))) (a0 := a0) (fl := .none) (cls := cls) (fun b o q => PySem.W.of_hideAll _ q) hl' ⟨oe, vs, T, oT, ts, e1, ⟨e2, e0⟩, e3, e4, PySem.W.hideAll_none _ (by simp), e6, e7, e8, e9⟩ fun h2 m1 m2 m3 m4 => ?_
  have hL : Heap.LeftW (PySem.W.hideAll s'.heap ([a, T] ++ frs (X.env :: X.outer))) (X.env :: X.outer) a cls a0 s'.heap h2 := ⟨m1, m2, m3, fun b o hb hnf => ⟨o.slots, m4 b _ hb hnf⟩⟩
  have P := past_left hl hL
  rw [← hst] at P
  have both : ∀ b ∈ [a, T], H' b = none ∧ s1.heap.get? b = none := fun b hb => by
    have : b = a ∨ b = T := by simpa using hb
    rcases this with rfl | rfl
    · exact ⟨fa, na⟩
    · exact ⟨fT, nT⟩
  have I2 := I.past I1 hex P (fun b hb => (both b hb).1) (fun b hb => (both b hb).2)
  obtain ⟨ob, ws, _, _, _, x1, ⟨x2, _⟩, x3, _⟩ := m3
  exact k h2 (I2.caught I1 hex fa na ⟨ob, ws, x1, x2, x3⟩)
theorem ps_tryAs (hb : ∀ (pn : List (Addr × Obj)) (xe : Value → Shared → Prop) (E : XK) (σ : St), PassAt (CX1 X.prog X.w) (X.inT pn xe) E σ → PSs (X.inT pn xe) body (tb E σ)) (hm : X.mg x = some (.ref C)) (hg : Gl X x) (hi : X.N[i]? = some n) (hN : X.N.Nodup)
    (hl : X.env.kindOf n = some .local) (hs : ∀ a, PSs (X.inH a) (b0 :: suite) t) (hst : X.stack = X.env :: X.outer) (hfr : X.env.frame = some X.env.locals) (hex : X.ex = []) (hd : (x == ("__debug__" : Str)) = false := by decide) :
    PS X (.Try body [.ExceptHandler (some (.Name x np)) (some n) (b0 :: suite) hpos] [] [] pos) (tTry tb (tHandAs X.K C i t)) := by
  intro pins s σ H D I h
  refine wpAny_Try_except ?_
  refine wpAny_mono (hb (X.pn ++ pins) _ _ σ ?_ [] s σ H D (I.inT _) h) (fun f s1 hq => ?_) fun _ _ z => z
  · intro more H1 s1 e s' I1 hcx
    refine caught_at (h0 := .ExceptHandler (some (.Name x np)) (some n) (b0 :: suite) hpos) hst hfr hex I1.ofT hcx fun a T cls H' h2 ee fa fT na nT hE tr I2 => ?_
    subst ee
    obtain ⟨hx, hq⟩ := hE a fa
    refine wpAny_handleBy_cons (codeAny_handlers_test (ld_glob (I2.inH a) hg hm ?_ hd)) (by intro q; cases q)
    obtain ⟨oe, vs, _, _, _, e1, e2, _⟩ := id tr
    have LT : PySem.W.Looks (model X.prog X.w) h2 (typeOf (.ref a)) cls := e2 ▸ (PySem.W.Looks.ld e1).andThen .now
    refine (PySem.W.exm_one I2.kIn LT hx).here ?_
    refine codeAny_handlers_suite_as ?_
    refine land_at hst hex I1.ofT I2 fa fT na nT tr fun h3 I3 => ?_
    refine store_ok (X := X.inH a) (I3.inH a) hN hi (.inl hl) (show RelV (.ref a) (.ref a) from rfl) (fun s4 I4 => ?_) (.inr hl)
    refine wpAny_mono (hs a pins s4 _ _ _ I4 hq) (fun f s5 hf => ?_) fun _ _ z => z.elim
    have go : ∀ {σ' : St} {H5 : Hp}, Inv (X.inH a) pins σ' H5 s5 → (∀ s6, Inv X pins (σ'.set i none) H5 s6 → SP X pins D f s6) → wpAny (model X.prog X.w) X.A (do bindName X.env n .none; unbindBehindTheSuite X.env n hpos) (fun _ s₃ => SP X pins D f s₃) X.xe s5 := fun {σ' H5} I5 k => by
      obtain ⟨m, hn, hmm⟩ := I5.loc
      refine wpAny_nameGoes_keeps hl hn ?_ fun h6 v hn6 hs6 => k _ ((I5.ofH I.ok).gone hN hi hl hmm hn6 hs6)
      rw [I.ok.kind]
      rfl
    show wpAny (model X.prog X.w) X.A (do bindName X.env n .none; unbindBehindTheSuite X.env n hpos) (fun _ s₃ => SP X pins D f s₃) X.xe s5
    cases f with
    | next => obtain ⟨σ', H5, I5, q⟩ := hf; exact go I5 fun s6 I6 => ⟨_, H5, I6, q⟩
    | brk => obtain ⟨σ', H5, I5, q⟩ := hf; exact go I5 fun s6 I6 => ⟨_, H5, I6, q⟩
    | cont => obtain ⟨σ', H5, I5, q⟩ := hf; exact go I5 fun s6 I6 => ⟨_, H5, I6, q⟩
    | ret u => obtain ⟨v, σ', H5, I5, r, q⟩ := hf; exact go I5 fun s6 I6 => ⟨v, _, H5, I6, r, q⟩
  · have hq' := hq.ofT
    cases f with
    | next => exact wpAny_execs_nil hq'
    | brk => exact hq'
    | cont => exact hq'
    | ret u => exact hq'
end
end L2
namespace L2
open PySem PySem.Spec PyProof.Rows
structure Def1 (P : Program) (w : World) (K : PySem.W.Frag) (mg : Str → Option Value) (base : Heap) (x : Str) (k : Nat) (ps : List Str) (sp : Sp) : Prop where
  ex : ∃ f fd, FnOk P w K mg base (CX1 P w) k f fd ps sp ∧ mg x = some (.ref f) ∧ PySem.W.keepIn K (.ref f) = true ∧ Binds K fd ps []
theorem pcall1 {P : Program} {w : World} {K : PySem.W.Frag} {mg : Str → Option Value} {base : Heap} {N : List Str} {qual : Str} {scope : Scope} {f : Addr} {cd : Value} {A : Around} {outer : List Env} {s0 : Shared} {H0 : Hp} {E : XK}
    {x : Str} {k : Nat} {ps : List Str} {sp : Sp} {p pos : Pos} {e : Expr} {es : List Expr} {t : TA} (D : Def1 P w K mg base x k ps sp) (hr : Room k (cx1 P w K mg base N qual scope f cd A outer s0 H0 E).A) (ha : PA (cx1 P w K mg base N qual scope f cd A outer s0 H0 E) (e :: es) t)
    (hg : Gl (cx1 P w K mg base N qual scope f cd A outer s0 H0 E) x := by rfl) (hdb : (x == ("__debug__" : Str)) = false := by decide)
    (he : starEach (e :: es) (cx1 P w K mg base N qual scope f cd A outer s0 H0 E).env = (false, eval e (cx1 P w K mg base N qual scope f cd A outer s0 H0 E).env) :: starEach es (cx1 P w K mg base N qual scope f cd A outer s0 H0 E).env := by rfl)
    (hpl : (backTo pos (starEach es (cx1 P w K mg base N qual scope f cd A outer s0 H0 E).env)).any (·.1) = false := by rfl) : PE (cx1 P w K mg base N qual scope f cd A outer s0 H0 E) (.Call (.Name x p) (e :: es) [] pos) (tCall sp [] E t) := by
  obtain ⟨f, fd, F, m, kp, b⟩ := D.ex
  exact pe_call F hr hg m kp b .nil pass1 ha hdb he hpl
def tCallX (σ0 : St) (sp : Sp) (E : XK) (t : TA) : TE := fun σ H Q => σ = σ0 ∧ t σ H fun vs H1 => sp vs H1 Q E
theorem run_at {X : Cx} {k : Nat} {f : Addr} {fd : FuncData} {ps : List Str} {sp : Sp} {E : XK} {pins : List (Addr × Obj)} {σ : St} {H : Hp} {s : Shared} {Q : VK} {us : List Value} {vs : List V} (F : FnOk X.prog X.w X.K X.mg X.base (CX1 X.prog X.w) k f fd ps sp) (hr : Room k X.A) (hb : Binds X.K fd ps [])
    (hx : PassAt (CX1 X.prog X.w) X E σ) (I : Inv X pins σ H s) (r : Vals vs us) (h : sp vs H Q E) : wpAny (model X.prog X.w) X.A (call (.ref f) us) (EP X pins σ Q) X.xe s := by
  have hl : us.length = ps.length := by rw [← r.length]; exact F.len _ _ _ _ h
  have bd := hb s us I.kIn (by rw [List.append_nil]; exact hl)
  rw [List.append_nil] at bd
  refine wpAny_call (codeAny_mono (F.run X.A X.stack s H ⟨us, []⟩ us vs Q E hr I.env0 bd r h) fun res s' hq => ?_)
  match res, hq with
  | .error e, hq => exact hx pins H s e s' I hq
  | .ok (.ret u), hq => exact I.after hq
  | .ok .next, hq => exact False.elim hq
  | .ok .brk, hq => exact False.elim hq
  | .ok .cont, hq => exact False.elim hq
theorem pcallX {X : Cx} {x : Str} {k : Nat} {ps : List Str} {sp : Sp} {p pos : Pos} {e : Expr} {es : List Expr} {t : TA} {E : XK} {σ0 : St} (D : Def1 X.prog X.w X.K X.mg X.base x k ps sp) (hr : Room k X.A) (hx : PassAt (CX1 X.prog X.w) X E σ0) (ha : PA X (e :: es) t) (hg : Gl X x := by rfl) (hdb : (x == ("__debug__" : Str)) = false := by decide)
    (he : starEach (e :: es) X.env = (false, eval e X.env) :: starEach es X.env := by rfl) (hpl : (backTo pos (starEach es X.env)).any (·.1) = false := by rfl) : PE X (.Call (.Name x p) (e :: es) [] pos) (tCallX σ0 sp E t) := by
  obtain ⟨f, fd, F, m, kp, b⟩ := D.ex
  intro pins s σ H Q I ⟨hσ, h⟩
  subst hσ
  refine wpAny_Call_Name_kw (ld_glob I hg m ?_ hdb)
  refine PySem.W.callWith_K (h₀ := X.base) I.ok.mod.kin kp (thn (ha pos pins s σ H _ I h) fun us s1 ⟨vs, H1, I1, r, q⟩ => ⟨I1.kIn, ?_⟩) he hpl
  exact run_at F hr b hx I1 r q
structure ExK (K : PySem.W.Frag) (C : Addr) : Prop where
  ga : PySem.W.findIn K (.ref C) "__getattribute__" = some (some (.builtin "BaseException.__getattribute__"))
  gt : PySem.W.findIn K (.ref C) "__getattr__" = some none
  cl : PySem.W.findIn K (.ref C) "__class__" = some (some (.builtin "object.__class__"))
  gs : PySem.W.specialIn K (.builtin "object.__class__") "__get__" = some (some (.builtin "getset_descriptor.__get__"))
  tk : PySem.W.takesIn K (.builtin "object.__class__") = some true
  mo : PySem.W.mroIn K C (.type "object") = some true
  mb : PySem.W.mroIn K C (.type "BaseException") = some true
section
variable {K : PySem.W.Frag} {C : Addr}
def ExAt (a C : Addr) (h : Heap) : Prop := ∃ o vs, h.get? a = some o ∧ o.cls = .ref C ∧ o.data = .fields vs
theorem ex_type {M : Model} {a : Addr} {h : Heap} (p : ExAt a C h) : PySem.W.Looks M h (typeOf (.ref a)) (.ref C) := by
  obtain ⟨o, vs, h1, h2, _⟩ := p
  exact h2 ▸ (PySem.W.Looks.ld h1).andThen .now
open PySem.W in
theorem ex_class {prog : Program} {w : World} {A : Around} {E : Value → Shared → Prop} {Q : Option Value → Shared → Prop} {s : Shared} {a : Addr} (k : ExK K C) (X : K.In s.heap) (p : ExAt a C s.heap) (h : Q (some (.ref C)) { s with toks := s.toks + 1 }) :
    wpAny (model prog w) A (getAttr? (.ref a) "__class__") Q E s := by
  obtain ⟨hh, g, d, t, os⟩ := s
  have L0 := ex_type (M := model prog w) p
  have L1 := looks_findIn (M := model prog w) X k.ga
  have L2 := looks_findIn (M := model prog w) X k.gt
  have L3 := looks_findIn (M := model prog w) X k.cl
  have L4 := looks_specialIn (M := model prog w) X k.gs
  have L5 := looks_takesIn (M := model prog w) X k.tk
  have L6 := looks_mroIn (M := model prog w) X k.mo
  have L7 := looks_mroIn (M := model prog w) X k.mb
  unfold getAttr? getAttrBy? getAttrBy
  refine wpAny_bind (wpAny_mkText (wpAny_bind (wpAny_attempt (wpAny_holding (wpAny_bind (L0.at (wpAny_bind (L1.at ?_))))))))
  show wpAny _ _ (getAttrByItsOwn _ _ _ _ _ _) _ _ _
  unfold getAttrByItsOwn hookBefore callGetattribute
  have fb := PySem.F.excAttr_ValueError.ga.bind (.ref a)
  refine wpAny_bind ?_
  rw [if_pos (show onTheHeap (Value.ref C) = true from rfl)]
  refine L2.at (wpAny_bind (wpAny_attempt (wpAny_holding ?_)))
  rw [if_neg (by decide)]
  unfold boundAndCalled
  refine wpAny_bind (wpAny_of_eq fb ?_)
  refine wpAny_call (codeAny_call_builtin PySem.F.excAttr_ValueError.ga.plain PySem.F.entry_bexc_ga ?_)
  have kindGa : builtinKind "BaseException.__getattribute__" = some .slot := by decide +kernel
  have splitGa : splitId "BaseException.__getattribute__" = some ("BaseException", "__getattribute__") := by decide +kernel
  have argsGa := PySem.F.args_bexc_ga (.ref a) (.str "__class__" t)
  have LI : Looks (model prog w) hh (isInstance (.ref a) (.type "BaseException")) true := L0.andThen L7
  simp only [kindGa, splitGa, checkBuiltinCall]
  refine wpAny_bind (LI.at ?_)
  simp only [Bool.not_true, Bool.false_eq_true, if_false]
  refine wpAny_of_eq argsGa ?_
  have LD : Looks (model prog w) hh (Builtin.ObjectAttr.dataDescriptor? (some (.builtin "object.__class__")) (some (.builtin "getset_descriptor.__get__"))) (some (.builtin "getset_descriptor.__get__", .builtin "object.__class__")) := L5.andThen .now
  have LF : Looks (model prog w) hh (Builtin.ObjectAttr.find (.ref a) (.ref C) "__class__") (.bind (.builtin "getset_descriptor.__get__") (.builtin "object.__class__")) := L3.andThen (L4.andThen (LD.andThen (Looks.tag .now)))
  unfold Builtin.«object.__getattribute__»
  refine wpAny_bind (wpAny_pure ?_)
  refine wpAny_bind (wpAny_pure ?_)
  refine wpAny_bind (L0.at (wpAny_bind (LF.at ?_)))
  show wpAny _ _ (call (.builtin "getset_descriptor.__get__") [.builtin "object.__class__", .ref a, .ref C] >>= ret) _ _ _
  refine wpAny_bind (wpAny_call ?_)
  refine codeAny_call_builtin KF.slot_gs.plain KF.entry_gs (KF.slot_gs.check _ _ _ _ _ _ _ _ KF.type_class (KF.args_gs _ _ _) ?_)
  unfold PySem.Builtin.«getset_descriptor.__get__»
  unfold PySem.Builtin.Getset_descriptor.descrGet
  rw [dga_obj]
  refine wpAny_bind (wpAny_pure ?_)
  unfold PySem.Builtin.Getset_descriptor.descrGetter
  unfold PySem.Builtin.Getset_descriptor.descrCheckInstance
  unfold PySem.Builtin.Getset_descriptor.descrNameAndClass
  unfold isInstance
  simp only [KF.owner_class]
  (repeat lk)
  refine ⟨Code.quiet_builtin _ (by decide +kernel), codeAny_builtin KF.entry_class ?_⟩
  unfold PySem.Builtin.«object.__class__»
  unfold shownTypeOf
  (repeat lk)
  exact h
theorem ex_cls (k : ExK K C) : ∃ c d cd sl, K.lookup C = some ⟨c, d, .cls cd, sl⟩ := by
  have m := k.mo
  unfold PySem.W.mroIn PySem.W.clsIn at m
  cases q : K.lookup C with
  | none => rw [q] at m; cases m
  | some o =>
    obtain ⟨c, d, dt, sl⟩ := o
    cases dt with
    | cls cd => exact ⟨c, d, cd, sl, rfl⟩
    | _ => rw [q] at m; cases m
theorem kitx_ex {a : Addr} (k : ExK K C) : PySem.W.KitX K (.ref a) (.ref C) (ExAt a C) where
  ty := fun _ _ _ p => ex_type p
  it := fun _ _ X _ => by
    obtain ⟨c, d, cd, sl, ho⟩ := ex_cls k
    intro A' Q' E' s' kk q
    unfold isType loadHead
    exact wpAny_bind (wpAny_loadPart (kk _ _ (X _ _ ho)) (wpAny_pure q))
  ne := fun h tp dd its n sl' X htp => by
    obtain ⟨c, d, cd, sl, ho⟩ := ex_cls k
    refine Bool.eq_false_iff.mpr fun q => ?_
    cases Value.ref.inj (beq_iff_eq.mp q)
    cases (X _ _ ho).symm.trans htp
  ca := fun X p q => ex_class k X p q
end
def clsV : V → Value
  | .ref D => .ref D
  | .ty T => .type T
  | _ => .none
theorem clsV_of {v : V} {u : Value} (r : RelV v u) (h : clsV v ≠ .none) : u = clsV v := by
  cases v <;> first | exact r | exact absurd rfl h
theorem clsV_all : ∀ {cs : List V} {us : List Value}, Vals cs us → (∀ c ∈ cs, clsV c ≠ .none) → us = cs.map clsV
  | _, _, .nil, _ => rfl
  | _, _, .cons r t, h => by rw [clsV_of r (h _ (by simp)), clsV_all t fun c hc => h c (by simp [hc])]; rfl
section
variable {X : Cx}
def rIsx (K : PySem.W.Frag) (xs : List V) (H : Hp) (Q : VK) : Prop := ∃ a C c b, xs = [.ref a, c] ∧ H a = some (excO a (.ref C)) ∧ ExK K C ∧
    ((clsV c ≠ .none ∧ PySem.W.kitOne K (.ref C) (clsV c) = some b) ∨ ∃ t cs, c = .ref t ∧ SqT K H t cs ∧ (∀ c ∈ cs, clsV c ≠ .none) ∧ PySem.W.kitAny K (.ref C) (cs.map clsV) = some b) ∧ Q (.bl b) H
theorem call_isx : CallR X (.builtin "isinstance") (rIsx X.K) := by
  intro pins s σ H xs us Q I r h
  obtain ⟨a, C, c, b, rfl, hH, k, hc, q⟩ := h
  obtain ⟨u, w', rfl, ru, rw'⟩ := vals2 r
  cases ru
  have at_ : ExAt a C s.heap := by
    obtain ⟨⟨oe, vs, x1, x2, x3⟩, _⟩ := I.hok a _ hH
    exact ⟨oe, vs, x1, x2, x3⟩
  have fin : ∀ tk, EP X pins σ Q (.bool b) { s with toks := tk } := fun tk => ⟨.bl _, H, I.tok _, rfl, q⟩
  rcases hc with ⟨h1, h2⟩ | ⟨t, cs, rfl, h1, h2, h3⟩
  · rw [clsV_of rw' h1]
    exact PySem.W.kia_one (kitx_ex k) I.kIn at_ h2 (by intro z; cases z) fin
  · cases rw'
    obtain ⟨its, rv, ⟨⟨oc, od, dt, sl⟩, e, c', n, dd⟩, hz⟩ := I.tuple h1
    rw [clsV_all rv h2] at dd
    have c2 : oc = .type "tuple" := c'
    have d2 : dt = .seq (cs.map clsV).toArray n := dd
    subst c2; subst d2
    exact PySem.W.kia_tup (kitx_ex k) I.kIn at_ e h3 (by intro z; cases z) fin
end
end L2
namespace Ink
open PySem L2
structure NearTo (rs N : Rs) (i : Nat) : Prop where
  len : N.length = i
  row : ∀ (j : Nat) (r D : List Int), rs[j]? = some r → N[j]? = some D → D.Pairwise (· < ·) ∧ ∀ z, z ∈ D ↔ ∃ e ∈ r, z = ptI rs (acr e)
abbrev NearOf (rs N : Rs) : Prop := NearTo rs N rs.length
def NoLoop (N : Rs) : Prop := ∀ (i : Nat) (D : List Int), N[i]? = some D → (i : Int) ∉ D
theorem NearTo.snoc {rs N : Rs} {i : Nat} {r D : List Int} (h : NearTo rs N i) (hr : rs[i]? = some r) (up : D.Pairwise (· < ·)) (hm : ∀ z, z ∈ D ↔ ∃ e ∈ r, z = ptI rs (acr e)) : NearTo rs (N ++ [D]) (i + 1) := by
  refine ⟨by rw [List.length_append, h.len]; rfl, fun j q E e1 e2 => ?_⟩
  by_cases hj : j < N.length
  · rw [List.getElem?_append_left hj] at e2
    exact h.row j q E e1 e2
  · have hj' := (List.getElem?_eq_some_iff.mp e2).1
    rw [List.length_append] at hj'
    have hji : j = i := by have : [D].length = 1 := rfl; have := h.len; omega
    subst hji
    rw [List.getElem?_append_right (by have := h.len; omega), h.len, Nat.sub_self] at e2
    cases e2
    rw [hr] at e1
    cases e1
    exact ⟨up, hm⟩
def spPtsAcross : Sp := fun vs H Q _ => ∃ (d q : Addr) (rs : Rs) (n : Nat) (r : List Int), vs = [.ref d, .ref q] ∧ TabOf H d (ptI rs) n ∧ H q = some (.lst (r.map V.int)) ∧ r.length < 64 ∧ n % 2 = 0 ∧ (∀ e ∈ r, 0 ≤ e ∧ e < (n : Int)) ∧
  ∀ (l : Addr) (D : List Int) (H' : Hp), H l = none → D.Pairwise (· < ·) → (∀ z, z ∈ D ↔ ∃ e ∈ r, z = ptI rs (acr e)) → H' l = some (.lst (D.map V.int)) → Same H H' → Q (.ref l) H'
def spNear (CN : Addr) : Sp := fun vs H Q E => ∃ (p : Addr) (ps : List Addr) (rs : Rs) (n : Nat), vs = [.ref p] ∧ Rows H p ps rs ∧ Dr rs n ∧ n < 64 ∧ rs.length < 64 ∧
  (∀ N, NearOf rs N → NoLoop N → ∀ (p' : Addr) (ps' : List Addr) (H' : Hp), Rows H' p' ps' N → Same H H' → H p' = none → (∀ q ∈ ps', H q = none) → Q (.ref p') H') ∧
  (∀ N, NearOf rs N → ¬ NoLoop N → ∀ (H' : Hp), Same H H' → E (.ref CN) none H')
def spAmongP : Sp := fun vs H Q _ => ∃ (a b : Addr) (x y : List Int), vs = [.ref a, .ref b] ∧ H a = some (.lst (x.map V.int)) ∧ H b = some (.lst (y.map V.int)) ∧ x.length ≤ 1000 ∧ ∀ H', Same H H' → Q (.int (((x.filter fun o => decide (o ∈ y)).length : Nat) : Int)) H'
section
variable {P : Program} {w : World} {K : PySem.W.Frag} {mg : Str → Option Value} {base : Heap}
theorem scPtsAcross : FnScope ["point_of", "ends"] ["point_of", "ends"] (defScope sPtsAcross) := ⟨rfl, rfl, rfl, by decide +kernel, rfl, by decide +kernel, by decide +kernel⟩
theorem ok_ptsAcross {f : Addr} {fd : FuncData} (F : Fun K "points_across" "points_across" sPtsAcross f fd) (T : Txt mg) (T3 : Txt3 mg) (DA : Def P w K mg base "across" 1 ["end"] spAcross) : FnOk P w K mg base CX0 2 f fd ["point_of", "ends"] spPtsAcross := by
  refine F.ok scPtsAcross (fun vs H Q E h => ?_) (fun cdv A outer s H vs Q E hr1 h => ?_)
  · obtain ⟨d, q, rs, n, r, rfl, _⟩ := h
    rfl
  · obtain ⟨d, q, rs, n, r, rfl, TB, hq, hl, hev, hin, k⟩ := h
    have hs : sizeLine = 16777216 := sizeLine_eq
    have nd := scPtsAcross.nd
    have hu1 := hu_of hr1
    refine ⟨_, pss_one (ps_ret (pe_sortSet rfl (by rfl) T.sorted (by rfl) T3.set (pa_cons (pe_compC (te := _) rfl (Blk.captN (caps := [0]) ["point_of", "ends"] (defScope sPtsAcross).names rfl rfl rfl (by decide +kernel) (by decide +kernel) (by decide +kernel)) (pi_list (pv 1)) (fun _ _ _ _ => pts_nil) (fun _ _ _ _ => (pe_dget hu1 (pv 1) (pcall DA hr1 (pa_cons (pv 0) pa_nil)) (fun _ _ => rfl)))) pa_nil))), ?_⟩
    refine ⟨_, rfl, q, rfl, ⟨_, .of hq⟩, fun D hD => comp_list (xs := r.map V.int) (fun i H2 => Same H H2 ∧ H2 D = some (.lst (((r.take i).map fun e => ptI rs (acr e)).map V.int))) ⟨(Same.refl H).put hD, upd_same⟩ (fun i H2 _ ⟨s2, _⟩ => .of (s2 _ _ hq)) ?_ ?_⟩
    · rintro i y H2 hi ⟨s2, gD⟩
      obtain ⟨e, he, rfl⟩ := int_of hi
      have heb := hin e (List.mem_of_getElem? he)
      have hab := acr_lt hev heb.1 heb.2
      refine yes_go ⟨_, rfl, _, rfl, e, rfl, d, _, rfl, (TB.same s2).get hab, ?_⟩
      refine ⟨_, gD, by rw [List.length_map, List.length_map, List.length_take]; omega, s2.put hD, ?_⟩
      rw [upd_same, take_at he, List.map_append, List.map_append]
      rfl
    · rintro H2 ⟨s2, gD⟩
      rw [List.length_map, List.take_length] at gD
      refine ⟨D, r.map fun e => ptI rs (acr e), rfl, .of gD, by rw [List.length_map]; omega, fun l D2 hl2 up hm => ?_⟩
      refine k l D2 _ (s2.free hl2) up (fun z => ?_) upd_same (s2.put (s2.free hl2))
      rw [hm, List.mem_map]
      exact ⟨fun ⟨e, h1, h2⟩ => ⟨e, h1, h2.symm⟩, fun ⟨e, h1, h2⟩ => ⟨e, h1, h2.symm⟩⟩
theorem scNear : FnScope ["rounds", "point_of", "near", "point", "others"] ["rounds"] (defScope sNear) := ⟨rfl, rfl, rfl, by decide +kernel, rfl, by decide +kernel, by decide +kernel⟩
theorem ok_near {f CN : Addr} {fd : FuncData} (F : Fun K "all_neighbours" "all_neighbours" sNear f fd) (T : Txt mg) (O : ExcC K mg "NoColours" CN) (DR : Def P w K mg base "refuse_no_drawing" 3 ["rounds"] spRefuse) (DP : Def P w K mg base "points_of_ends" 1 ["rounds"] spPointsOf)
    (DX : Def P w K mg base "points_across" 2 ["point_of", "ends"] spPtsAcross) : FnOk P w K mg base (CX1 P w) 4 f fd ["rounds"] (spNear CN) := by
  refine F.ok1 scNear (fun vs H Q E h => ?_) (fun cdv A outer s H vs Q E hr3 h => ?_)
  · obtain ⟨p, ps, rs, n, rfl, _⟩ := h
    rfl
  · obtain ⟨p, ps, rs, n, rfl, R, D, hn, hrs, k1, k2⟩ := h
    have hs : sizeLine = 16777216 := sizeLine_eq
    have nd := scNear.nd
    have hr1 : Room 1 _ := hr3.mono (by decide)
    have hr2 : Room 2 _ := hr3.mono (by decide)
    refine ⟨_, pss_cons (ps_expr (pcall DR hr3 (pa_cons (pv 0) pa_nil)))
      (pss_cons (ps_set (i := 1) nd rfl (Or.inr rfl) (pcall DP hr1 (pa_cons (pv 0) pa_nil)))
      (pss_cons (ps_setComp (i0 := 2) (te := _) nd rfl (Or.inl rfl) rfl (Blk.captN (caps := [1]) ["rounds", "point_of", "near", "point", "others"] (defScope sNear).names rfl rfl rfl (by decide +kernel) (by decide +kernel) (by decide +kernel)) (pi_list (pv 0)) (fun _ _ _ _ => pts_nil) (fun _ _ _ _ => (pcall DX hr2 (pa_cons (pv 1) (pa_cons (pv 0) pa_nil)))))
      (pss_cons (ps_for PassesOwn.leaving rfl (pi_enum (by rfl) T.enum (pa_cons (pv 2) pa_nil)) (pg_tup rfl (pgs_cons (pg_name (i := 3) nd rfl (Or.inl rfl)) (pgs_cons (pg_name (i := 4) nd rfl (Or.inl rfl)) pgs_nil))) (pss_one (ps_if (pt_cmpR op_in_seq (pv 3) (pv 4) rfl) (pss_one (ps_raise O (by rfl))) (pss_nil))))
      (pss_one (ps_ret (pv 2)))))), ?_⟩
    refine ⟨_, rfl, p, ps, rs, n, rfl, R, D, hn, fun H1 s1 => ?_⟩
    refine ⟨_, rfl, p, ps, rs, n, rfl, R.same s1, D, by omega, by omega, fun d H2 hd TB s2 => ?_⟩
    have s12 := s1.trans s2
    dsimp only [gName]
    refine ⟨_, rfl, p, rfl, ⟨_, .of (s12 _ _ R.out)⟩, fun l hl => comp_list (xs := ps.map V.ref) (fun i H3 => ∃ (qs : List Addr) (N : Rs), Same H2 H3 ∧ Rows H3 l qs N ∧ NearTo rs N i ∧ ∀ q ∈ qs, H2 q = none)
      ⟨[], [], (Same.refl H2).put hl, ⟨upd_same, List.nodup_nil, rfl, fun i q r e => by simp at e⟩, ⟨rfl, fun j r D _ e => by simp at e⟩, fun q hq => by cases hq⟩ (fun i H3 _ ⟨_, _, s3, _⟩ => .of (s3 _ _ (s12 _ _ R.out))) ?_ ?_⟩
    · rintro i y H3 hi ⟨qs, N, s3, R3, hN, fr⟩
      obtain ⟨q, hq, rfl⟩ := ref_at hi
      obtain ⟨r, hr, hH⟩ := R.at hq
      have hrl := row_le D (List.mem_of_getElem? hr)
      refine yes_go ⟨_, rfl, _, rfl, d, q, rs, n, r, rfl, TB.same s3, s3 _ _ (s12 _ _ hH), by omega, D.even, fun e he => (D.mem e).mp (List.mem_flatten.mpr ⟨r, List.mem_of_getElem? hr, he⟩), fun l4 D4 H4 hl4 up hm hL s4 => ?_⟩
      have R4 := R3.same s4
      have hil := (List.getElem?_eq_some_iff.mp hr).1
      have hnl := hN.len
      have hql := R3.len
      refine ⟨qs.map V.ref, R4.out, by rw [List.length_map]; omega, qs ++ [l4], N ++ [D4], (s3.trans s4).put hl, ?_, hN.snoc hr up hm, fun a ha => ?_⟩
      · exact R4.snoc hL (mem_ne R3 hl4) fun z => by rw [z, R3.out] at hl4; cases hl4
      · rcases List.mem_append.mp ha with z | z
        · exact fr a z
        · have : a = l4 := by simpa using z
          subst this
          exact s3.free hl4
    · rintro H3 ⟨qs, N, s3, R3, hN, fr⟩
      rw [List.length_map, R.len] at hN
      have s13 := s12.trans s3
      refine ⟨_, rfl, l, rfl, ⟨_, .of R3.out⟩, for_enum (K := K) (a := l) (xs := qs.map V.ref) (fun i σ H4 => ∃ v3 v4, σ = [some (.ref p), some (.ref d), some (.ref l), v3, v4] ∧ Same H3 H4 ∧ ∀ (j : Nat) (D : List Int), j < i → N[j]? = some D → (j : Int) ∉ D)
        ⟨none, none, rfl, Same.refl H3, fun j D hj => by omega⟩ (fun i σ H4 _ ⟨_, _, _, s4, _⟩ => .of (s4 _ _ R3.out)) ?_ ?_⟩
      · rintro i y σ H4 t hi ⟨v3, v4, rfl, s4, hno⟩ ht
        obtain ⟨q, hq, rfl⟩ := ref_at hi
        obtain ⟨Di, hDi, hH⟩ := R3.at hq
        have s5 : Same H4 (L2.upd H4 t (.tup [.int (i : Int), .ref q])) := (Same.refl H4).put ht
        refine ⟨t, _, rfl, .of upd_same, rfl, _, _, rfl, _, _, rfl, rfl, ?_⟩
        generalize L2.upd H4 t (.tup [.int (i : Int), .ref q]) = H5 at s5 ⊢
        refine ⟨_, rfl, _, rfl, q, _, rfl, .inl (.of (s5 _ _ (s4 _ _ hH))), rfl, flat_ints Di, _, rfl, ?_⟩
        rw [in_ints]
        by_cases hm : (i : Int) ∈ Di
        · rw [decide_eq_true hm]
          exact iteT (k2 N hN (fun z => z i Di hDi hm) H5 ((s13.trans s4).trans s5))
        · rw [decide_eq_false hm]
          refine iteF ⟨_, _, rfl, s4.trans s5, fun j D hj e => ?_⟩
          by_cases q' : j = i
          · subst q'
            rw [hDi] at e
            cases e
            exact hm
          · exact hno j D (by omega) e
      · rintro σ H4 ⟨v3, v4, rfl, s4, hno⟩
        rw [List.length_map] at hno
        refine ⟨_, rfl, k1 N hN (fun j D e => hno j D ?_ e) l qs H4 (R3.same s4) (s13.trans s4) (s12.free hl) fun q hq => s12.free (fr q hq)⟩
        have := (List.getElem?_eq_some_iff.mp e).1
        have := R3.len
        omega
theorem scAmongP : FnScope ["others", "left"] ["others", "left"] (defScope sAmongP) := ⟨rfl, rfl, rfl, by decide +kernel, rfl, by decide +kernel, by decide +kernel⟩
theorem ok_amongP {f : Addr} {fd : FuncData} (F : Fun K "how_many_among" "how_many_among" sAmongP f fd) (T : Txt mg) : FnOk P w K mg base CX0 1 f fd ["others", "left"] spAmongP := by
  refine F.ok scAmongP (fun vs H Q E h => ?_) (fun cdv A outer s H vs Q E hr1 h => ?_)
  · obtain ⟨a, b, x, y, rfl, _⟩ := h
    rfl
  · obtain ⟨a, b, x, y, rfl, ha, hb, hl, k⟩ := h
    have hs : sizeLine = 16777216 := sizeLine_eq
    have nd := scAmongP.nd
    refine ⟨_, pss_one (ps_ret (pe_callB call_len_seq (by rfl) T.len PySem.boot_len (pa_cons (pe_compC (tc := tTest (tOp (rIn K false) (tVar 0) (tVar 1))) (te := tVar 0) rfl (Blk.captN (caps := [1]) ["others", "left"] (defScope sAmongP).names rfl rfl rfl (by decide +kernel) (by decide +kernel) (by decide +kernel)) (pi_list (pv 0)) (fun _ _ _ _ => pts_one (pt_cmpR op_in_seq (pv 0) (pv 1) rfl)) (fun _ _ _ _ => pv 0)) pa_nil))), ?_⟩
    refine ⟨_, rfl, a, rfl, ⟨_, .of ha⟩, fun D hD => comp_list (xs := x.map V.int) (fun i H2 => Same H H2 ∧ H2 D = some (.lst (((x.take i).filter fun o => decide (o ∈ y)).map V.int))) ⟨(Same.refl H).put hD, upd_same⟩ (fun i H2 _ ⟨s2, _⟩ => .of (s2 _ _ ha)) ?_ ?_⟩
    · rintro i z H2 hi ⟨s2, gD⟩
      obtain ⟨e, he, rfl⟩ := int_of hi
      refine ⟨_, rfl, _, rfl, b, _, rfl, .inl (.of (s2 _ _ hb)), rfl, flat_ints y, _, rfl, ?_⟩
      rw [in_ints, take_at he, List.filter_append]
      by_cases hm : e ∈ y
      · rw [decide_eq_true hm]
        have hfl := List.length_filter_le (fun o => decide (o ∈ y)) (x.take i)
        rw [List.length_take] at hfl
        refine iteT ⟨_, rfl, _, gD, by rw [List.length_map]; omega, s2.put hD, ?_⟩
        rw [upd_same, List.filter_cons, if_pos (by simpa using hm), List.map_append]
        rfl
      · rw [decide_eq_false hm]
        refine iteF ⟨s2, ?_⟩
        rw [gD, List.filter_cons, if_neg (by simpa using hm), List.filter_nil, List.append_nil]
    · rintro H2 ⟨s2, gD⟩
      rw [List.length_map, List.take_length] at gD
      refine ⟨D, _, rfl, .inl (.of gD), ?_⟩
      have := k H2 s2
      rw [List.length_map]
      exact this
end
end Ink
namespace Ink
theorem Col.mem {N : Rs} {g : Int} {D D' : List Int} {col : Int → Int} (C : Col N g D col) (h : ∀ x ∈ D', x ∈ D) : Col N g D' col := ⟨fun x hx => C.rng x (h x hx), fun x hx y hy => C.ok x (h x hx) y (h y hy)⟩
theorem nums_iff {m : Nat} {x : Int} : x ∈ nums m ↔ 0 ≤ x ∧ x < (m : Int) := by
  unfold nums
  rw [List.mem_map]
  constructor
  · rintro ⟨k, hk, rfl⟩
    have := List.mem_range.mp hk
    omega
  · rintro ⟨h0, h1⟩
    exact ⟨x.toNat, List.mem_range.mpr (by omega), by omega⟩
theorem Peel.bound {N : Rs} {m : Nat} {o c o' c' : List Int} (P : Peel N m o c []) (P' : Peel N m o' c' []) {g : Int} (hg : ∀ x ∈ c, x ≤ g) : ∀ x ∈ c', x ≤ g := fun x hx => by
  obtain ⟨k, hk⟩ := List.mem_iff_getElem?.mp hx
  have hl := (List.getElem?_eq_some_iff.mp hk).1
  rw [P'.len] at hl
  have ho : o'[k]? = some o'[k] := List.getElem?_eq_getElem hl
  obtain ⟨_, a2⟩ := P'.at_ k _ _ ho hk
  rw [List.append_nil] at a2
  have hA : o'.drop k ≠ [] := fun z => by
    have := congrArg List.length z
    rw [List.length_drop, List.length_nil] at this
    omega
  obtain ⟨y, y1, y2⟩ := P.goes hg hA fun z hz => by
    have := P'.perm.mem_iff (a := z)
    rw [List.append_nil] at this
    exact this.mp (List.mem_of_mem_drop hz)
  have := a2 y y1
  omega
theorem NearTo.at {rs N : Rs} (h : NearTo rs N rs.length) {i : Nat} {D : List Int} (e : N[i]? = some D) : ∃ r, rs[i]? = some r ∧ D.Pairwise (· < ·) ∧ ∀ z, z ∈ D ↔ ∃ e ∈ r, z = ptI rs (acr e) := by
  have hi := (List.getElem?_eq_some_iff.mp e).1
  rw [h.len] at hi
  exact ⟨rs[i], List.getElem?_eq_getElem hi, h.row i _ _ (List.getElem?_eq_getElem hi) e⟩
theorem NearTo.mem_lt {rs N : Rs} {n : Nat} (h : NearTo rs N rs.length) (d : Dr rs n) {i : Nat} {D : List Int} (e : N[i]? = some D) : ∀ z ∈ D, 0 ≤ z ∧ z < (rs.length : Int) := fun z hz => by
  obtain ⟨r, hr, _, hm⟩ := h.at e
  obtain ⟨x, hx, rfl⟩ := (hm z).mp hz
  have hx' := (d.mem x).mp (List.mem_flatten.mpr ⟨r, List.mem_of_getElem? hr, hx⟩)
  have := d.pt_lt (acr_lt d.even hx'.1 hx'.2)
  unfold ptI
  omega
theorem NearTo.sym {rs N : Rs} {n : Nat} (h : NearTo rs N rs.length) (d : Dr rs n) {x y : Int} (hx : x ∈ nums N.length) (hy : y ∈ nums N.length) (hm : x ∈ N.getD y.toNat []) : y ∈ N.getD x.toNat [] := by
  obtain ⟨x0, x1⟩ := nums_iff.mp hx
  obtain ⟨y0, y1⟩ := nums_iff.mp hy
  have ex : N[x.toNat]? = some N[x.toNat] := List.getElem?_eq_getElem (by omega)
  have ey : N[y.toNat]? = some N[y.toNat] := List.getElem?_eq_getElem (by omega)
  rw [List.getD_eq_getElem?_getD, ey] at hm
  rw [List.getD_eq_getElem?_getD, ex]
  obtain ⟨ry, hry, _, my⟩ := h.at ey
  obtain ⟨rx, hrx, _, mx⟩ := h.at ex
  obtain ⟨e, he, q⟩ := (my x).mp hm
  have he' := (d.mem e).mp (List.mem_flatten.mpr ⟨ry, List.mem_of_getElem? hry, he⟩)
  have ha := acr_lt d.even he'.1 he'.2
  refine (mx y).mpr ⟨acr e, ?_, ?_⟩
  · obtain ⟨r', hr', yr⟩ := row_of d ha
    have : pt rs (acr e) = x.toNat := by unfold ptI at q; omega
    rw [this, hrx] at hr'
    cases hr'
    exact yr
  · rw [acr_acr]
    have : pt rs e = y.toNat := pt_uniq d.nd hry he
    unfold ptI
    omega
theorem near_len {rs N : Rs} {n : Nat} (h : NearTo rs N rs.length) (d : Dr rs n) (hr : rs.length < 64) : ∀ r ∈ N, r.length ≤ 1000 := fun r hm => by
  obtain ⟨i, hi⟩ := List.mem_iff_getElem?.mp hm
  obtain ⟨q, _, up, _⟩ := h.at hi
  have nd : r.Nodup := pairwise_lt_nodup up
  have := sub_len nd (b := nums rs.length) fun y hy => nums_iff.mpr (h.mem_lt d hi y hy)
  rw [nums_length] at this
  omega
structure DenseOf (N : Rs) (g : Int) (part : List Int) : Prop where
  up : part.Pairwise (· < ·)
  sub : ∀ x ∈ part, x ∈ nums N.length
  cnt : ∀ x ∈ part, g ≤ ((cntN N part x : Nat) : Int)
  nn : 0 ≤ g
  nil : N = [] → g = 0 ∧ part = []
  ne : N ≠ [] → part ≠ []
  go : ∃ order counts, Peel N N.length order counts [] ∧ ∀ c ∈ counts, c ≤ g
def ColoursOf (N : Rs) (cs : List Int) : Prop := ∃ col : Int → Int, cs = (nums N.length).map col ∧ ∀ g : Int, (∃ order counts, Peel N N.length order counts [] ∧ ∀ c ∈ counts, c ≤ g) → Col N g (nums N.length) col
theorem Peel.order_nil {N : Rs} {m : Nat} {o c : List Int} (P : Peel N m o c []) : o.length = m := by
  have := P.perm.length_eq
  rw [List.append_nil, nums_length] at this
  exact this
theorem DenseOf.empty {o c : List Int} (P : Peel [] 0 o c []) : DenseOf [] 0 [] := by
  have ho := P.order_nil
  refine ⟨.nil, (fun _ h => by cases h), (fun _ h => by cases h), Int.le_refl _, fun _ => ⟨rfl, rfl⟩, fun h => absurd rfl h, o, c, P, fun x hx => ?_⟩
  have hc := P.len
  have : c = [] := List.length_eq_zero_iff.mp (by omega)
  rw [this] at hx
  cases hx
theorem DenseOf.mk' {N : Rs} {o c part : List Int} {g : Int} {k : Nat} (P : Peel N N.length o c []) (hg : ∀ x ∈ c, x ≤ g) (hk : c[k]? = some g) (pe : part.Perm (o.drop k)) (up : part.Pairwise (· ≤ ·)) : DenseOf N g part := by
  obtain ⟨d1, d2⟩ := P.dense hk
  have nd : o.Nodup := by
    have := P.perm.nodup_iff.mpr (pairwise_lt_nodup (nums_sorted N.length))
    rw [List.append_nil] at this
    exact this
  have nd2 : part.Nodup := pe.nodup_iff.mpr (nd.sublist (List.drop_sublist k o))
  have sm : ∀ z, z ∈ part ↔ z ∈ o.drop k := fun z => pe.mem_iff
  have hne : part ≠ [] := fun z => by
    rw [z] at pe
    exact d1 pe.nil_eq.symm
  have hl := (List.getElem?_eq_some_iff.mp hk).1
  rw [P.len, P.order_nil] at hl
  refine ⟨?_, fun x hx => ?_, fun x hx => ?_, ?_, fun z => by rw [z] at hl; simp at hl, fun _ => hne, o, c, P, hg⟩
  · refine List.Pairwise.imp₂ (fun a b h1 h2 => ?_) up (List.nodup_iff_pairwise_ne.mp nd2)
    omega
  · have := P.perm.mem_iff (a := x)
    rw [List.append_nil] at this
    exact this.mp (List.mem_of_mem_drop ((sm x).mp hx))
  · rw [cntN_same sm]
    exact d2 x ((sm x).mp hx)
  · have ho : o[k]? = some (o[k]'(by rw [P.order_nil]; exact hl)) := List.getElem?_eq_getElem _
    obtain ⟨a1, _⟩ := P.at_ k _ _ ho hk
    omega
theorem rev_take_mem {o : List Int} {i : Nat} {x : Int} : x ∈ o.reverse.take i ↔ x ∈ o.drop (o.length - i) := by
  rw [List.take_reverse, List.mem_reverse]
theorem tab_congr {f g : Int → Int} {l : List Int} (h : ∀ x ∈ l, f x = g x) : tab f l = tab g l := by
  unfold tab
  exact List.map_congr_left fun x hx => by rw [h x hx]
end Ink
namespace L2
open PySem PySem.Spec PyProof.Rows
section
variable {X : Cx}
theorem call_max (hc : X.calm = true) : CallR X (.builtin "max") (fun xs H Q => ∃ (p : Addr) (ns : List Int), xs = [.ref p] ∧ SqL X.K H p (ns.map V.int) ∧ ns ≠ [] ∧ ∀ m : Int, m ∈ ns → (∀ z ∈ ns, z ≤ m) → Q (.int m) H) := by
  intro pins s σ H xs us Q I r h
  obtain ⟨p, ns, rfl, hq, hne, q⟩ := h
  obtain ⟨u, rfl, ru⟩ := vals1 r
  cases ru
  obtain ⟨its, rv, pl, hz⟩ := I.list hq
  have hi := intsAre_of rv
  obtain ⟨zs, hzs⟩ := hi.allInts.items
  have hl := pl.isList
  rw [hzs] at hl
  have hnum : zs.toList.map (·.1) = ns := by
    rw [← nums_intItems, ← hzs]
    show numsOf its = ns
    rw [hi.numsOf]
  have hsz : 0 < zs.size := by
    have : zs.toList.length = ns.length := by rw [← hnum, List.length_map]
    rw [Array.length_toList] at this
    have := List.length_pos_iff.mpr hne
    omega
  refine max_intList (I.ok.hd hc) hl hsz fun v h' tk hv hk => ?_
  obtain ⟨t, rfl⟩ := intItems_at hv
  obtain ⟨h1, h2⟩ := argBest_gt (numAt zs) (zs.size - 1)
  refine ⟨.int _, H, I.kept hk, ⟨t, rfl⟩, q _ ?_ fun a ha => ?_⟩
  · rw [numAt_eq, ← hnum]; exact getD_mem (by rw [List.length_map, Array.length_toList]; omega)
  · rw [← hnum] at ha
    obtain ⟨j, hj, rfl⟩ := mem_getD ha
    rw [List.length_map, Array.length_toList] at hj
    rw [← numAt_eq]; exact h2 j (by omega)
theorem for_rev {K : PySem.W.Frag} {a : Addr} {xs : List V} {g : TG} {tb : TS} {D : Ends} {σ : St} {H : Hp} (Pv : Nat → St → Hp → Prop) (h0 : Pv 0 σ H) (hl : ∀ i σ H, i ≤ xs.length → Pv i σ H → SqL K H a xs)
    (hs : ∀ i x σ H, xs.reverse[i]? = some x → Pv i σ H → g x σ H fun σ2 H2 => tb { D with nx := Pv (i + 1), ct := Pv (i + 1), bk := D.nx } σ2 H2) (hd : ∀ σ H, Pv xs.length σ H → D.nx σ H) :
    ∃ W : Nat → Nat → St → Hp → Prop, (∃ m, W 0 m σ H) ∧ ∀ i m σ H, W i m σ H →
      ((Itv K a xs.length).stop i H ∧ D.nx σ H) ∨ ((Itv K a xs.length).go i H ∧ ∃ N : St → Hp → Prop, (∀ σ' H', N σ' H' → ∃ m', m' < m ∧ W (i + 1) m' σ' H') ∧ ∀ x H', (Itv K a xs.length).yld i H x H' → g x σ H' fun σ2 H2 => tb { D with nx := N, ct := N, bk := D.nx } σ2 H2) := by
  refine ⟨fun i m σ H => m = xs.length - i ∧ i ≤ xs.length ∧ Pv i σ H, ⟨xs.length, by simp, Nat.zero_le _, h0⟩, ?_⟩
  rintro i m σ H ⟨rfl, hi, p⟩
  have q := hl i σ H hi p
  by_cases hlt : i < xs.length
  · refine .inr ⟨⟨xs, q, rfl, hlt⟩, Pv (i + 1), fun σ' H' p' => ⟨xs.length - (i + 1), by omega, rfl, hlt, p'⟩, fun x H' y => ?_⟩
    obtain ⟨e, y⟩ := y
    subst e
    exact hs i x σ _ (y xs q) p
  · have e : i = xs.length := by omega
    subst e
    exact .inl ⟨rfl, hd σ H p⟩
end
end L2
namespace Ink
open PySem L2
structure TxtC (mg : Str → Option Value) : Prop where
  min : mg "min" = none
  max : mg "max" = none
  rev : mg "reversed" = none
def spPeeled : Sp := fun vs H Q _ => ∃ (p : Addr) (ps : List Addr) (N : Rs), vs = [.ref p] ∧ Rows H p ps N ∧ N.length < 64 ∧ (∀ r ∈ N, r.length ≤ 1000) ∧
  ∀ (t o c : Addr) (order counts : List Int) (H' : Hp), Peel N N.length order counts [] → H' t = some (.tup [.ref o, .ref c]) → H' o = some (.lst (order.map V.int)) → H' c = some (.lst (counts.map V.int)) → Same H H' → Q (.ref t) H'
def spDense (CN : Addr) : Sp := fun vs H Q E => ∃ (p : Addr) (ps : List Addr) (rs : Rs) (n : Nat), vs = [.ref p] ∧ Rows H p ps rs ∧ Dr rs n ∧ n < 64 ∧ rs.length < 64 ∧
  (∀ N, NearOf rs N → NoLoop N → ∀ (t l : Addr) (g : Int) (part : List Int) (H' : Hp), DenseOf N g part → H' t = some (.tup [.int g, .ref l]) → H' l = some (.lst (part.map V.int)) → Same H H' → Q (.ref t) H') ∧
  (∀ N, NearOf rs N → ¬ NoLoop N → ∀ (H' : Hp), Same H H' → E (.ref CN) none H')
def spFree : Sp := fun vs H Q _ => ∃ (a : Addr) (used : List Int), vs = [.ref a] ∧ H a = some (.lst (used.map V.int)) ∧ used.length ≤ 1000 ∧ ∀ c : Nat, ((c : Nat) : Int) ∉ used → (∀ i < c, ((i : Nat) : Int) ∈ used) → Q (.int (c : Nat)) H
def spColoured (CN : Addr) : Sp := fun vs H Q E => ∃ (p : Addr) (ps : List Addr) (rs : Rs) (n : Nat), vs = [.ref p] ∧ Rows H p ps rs ∧ Dr rs n ∧ n < 64 ∧ rs.length < 64 ∧
  (∀ N, NearOf rs N → NoLoop N → ∀ (l : Addr) (cs : List Int) (H' : Hp), ColoursOf N cs → H' l = some (.lst (cs.map V.int)) → Same H H' → Q (.ref l) H') ∧
  (∀ N, NearOf rs N → ¬ NoLoop N → ∀ (H' : Hp), Same H H' → E (.ref CN) none H')
theorem erase_ints (l : List Int) (k : Nat) : (l.map V.int).eraseIdx k = (l.eraseIdx k).map V.int := by
  rw [List.eraseIdx_eq_take_drop_succ, List.eraseIdx_eq_take_drop_succ, List.map_append, List.map_take, List.map_drop]
section
variable {P : Program} {w : World} {K : PySem.W.Frag} {mg : Str → Option Value} {base : Heap}
theorem scPeeled : FnScope ["near", "left", "order", "counts", "among", "fewest", "point"] ["near"] (defScope sPeeled) := ⟨rfl, rfl, rfl, by decide +kernel, rfl, by decide +kernel, by decide +kernel⟩
theorem ok_peeled {f : Addr} {fd : FuncData} (F : Fun K "peeled" "peeled" sPeeled f fd) (T : Txt mg) (TC : TxtC mg) (DA : Def P w K mg base "how_many_among" 1 ["others", "left"] spAmongP) : FnOk P w K mg base CX0 2 f fd ["near"] spPeeled := by
  refine F.ok scPeeled (fun vs H Q E h => ?_) (fun cdv A outer s H vs Q E hr1 h => ?_)
  · obtain ⟨p, ps, N, rfl, _⟩ := h
    rfl
  · obtain ⟨p, ps, N, rfl, R, hN, hNl, k⟩ := h
    have hs : sizeLine = 16777216 := sizeLine_eq
    have nd := scPeeled.nd
    refine ⟨_, pss_cons (ps_set (i := 1) nd rfl (Or.inr rfl) (pe_callTy (call_list_rng rfl) (by rfl) T.list PyProof.Rows.boot_list (pa_cons (pe_callTy call_range1 (by rfl) T.range PyProof.Rows.boot_range (pa_cons (pe_callB call_len_seq (by rfl) T.len PySem.boot_len (pa_cons (pv 0) pa_nil)) pa_nil)) pa_nil)))
      (pss_cons (ps_set (i := 2) nd rfl (Or.inl rfl) (pe_lst pa_nil))
      (pss_cons (ps_set (i := 3) nd rfl (Or.inl rfl) (pe_lst pa_nil))
      (pss_cons (ps_while PassesOwn.never (pt_cmpR op_gt (pe_callB call_len_seq (by rfl) T.len PySem.boot_len (pa_cons (pv 1) pa_nil)) pe_int (nomark _)) (pss_cons (ps_setComp (i0 := 4) (te := _) nd rfl (Or.inl rfl) rfl (Blk.captN (caps := [0, 1]) ["near", "left", "order", "counts", "among", "fewest", "point"] (defScope sPeeled).names rfl rfl rfl (by decide +kernel) (by decide +kernel) (by decide +kernel)) (pi_list (pv 1)) (fun _ _ _ _ => pts_nil) (fun _ _ _ _ => (pcall DA hr1 (pa_cons (pe_ix (r := rIxL K) ix_list (pv 1) (pv 0) (fun _ _ => rfl)) (pa_cons (pv 2) pa_nil)))))
      (pss_cons (ps_set (i := 5) nd rfl (Or.inl rfl) (pe_callB (call_min rfl) (by rfl) TC.min PyProof.Rows.boot_min (pa_cons (pv 4) pa_nil)))
      (pss_cons (ps_set (i := 6) nd rfl (Or.inl rfl) (pe_bm PySem.F.plainAttrs_list PySem.F.slot_list_pop PySem.F.type_list_pop mt_popAt (pv 1) (pa_cons (pe_bm PySem.F.plainAttrs_list PySem.F.slot_list_index PySem.F.type_list_index mt_index (pv 4) (pa_cons (pv 5) pa_nil)) pa_nil)))
      (pss_cons (ps_expr (pe_bm PySem.F.plainAttrs_list PySem.F.slot_list_append PySem.F.type_list_append mt_append (pv 2) (pa_cons (pv 6) pa_nil)))
      (pss_one (ps_expr (pe_bm PySem.F.plainAttrs_list PySem.F.slot_list_append PySem.F.type_list_append mt_append (pv 3) (pa_cons (pv 5) pa_nil)))))))))
      (pss_one (ps_ret (pe_tup (pa_cons (pv 2) (pa_cons (pv 3) pa_nil)))))))), ?_⟩
    refine ⟨_, rfl, p, _, rfl, .inl (.of R.out), _, rfl, fun l0 h0 => ?_⟩
    refine ⟨l0, (ps.map V.ref).length, rfl, upd_same, (by rw [List.length_map, R.len]; omega), fun l h1 => ?_⟩
    obtain ⟨n10, h1'⟩ := upd_none h1
    rw [List.length_map, R.len, map_upTo]
    have s1 : Same H (L2.upd (L2.upd H l0 (.rng 0 ((N.length : Nat) : Int))) l (.lst ((upTo N.length).map V.int))) := ((Same.refl H).put h0).put h1'
    have g1 : (L2.upd (L2.upd H l0 (.rng 0 ((N.length : Nat) : Int))) l (.lst ((upTo N.length).map V.int))) l = some (.lst ((nums N.length).map V.int)) := upd_same
    generalize L2.upd (L2.upd H l0 (.rng 0 ((N.length : Nat) : Int))) l (.lst ((upTo N.length).map V.int)) = H1 at s1 g1
    refine ⟨(by show 0 ≤ sizeLine; omega), fun o ho => ?_⟩
    refine ⟨(by show 0 ≤ sizeLine; omega), fun c hc => ?_⟩
    obtain ⟨nco, hc1⟩ := upd_none hc
    have nlo : l ≠ o := ne_of_none g1 ho
    have nlc : l ≠ c := ne_of_none g1 hc1
    have g2 : (L2.upd (L2.upd H1 o (.lst [])) c (.lst [])) l = some (.lst ((nums N.length).map V.int)) := by rw [upd_ne nlc, upd_ne nlo]; exact g1
    have go : (L2.upd (L2.upd H1 o (.lst [])) c (.lst [])) o = some (.lst (([] : List Int).map V.int)) := by rw [upd_ne (Ne.symm nco), upd_same]; rfl
    have s2 : Same H (L2.upd (L2.upd H1 o (.lst [])) c (.lst [])) := (s1.put (s1.free ho)).put (s1.free hc1)
    have gc : (L2.upd (L2.upd H1 o (.lst [])) c (.lst [])) c = some (.lst (([] : List Int).map V.int)) := upd_same
    have fo := s1.free ho
    have fc := s1.free hc1
    generalize L2.upd (L2.upd H1 o (.lst [])) c (.lst []) = H2 at s2 g2 go gc
    refine ⟨fun m σ H3 => ∃ v4 v5 v6, ∃ order counts left : List Int, σ = [some (.ref p), some (.ref l), some (.ref o), some (.ref c), v4, v5, v6] ∧ Same H H3 ∧ H3 l = some (.lst (left.map V.int)) ∧ H3 o = some (.lst (order.map V.int)) ∧ H3 c = some (.lst (counts.map V.int)) ∧ Peel N N.length order counts left ∧ m = left.length,
      ⟨_, none, none, none, [], [], nums N.length, rfl, s2, g2, go, gc, Peel.start N N.length, rfl⟩, ?_⟩
    rintro m σ H3 ⟨v4, v5, v6, order, counts, left, rfl, s3, gl, go3, gc3, PE, rfl⟩
    refine ⟨_, rfl, l, _, rfl, .inl (.of gl), _, _, rfl, rfl, _, rfl, ?_⟩
    have pl := PE.perm.length_eq
    rw [List.length_append, nums_length] at pl
    have pc := PE.len
    refine ite2 (fun h => ?_) (fun h => ?_)
    · have hpos : 0 < left.length := by have := of_decide_eq_true h; rw [List.length_map] at this; omega
      have hin : ∀ x ∈ left, 0 ≤ x ∧ x < (N.length : Int) := fun x hx => nums_iff.mp ((PE.perm.mem_iff (a := x)).mp (List.mem_append.mpr (.inr hx)))
      refine ⟨fun σ' H' => ∃ v4 v5 v6, ∃ order' counts' left' : List Int, σ' = [some (.ref p), some (.ref l), some (.ref o), some (.ref c), v4, v5, v6] ∧ Same H H' ∧ H' l = some (.lst (left'.map V.int)) ∧ H' o = some (.lst (order'.map V.int)) ∧ H' c = some (.lst (counts'.map V.int)) ∧ Peel N N.length order' counts' left' ∧ left'.length < left.length,
        fun σ' H' ⟨w4, w5, w6, o', c', l', e1, e2, e3, e4, e5, e6, e7⟩ => ⟨_, e7, w4, w5, w6, o', c', l', e1, e2, e3, e4, e5, e6, rfl⟩, ?_⟩
      refine ⟨_, rfl, l, rfl, ⟨_, .of gl⟩, fun D hD => comp_list (xs := left.map V.int) (fun j H4 => Same H3 H4 ∧ H4 D = some (.lst (((left.take j).map fun x => ((cntN N left x : Nat) : Int)).map V.int))) ⟨(Same.refl H3).put hD, upd_same⟩ (fun j H4 _ ⟨s4, _⟩ => .of (s4 _ _ gl)) ?_ ?_⟩
      · rintro j z H4 hj ⟨s4, gD⟩
        obtain ⟨x, hx, rfl⟩ := int_of hj
        obtain ⟨x0, x1⟩ := hin x (List.mem_of_getElem? hx)
        obtain ⟨i, rfl⟩ : ∃ i : Nat, x = i := ⟨x.toNat, by omega⟩
        have hi : N[i]? = some N[i] := List.getElem?_eq_getElem (by omega)
        obtain ⟨q, hq, hH⟩ := R.get hi
        have hb := hNl _ (List.mem_of_getElem? hi)
        refine yes_go ⟨_, rfl, _, rfl, p, _, _, _, rfl, rfl, .of (s4 _ _ (s3 _ _ R.out)), atI_nat (j := i) (v := V.ref q) (by rw [List.getElem?_map, hq]; rfl), _, rfl, q, l, N[i], left, rfl, s4 _ _ (s3 _ _ hH), s4 _ _ gl, hb, fun H5 s5 => ?_⟩
        have hjl := (List.getElem?_eq_some_iff.mp hx).1
        refine ⟨_, s5 _ _ gD, by rw [List.length_map, List.length_map, List.length_take]; omega, (s4.trans s5).put hD, ?_⟩
        have ec : cntN N left (i : Int) = (N[i].filter fun o => decide (o ∈ left)).length := by
          unfold cntN
          rw [Int.toNat_natCast, List.getD_eq_getElem?_getD, hi]
          rfl
        rw [upd_same, take_at hx, List.map_append, List.map_append, ← ec]
        rfl
      · rintro H4 ⟨s4, gD⟩
        rw [List.length_map, List.take_length] at gD
        generalize hAm : (left.map fun x => ((cntN N left x : Nat) : Int)) = am at gD
        have hal : am.length = left.length := by rw [← hAm, List.length_map]
        refine ⟨_, rfl, D, am, rfl, .of gD, (fun z => by rw [z] at hal; simp at hal; omega), fun mn hmn hle => ?_⟩
        have gl4 := s4 _ _ gl
        have go4 := s4 _ _ go3
        have gc4 := s4 _ _ gc3
        have hik : am.idxOf mn < am.length := List.idxOf_lt_length_iff.mpr hmn
        have hxi : left[am.idxOf mn]? = some (left[am.idxOf mn]'(by omega)) := List.getElem?_eq_getElem _
        generalize left[am.idxOf mn]'(by omega) = x at hxi
        have hxm : ((cntN N left x : Nat) : Int) = mn := by
          have e1 : am[am.idxOf mn]? = some mn := by rw [List.getElem?_eq_getElem hik, List.getElem_idxOf hik]
          rw [← hAm, List.getElem?_map, hAm, hxi] at e1
          simpa using e1
        refine ⟨_, rfl, .inl ⟨rfl, _, .of gl4⟩, _, rfl, .inl ⟨rfl, _, .of gD⟩, _, rfl, D, am, mn, rfl, rfl, .of gD, hmn, l, _, _, am.idxOf mn, V.int x, rfl, rfl, gl4, by omega, by omega, ?_, ?_, ?_⟩
        · rw [seqIndex_of (by omega) (by rw [List.length_map]; omega), Int.toNat_natCast]
        · rw [List.getElem?_map, hxi]; rfl
        · rw [erase_ints]
          have s5 : Same H (L2.upd H4 l (.lst ((left.eraseIdx (am.idxOf mn)).map V.int))) := (s3.trans s4).put (by have := h1'; exact this)
          have gl5 : (L2.upd H4 l (.lst ((left.eraseIdx (am.idxOf mn)).map V.int))) l = some (.lst ((left.eraseIdx (am.idxOf mn)).map V.int)) := upd_same
          have go5 : (L2.upd H4 l (.lst ((left.eraseIdx (am.idxOf mn)).map V.int))) o = some (.lst (order.map V.int)) := by rw [upd_ne (Ne.symm nlo)]; exact go4
          have gc5 : (L2.upd H4 l (.lst ((left.eraseIdx (am.idxOf mn)).map V.int))) c = some (.lst (counts.map V.int)) := by rw [upd_ne (Ne.symm nlc)]; exact gc4
          generalize L2.upd H4 l (.lst ((left.eraseIdx (am.idxOf mn)).map V.int)) = H5 at s5 gl5 go5 gc5
          refine ⟨_, rfl, .inl ⟨rfl, _, .of go5⟩, _, rfl, o, _, _, rfl, rfl, go5, by rw [List.length_map]; omega, ?_⟩
          have gc6 : (L2.upd H5 o (.lst (order.map V.int ++ [.int x]))) c = some (.lst (counts.map V.int)) := by rw [upd_ne nco]; exact gc5
          refine ⟨_, rfl, .inl ⟨rfl, _, .of gc6⟩, _, rfl, c, _, _, rfl, rfl, gc6, by rw [List.length_map]; omega, ?_⟩
          refine ⟨_, _, _, order ++ [x], counts ++ [((cntN N left x : Nat) : Int)], left.eraseIdx (am.idxOf mn), rfl, (s5.put fo).put fc, ?_, ?_, ?_, PE.step hxi fun y hy => ?_, ?_⟩
          · rw [upd_ne nlc, upd_ne nlo]; exact gl5
          · rw [upd_ne (Ne.symm nco), upd_same, List.map_append]; rfl
          · rw [upd_same, List.map_append, hxm]; rfl
          · have hy' : ((cntN N left y : Nat) : Int) ∈ am := by rw [← hAm]; exact List.mem_map.mpr ⟨y, hy, rfl⟩
            have := hle _ hy'
            omega
          · rw [List.length_eraseIdx, if_pos (by omega)]; omega
    · have hz : left = [] := by
        apply List.length_eq_zero_iff.mp
        apply Classical.byContradiction
        intro z
        exact h (decide_eq_true (by rw [List.length_map]; omega))
      subst hz
      refine ⟨_, rfl, _, rfl, (by show 2 ≤ sizeLine; omega), fun t ht => ?_⟩
      exact k t o c order counts _ PE upd_same (by rw [upd_ne (ne_of_none go3 ht)]; exact go3) (by rw [upd_ne (ne_of_none gc3 ht)]; exact gc3) (s3.put (s3.free ht))
theorem scDense : FnScope ["rounds", "taken", "order", "counts", "greatest"] ["rounds"] (defScope sDense) := ⟨rfl, rfl, rfl, by decide +kernel, rfl, by decide +kernel, by decide +kernel⟩
theorem ok_dense {f CN : Addr} {fd : FuncData} (F : Fun K "dense_part" "dense_part" sDense f fd) (T : Txt mg) (TC : TxtC mg) (DN : Def1 P w K mg base "all_neighbours" 4 ["rounds"] (spNear CN)) (DP : Def P w K mg base "peeled" 2 ["near"] spPeeled) : FnOk P w K mg base (CX1 P w) 5 f fd ["rounds"] (spDense CN) := by
  refine F.ok1 scDense (fun vs H Q E h => ?_) (fun cdv A outer s H vs Q E hr4 h => ?_)
  · obtain ⟨p, ps, rs, n, rfl, _⟩ := h
    rfl
  · obtain ⟨p, ps, rs, n, rfl, R, D, hn, hrs, k1, k2⟩ := h
    have hs : sizeLine = 16777216 := sizeLine_eq
    have nd := scDense.nd
    have hr2 : Room 2 _ := hr4.mono (by decide)
    refine ⟨_, pss_cons (ps_set (i := 1) nd rfl (Or.inl rfl) (pcall DP hr2 (pa_cons (pcall1 DN hr4 (pa_cons (pv 0) pa_nil)) pa_nil)))
      (pss_cons (ps_set (i := 2) nd rfl (Or.inl rfl) (pe_ix ix_tup (pv 1) pe_int (fun _ _ => rfl)))
      (pss_cons (ps_set (i := 3) nd rfl (Or.inl rfl) (pe_ix ix_tup (pv 1) pe_int (fun _ _ => rfl)))
      (pss_cons (ps_if (pt_cmpR op_eq (pe_callB call_len_seq (by rfl) T.len PySem.boot_len (pa_cons (pv 2) pa_nil)) pe_int (nomark _)) (pss_one (ps_ret (pe_tup (pa_cons pe_int (pa_cons (pe_lst pa_nil) pa_nil))))) (pss_nil))
      (pss_cons (ps_set (i := 4) nd rfl (Or.inl rfl) (pe_callB (call_max rfl) (by rfl) TC.max PyProof.Rows.boot_max (pa_cons (pv 3) pa_nil)))
      (pss_one (ps_ret (pe_tup (pa_cons (pv 4) (pa_cons (pe_callB call_sorted (by rfl) T.sorted PyProof.Rows.boot_sorted (pa_cons (pe_slice sl_list (pv 2) (po_some (pe_bm PySem.F.plainAttrs_list PySem.F.slot_list_index PySem.F.type_list_index mt_index (pv 3) (pa_cons (pv 4) pa_nil))) po_none) pa_nil)) pa_nil))))))))), ?_⟩
    refine ⟨_, rfl, p, ps, rs, n, rfl, R, D, hn, hrs, fun N hN hL p1 ps1 H1 R1 s1 _ _ => ?_, k2⟩
    have hNl := hN.len
    refine ⟨p1, ps1, N, rfl, R1, by omega, near_len hN D hrs, fun t o c order counts H2 PE ht ho hc s2 => ?_⟩
    refine ⟨_, rfl, t, _, _, _, rfl, rfl, .of ht, atI_nat (j := 0) rfl, ?_⟩
    refine ⟨_, rfl, t, _, _, _, rfl, rfl, .of ht, atI_nat (j := 1) rfl, ?_⟩
    refine ⟨_, rfl, o, _, rfl, .inl (.of ho), rfl, _, rfl, ?_⟩
    have ol := PE.order_nil
    have cl := PE.len
    refine ite2 (fun h => ?_) (fun h => ?_)
    · have h0 := of_decide_eq_true h
      injection h0 with h0
      rw [List.length_map] at h0
      have hN0 : N = [] := List.length_eq_zero_iff.mp (by omega)
      refine ⟨(by show 0 ≤ sizeLine; omega), fun l hl => ⟨(by show 2 ≤ sizeLine; omega), fun t2 ht2 => ?_⟩⟩
      obtain ⟨n2, _⟩ := upd_none ht2
      subst hN0
      exact k1 [] hN hL t2 l 0 [] _ (DenseOf.empty PE) upd_same (by rw [upd_ne (Ne.symm n2), upd_same]; rfl) (((s1.trans s2).put ((s1.trans s2).free hl)).put ((s1.trans s2).free (upd_none ht2).2))
    · have h0 : ¬ order.length = 0 := fun z => h (decide_eq_true (by rw [List.length_map, z]; rfl))
      refine ⟨_, rfl, c, counts, rfl, .of hc, (fun z => by rw [z] at cl; simp at cl; omega), fun g hg hle => ?_⟩
      have hk : counts.idxOf g < counts.length := List.idxOf_lt_length_iff.mpr hg
      have hkg : counts[counts.idxOf g]? = some g := by rw [List.getElem?_eq_getElem hk, List.getElem_idxOf hk]
      refine ⟨_, rfl, _, rfl, _, rfl, .inl ⟨rfl, _, .of hc⟩, _, rfl, c, counts, g, rfl, rfl, .of hc, hg, _, rfl, o, _, rfl, .of ho, fun l hl => ?_⟩
      rw [cut_from]
      refine ⟨l, order.drop (counts.idxOf g), rfl, .of upd_same, by rw [List.length_drop]; omega, fun l2 part hl2 pe up => ⟨(by show 2 ≤ sizeLine; omega), fun t2 ht2 => ?_⟩⟩
      obtain ⟨nl2, hl2'⟩ := upd_none hl2
      obtain ⟨nt2, ht2'⟩ := upd_none ht2
      have s12 := s1.trans s2
      exact k1 N hN hL t2 l2 g part _ (DenseOf.mk' PE hle hkg pe up) upd_same (by rw [upd_ne (Ne.symm nt2), upd_same]) (((s12.put (s12.free hl)).put (s12.free hl2')).put (s12.free (upd_none ht2').2))
theorem scLeastFree : FnScope ["used", "colour"] ["used"] (defScope sLeastFree) := ⟨rfl, rfl, rfl, by decide +kernel, rfl, by decide +kernel, by decide +kernel⟩
theorem ok_free {f : Addr} {fd : FuncData} (F : Fun K "least_free" "least_free" sLeastFree f fd) : FnOk P w K mg base CX0 1 f fd ["used"] spFree := by
  refine F.ok scLeastFree (fun vs H Q E h => ?_) (fun cdv A outer s H vs Q E hr h => ?_)
  · obtain ⟨a, used, rfl, _⟩ := h
    rfl
  · obtain ⟨a, used, rfl, ha, hl, k⟩ := h
    have nd := scLeastFree.nd
    refine ⟨_, pss_cons (ps_set (i := 1) nd rfl (Or.inl rfl) pe_int)
      (pss_cons (ps_while PassesOwn.never (pt_cmpR op_in_seq (pv 1) (pv 0) rfl) (pss_one (ps_set (i := 1) nd rfl (Or.inl rfl) (pe_op op_add (pv 1) pe_int))))
      (pss_one (ps_ret (pv 1)))), ?_⟩
    refine ⟨fun m σ H2 => ∃ j : Nat, σ = [some (.ref a), some (.int (j : Nat))] ∧ H2 = H ∧ (∀ i < j, ((i : Nat) : Int) ∈ used) ∧ m = used.length + 1 - j, ⟨_, 0, rfl, rfl, fun i hi => by omega, rfl⟩, ?_⟩
    rintro m σ H2 ⟨j, rfl, rfl, hj, rfl⟩
    refine ⟨_, rfl, _, rfl, a, _, rfl, .inl (.of ha), rfl, flat_ints used, _, rfl, ?_⟩
    rw [in_ints]
    by_cases hm : ((j : Nat) : Int) ∈ used
    · rw [decide_eq_true hm]
      have hj' : ∀ i < j + 1, ((i : Nat) : Int) ∈ used := fun i hi => by
        by_cases q : i = j
        · rw [q]; exact hm
        · exact hj i (by omega)
      have := free_le hj'
      refine iteT ⟨fun σ' H' => σ' = [some (.ref a), some (.int ((j + 1 : Nat) : Int))] ∧ H' = H2, fun σ' H' ⟨e1, e2⟩ => ⟨used.length + 1 - (j + 1), by omega, j + 1, e1, e2, hj', rfl⟩, ?_⟩
      refine ⟨_, rfl, _, _, rfl, rfl, ?_, rfl⟩
      rfl
    · rw [decide_eq_false hm]
      exact iteF ⟨_, rfl, k j hm hj⟩
theorem scColoured : FnScope ["rounds", "near", "order", "colour_of", "point", "used"] ["rounds"] (defScope sColoured) := ⟨rfl, rfl, rfl, by decide +kernel, rfl, by decide +kernel, by decide +kernel⟩
theorem ok_coloured {f CN : Addr} {fd : FuncData} (F : Fun K "coloured" "coloured" sColoured f fd) (T : Txt mg) (TC : TxtC mg) (DN : Def1 P w K mg base "all_neighbours" 4 ["rounds"] (spNear CN)) (DP : Def P w K mg base "peeled" 2 ["near"] spPeeled) (DF : Def P w K mg base "least_free" 1 ["used"] spFree) : FnOk P w K mg base (CX1 P w) 5 f fd ["rounds"] (spColoured CN) := by
  refine F.ok1 scColoured (fun vs H Q E h => ?_) (fun cdv A outer s H vs Q E hr4 h => ?_)
  · obtain ⟨p, ps, rs, n, rfl, _⟩ := h
    rfl
  · obtain ⟨p, ps, rs, n, rfl, R, D, hn, hrs, k1, k2⟩ := h
    have hs : sizeLine = 16777216 := sizeLine_eq
    have nd := scColoured.nd
    have hr2 : Room 2 _ := hr4.mono (by decide)
    have hr1 : Room 1 _ := hr4.mono (by decide)
    have hu1 := hu_of hr4
    refine ⟨_, pss_cons (ps_set (i := 1) nd rfl (Or.inl rfl) (pcall1 DN hr4 (pa_cons (pv 0) pa_nil)))
      (pss_cons (ps_set (i := 2) nd rfl (Or.inl rfl) (pe_ix ix_tup (pcall DP hr2 (pa_cons (pv 1) pa_nil)) pe_int (fun _ _ => rfl)))
      (pss_cons (ps_set (i := 3) nd rfl (Or.inr rfl) pe_dnewK)
      (pss_cons (ps_for PassesOwn.leaving rfl (pi_rev (by rfl) TC.rev (pa_cons (pv 2) pa_nil)) (pg_name (i := 4) nd rfl (Or.inl rfl)) (pss_cons (ps_setComp (i0 := 5) (tc := tB (tDIn (tVar 0) (tVar 1))) (te := _) nd rfl (Or.inl rfl) rfl (Blk.captN (caps := [3]) ["rounds", "near", "order", "colour_of", "point", "used"] (defScope sColoured).names rfl rfl rfl (by decide +kernel) (by decide +kernel) (by decide +kernel)) (pi_list (pe_ix ix_list (pv 1) (pv 4) (fun _ _ => rfl))) (fun _ _ _ _ => pts_one (pt_cmp (pc_din hu1 (pv 0) (pv 1)))) (fun _ _ _ _ => (pe_dget hu1 (pv 1) (pv 0) (fun _ _ => rfl))))
      (pss_one (ps_dput hu1 (pv 3) (pv 4) (pcall DF hr1 (pa_cons (pv 5) pa_nil)) rfl))))
      (pss_one (ps_ret (pe_compC (te := _) rfl (Blk.captN (caps := [3]) ["rounds", "near", "order", "colour_of", "point", "used"] (defScope sColoured).names rfl rfl rfl (by decide +kernel) (by decide +kernel) (by decide +kernel)) (pi_range1 (by rfl) T.range (pa_cons (pe_callB call_len_seq (by rfl) T.len PySem.boot_len (pa_cons (pv 1) pa_nil)) pa_nil)) (fun _ _ _ _ => pts_nil) (fun _ _ _ _ => (pe_dget hu1 (pv 1) (pv 0) (fun _ _ => rfl))))))))), ?_⟩
    refine ⟨_, rfl, p, ps, rs, n, rfl, R, D, hn, hrs, fun N hN hL p1 ps1 H1 R1 s1 _ _ => ?_, k2⟩
    have hNl := hN.len
    have hnl := near_len hN D hrs
    refine ⟨_, rfl, p1, ps1, N, rfl, R1, by omega, hnl, fun t o c order counts H2 PE ht ho hc s2 => ?_⟩
    refine ⟨t, _, _, _, rfl, rfl, .of ht, atI_nat (j := 0) rfl, fun d hd => ?_⟩
    have ol := PE.order_nil
    have sd : Same H2 (L2.upd H2 d (.dK [])) := (Same.refl H2).put hd
    have R2 := R1.same s2
    refine ⟨_, rfl, o, order.map V.int, rfl, .of (sd _ _ ho), for_rev (K := K) (a := o) (xs := order.map V.int) (fun i σ H3 => ∃ v4 v5 col, σ = [some (.ref p), some (.ref p1), some (.ref o), some (.ref d), v4, v5] ∧ Same H2 H3 ∧ H3 d = some (.dK (tab col (order.reverse.take i))) ∧ ∀ g, (∀ c ∈ counts, c ≤ g) → Col N g (order.reverse.take i) col)
      ⟨none, none, fun _ => 0, rfl, sd, upd_same, fun g _ => ⟨fun x hx => by simp at hx, fun x hx => by simp at hx⟩⟩ (fun i σ H3 _ ⟨_, _, _, _, s3, _⟩ => .of (s3 _ _ ho)) ?_ ?_⟩
    · rintro i y σ H3 hi ⟨v4, v5, col, rfl, s3, hT, hC⟩
      rw [← List.map_reverse] at hi
      obtain ⟨x, hx, rfl⟩ := int_of hi
      have hil := (List.getElem?_eq_some_iff.mp hx).1
      rw [List.length_reverse] at hil
      have hxo : order[order.length - 1 - i]? = some x := by rw [← List.getElem?_reverse hil]; exact hx
      have hdr : order.length - 1 - i + 1 = order.length - i := by omega
      have mem : ∀ y, y ∈ order.reverse.take i ↔ y ∈ order.drop (order.length - 1 - i + 1) := fun y => by rw [hdr]; exact rev_take_mem
      have hxn : x ∈ nums N.length := by
        have := PE.perm.mem_iff (a := x)
        rw [List.append_nil] at this
        exact this.mp (List.mem_of_getElem? hxo)
      obtain ⟨x0, x1⟩ := nums_iff.mp hxn
      have inn : ∀ y ∈ order.reverse.take i, y ∈ nums N.length := fun y hy => by
        have := PE.perm.mem_iff (a := y)
        rw [List.append_nil] at this
        exact this.mp (List.mem_of_mem_drop ((mem y).mp hy))
      obtain ⟨j, rfl⟩ : ∃ j : Nat, x = j := ⟨x.toNat, by omega⟩
      have hj : N[j]? = some N[j] := List.getElem?_eq_getElem (by omega)
      obtain ⟨q, hq, hH⟩ := R2.get hj
      have hb := hnl _ (List.mem_of_getElem? hj)
      have hg : N.getD ((j : Int)).toNat [] = N[j] := by rw [Int.toNat_natCast, List.getD_eq_getElem?_getD, hj]; rfl
      generalize N[j] = r at hj hH hb hg
      have hH3 := s3 _ _ hH
      refine ⟨_, rfl, _, rfl, p1, _, _, _, rfl, rfl, .of (s3 _ _ R2.out), atI_nat (j := j) (v := V.ref q) (by rw [List.getElem?_map, hq]; rfl), q, rfl, ⟨_, .of hH3⟩, fun u hu => comp_list (xs := r.map V.int) (fun k H4 => Same H3 H4 ∧ H4 u = some (.lst ((((r.take k).filter fun y => decide (y ∈ order.reverse.take i)).map col).map V.int))) ⟨(Same.refl H3).put hu, upd_same⟩ (fun k H4 _ ⟨s4, _⟩ => .of (s4 _ _ hH3)) ?_ ?_⟩
      · rintro k z H4 hk ⟨s4, gU⟩
        obtain ⟨y, hy, rfl⟩ := int_of hk
        have hT4 := s4 _ _ hT
        rw [take_at hy, List.filter_append]
        by_cases hm : y ∈ order.reverse.take i
        · have gy : DGet H4 d (.int y) (some (V.int (col y))) := by
            have := DGet.k (k := (Sum.inl y : Key)) hT4
            rw [tab_val hm] at this
            exact this
          refine ⟨_, rfl, _, rfl, d, _, rfl, gy, true, rfl, iteT ⟨_, rfl, _, rfl, d, _, rfl, gy, _, gU, ?_, s4.put hu, ?_⟩⟩
          · have := List.length_filter_le (fun y => decide (y ∈ order.reverse.take i)) (r.take k)
            rw [List.length_take] at this
            rw [List.length_map, List.length_map]
            omega
          · rw [upd_same, List.filter_cons, if_pos (by simpa using hm), List.map_append, List.map_append]
            rfl
        · have gy : DGet H4 d (.int y) none := by
            have := DGet.k (k := (Sum.inl y : Key)) hT4
            rw [tab_no hm] at this
            exact this
          refine ⟨_, rfl, _, rfl, d, _, rfl, gy, false, rfl, iteF ⟨s4, ?_⟩⟩
          rw [gU, List.filter_cons, if_neg (by simpa using hm), List.filter_nil, List.append_nil]
      · rintro H4 ⟨s4, gU⟩
        rw [List.length_map, List.take_length] at gU
        have eU : (r.filter fun y => decide (y ∈ order.reverse.take i)).map col = usedC N (order.reverse.take i) col (j : Int) := by unfold usedC; rw [hg]
        rw [eU] at gU
        have lU : (usedC N (order.reverse.take i) col (j : Int)).length ≤ 1000 := by
          rw [← eU, List.length_map]
          exact Nat.le_trans (List.length_filter_le _ _) hb
        refine ⟨_, rfl, u, _, rfl, gU, lU, fun cc hc1 hc2 => ?_⟩
        have hnew : (j : Int) ∉ order.reverse.take i := fun z => by
          have nd' : order.Nodup := by
            have := PE.perm.nodup_iff.mpr (pairwise_lt_nodup (nums_sorted N.length))
            rw [List.append_nil] at this
            exact this
          have ed : order.drop (order.length - 1 - i) = (j : Int) :: order.drop (order.length - 1 - i + 1) := by
            rw [← List.getElem_cons_drop (by omega), (List.getElem?_eq_some_iff.mp hxo).2]
          have nd2 : (order.drop (order.length - 1 - i)).Nodup := nd'.sublist (List.drop_sublist _ order)
          rw [ed] at nd2
          exact (List.nodup_cons.mp nd2).1 ((mem _).mp z)
        have etk : order.reverse.take (i + 1) = order.reverse.take i ++ [(j : Int)] := take_at hx
        refine ⟨_, rfl, _, rfl, d, _, rfl, DPut.k (k := (Sum.inl (j : Int) : Key)) (s4 _ _ hT) (by rw [tab_length, List.length_take]; omega), _, _, (fun y => if y = (j : Int) then ((cc : Nat) : Int) else col y), rfl, ?_, ?_, fun g hgc => ?_⟩
        · exact (s3.trans s4).put hd
        · rw [upd_same, etk]
          have e1 : tab col (order.reverse.take i) = tab (fun y => if y = (j : Int) then ((cc : Nat) : Int) else col y) (order.reverse.take i) := tab_congr fun y hy => by
            have hz : y ≠ (j : Int) := fun z => hnew (z ▸ hy)
            show col y = if y = (j : Int) then ((cc : Nat) : Int) else col y
            rw [if_neg hz]
          rw [e1, tab_put hnew (by rw [if_pos rfl])]
        · have h1 := (PE.behind hgc hxo).1
          have h2 : cntN N (order.reverse.take i) (j : Int) = cntN N (order.drop (order.length - 1 - i + 1)) (j : Int) := cntN_same mem
          have C2 := (hC g hgc).step hnew (fun y hy hyz => hN.sym D hxn (inn y hy) hyz) (by rw [hg]; exact hL j r hj) hc1 hc2 (by rw [h2]; exact h1)
          refine C2.mem fun y hy => ?_
          rw [etk] at hy
          rcases List.mem_append.mp hy with q | q
          · exact List.mem_cons_of_mem _ q
          · have : y = (j : Int) := by simpa using q
            rw [this]; exact List.mem_cons_self
    · rintro σ H3 ⟨v4, v5, col, rfl, s3, hT, hC⟩
      rw [List.length_map, ← List.length_reverse, List.take_length] at hT hC
      have mem : ∀ y, y ∈ order.reverse ↔ y ∈ nums N.length := fun y => by
        have := PE.perm.mem_iff (a := y)
        rw [List.append_nil] at this
        rw [List.mem_reverse]
        exact this
      have R3 := R2.same s3
      refine ⟨_, rfl, p1, _, rfl, .inl (.of R3.out), _, rfl, by omega, (by rw [List.length_map, R3.len]; omega), fun l hl => ?_⟩
      rw [Int.toNat_natCast, List.length_map, R3.len]
      refine comp_range (lo := 0) (n := N.length) (fun i H4 => Same H3 H4 ∧ H4 l = some (.lst (((nums i).map col).map V.int))) ⟨(Same.refl H3).put hl, upd_same⟩ ?_ ?_
      · rintro i H4 hi ⟨s4, gL⟩
        rw [show (0 : Int) + (i : Int) = (i : Int) by omega]
        have gy : DGet H4 d (.int (i : Int)) (some (V.int (col (i : Int)))) := by
          have := DGet.k (k := (Sum.inl (i : Int) : Key)) (s4 _ _ hT)
          rw [tab_val ((mem _).mpr (nums_iff.mpr (by omega)))] at this
          exact this
        refine yes_go ⟨_, rfl, _, rfl, d, _, rfl, gy, _, gL, by rw [List.length_map, List.length_map, nums_length]; omega, s4.put hl, ?_⟩
        rw [upd_same, nums_succ, List.map_append, List.map_append]
        rfl
      · rintro H4 ⟨s4, gL⟩
        have s14 := (s1.trans s2).trans (s3.trans s4)
        refine k1 N hN hL l _ H4 ⟨col, rfl, fun g hg => ?_⟩ gL s14
        obtain ⟨o', c', P', hg'⟩ := hg
        exact (hC g (P'.bound PE hg')).mem fun x hx => (mem x).mpr hx
end
end Ink
namespace Ink
open PySem L2
def BadR (rs : Rs) : Prop := told rs.flatten = false ∧ rs.flatten.length < 64 ∧ rs.length < 64
def spB1 (CD : Addr) : Sp := fun vs H Q E => ∃ (p : Addr) (ps : List Addr) (rs : Rs), vs = [.ref p] ∧ Rows H p ps rs ∧ BadR rs ∧ ∀ H', Same H H' → E (.ref CD) none H'
def spB2 (CD : Addr) : Sp := fun vs H Q E => ∃ (p : Addr) (ps : List Addr) (rs : Rs) (v : V), vs = [.ref p, v] ∧ Rows H p ps rs ∧ BadR rs ∧ ∀ H', Same H H' → E (.ref CD) none H'
def spU (CN CD : Addr) : Sp := fun vs H Q E => ∃ (p : Addr) (ps : List Addr) (rs : Rs), vs = [.ref p] ∧ Rows H p ps rs ∧ rs.flatten.length < 64 ∧ rs.length < 64 ∧
  (((∃ n, Dr rs n) ∧ (∀ v H', Same H H' → Q v H') ∧ ∀ H', Same H H' → E (.ref CN) none H') ∨ (told rs.flatten = false ∧ ∀ H', Same H H' → E (.ref CD) none H'))
def spE2 (CE : Addr) (ok : V → Hp → Prop) : Sp := fun vs H Q E => ∃ (p : Addr) (ps : List Addr) (rs : Rs) (n : Nat) (v : V), vs = [.ref p, v] ∧ Rows H p ps rs ∧ Dr rs n ∧ n < 64 ∧ rs.length < 64 ∧ ok v H ∧ ∀ H', Same H H' → E (.ref CE) none H'
def spU2 (CE CD : Addr) (ok : V → Hp → Prop) : Sp := fun vs H Q E => ∃ (p : Addr) (ps : List Addr) (rs : Rs) (v : V), vs = [.ref p, v] ∧ Rows H p ps rs ∧ rs.flatten.length < 64 ∧ rs.length < 64 ∧ ok v H ∧
  (((∃ n, Dr rs n) ∧ ∀ H', Same H H' → E (.ref CE) none H') ∨ (told rs.flatten = false ∧ ∀ H', Same H H' → E (.ref CD) none H'))
def isM1 (v : V) (_ : Hp) : Prop := v = .int (-1)
def isL1 (v : V) (H : Hp) : Prop := ∃ a, v = .ref a ∧ H a = some (.lst [.int (-1)])
structure TabX (H : Hp) (d : Addr) (g : Int → Int) (n : Nat) : Prop where
  ex : ∃ kvs : List (Key × V), H d = some (.dK kvs) ∧ kvs.length = n ∧ (∀ e : Int, 0 ≤ e ∧ e < n → valV kvs (Sum.inl e : Key) = some (V.int (g e))) ∧ ∀ e : Int, ¬ (0 ≤ e ∧ e < n) → valV kvs (Sum.inl e : Key) = none
theorem TabX.of {H : Hp} {d : Addr} {g : Int → Int} {n : Nat} (t : TabX H d g n) : TabOf H d g n := let ⟨kvs, a, b, c, _⟩ := t.ex; ⟨kvs, a, b, c⟩
def spPointsX : Sp := fun vs H Q _ => ∃ (p : Addr) (ps : List Addr) (rs : Rs) (n : Nat), vs = [.ref p] ∧ Rows H p ps rs ∧ Dr rs n ∧ n ≤ 1000 ∧ rs.length ≤ 1000 ∧
  ∀ (d : Addr) (H' : Hp), H d = none → TabX H' d (ptI rs) n → Same H H' → Q (.ref d) H'
def spMirrored : Sp := fun vs H Q _ => ∃ (p : Addr) (ps : List Addr) (rs : Rs) (n : Nat), vs = [.ref p] ∧ Rows H p ps rs ∧ Dr rs n ∧ n < 64 ∧ rs.length ≤ 1000 ∧
  ∀ (p' : Addr) (ps' : List Addr) (H' : Hp), Rows H' p' ps' (rs.map List.reverse) → Same H H' → H p' = none → (∀ q ∈ ps', H q = none) → Q (.ref p') H'
def spNoEndsB (CE : Addr) : Sp := fun vs H Q E => ∃ (d a : Addr) (kvs : List (Key × V)), vs = [.ref d, .ref a] ∧ H d = some (.dK kvs) ∧ valV kvs (Sum.inl (-1) : Key) = none ∧ H a = some (.lst [.int (-1)]) ∧ E (.ref CE) none H
section
variable {P : Program} {w : World} {K : PySem.W.Frag} {mg : Str → Option Value} {base : Heap}
theorem uni {CN CD : Addr} {k : Nat} {f : Addr} {fd : FuncData} {spg : Sp} (G : FnOk P w K mg base (CX1 P w) k f fd ["rounds"] spg) (B : FnOk P w K mg base (CX1 P w) k f fd ["rounds"] (spB1 CD))
    (h : ∀ (p : Addr) (ps : List Addr) (rs : Rs) (n : Nat) (H : Hp) (Q : VK) (E : XK), Rows H p ps rs → Dr rs n → n < 64 → rs.length < 64 → (∀ v H', Same H H' → Q v H') → (∀ H', Same H H' → E (.ref CN) none H') → spg [.ref p] H Q E) : FnOk P w K mg base (CX1 P w) k f fd ["rounds"] (spU CN CD) := by
  refine ⟨fun vs H Q E ⟨p, ps, rs, e, _⟩ => by rw [e]; rfl, fun A outer s H args us vs Q E hr he hb hv hs => ?_⟩
  obtain ⟨p, ps, rs, e, R, h1, h2, hh⟩ := hs
  subst e
  rcases hh with ⟨⟨n, D⟩, q1, q2⟩ | ⟨t, q⟩
  · exact G.run A outer s H args us _ Q E hr he hb hv (h p ps rs n H Q E R D (by rw [← D.len]; exact h1) h2 q1 q2)
  · exact B.run A outer s H args us _ Q E hr he hb hv ⟨p, ps, rs, rfl, R, ⟨t, h1, h2⟩, q⟩
theorem uni2 {CE CD : Addr} {k : Nat} {f : Addr} {fd : FuncData} {x : Str} {ok : V → Hp → Prop} (G : FnOk P w K mg base (CX1 P w) k f fd ["rounds", x] (spE2 CE ok)) (B : FnOk P w K mg base (CX1 P w) k f fd ["rounds", x] (spB2 CD)) : FnOk P w K mg base (CX1 P w) k f fd ["rounds", x] (spU2 CE CD ok) := by
  refine ⟨fun vs H Q E ⟨p, ps, rs, v, e, _⟩ => by rw [e]; rfl, fun A outer s H args us vs Q E hr he hb hv hs => ?_⟩
  obtain ⟨p, ps, rs, v, e, R, h1, h2, ok, hh⟩ := hs
  subst e
  rcases hh with ⟨⟨n, D⟩, q⟩ | ⟨t, q⟩
  · exact G.run A outer s H args us _ Q E hr he hb hv ⟨p, ps, rs, n, v, rfl, R, D, by rw [← D.len]; exact h1, h2, ok, q⟩
  · exact B.run A outer s H args us _ Q E hr he hb hv ⟨p, ps, rs, v, rfl, R, ⟨t, h1, h2⟩, q⟩
theorem scPointsX : FnScope ["rounds", "point_of", "point", "ends", "end"] ["rounds"] (defScope sPointsOf) := ⟨rfl, rfl, rfl, by decide +kernel, rfl, by decide +kernel, by decide +kernel⟩
theorem ok_pointsX {f : Addr} {fd : FuncData} (F : Fun K "points_of_ends" "points_of_ends" sPointsOf f fd) (T : Txt mg) : FnOk P w K mg base CX0 1 f fd ["rounds"] spPointsX := by
  refine F.ok scPointsX (fun vs H Q E h => ?_) (fun cdv A outer s H vs Q E hr h => ?_)
  · obtain ⟨p, ps, rs, n, rfl, _⟩ := h
    rfl
  · obtain ⟨p, ps, rs, n, rfl, R, D, hn, hrs, k⟩ := h
    have hs : sizeLine = 16777216 := sizeLine_eq
    have nd := scPointsX.nd
    have hu1 := hu_of hr
    refine ⟨_, pss_cons (ps_set (i := 1) nd rfl (Or.inl rfl) pe_dnewK)
      (pss_cons (ps_for PassesOwn.never rfl (pi_enum (by rfl) T.enum (pa_cons (pv 0) pa_nil)) (pg_tup rfl (pgs_cons (pg_name (i := 2) nd rfl (Or.inl rfl)) (pgs_cons (pg_name (i := 3) nd rfl (Or.inl rfl)) pgs_nil))) (pss_one (ps_for PassesOwn.never rfl (pi_list (pv 3)) (pg_name (i := 4) nd rfl (Or.inl rfl)) (pss_one (ps_dput hu1 (pv 1) (pv 4) (pv 2) rfl)))))
      (pss_one (ps_ret (pv 1)))), ?_⟩
    intro d hd
    have s0 : Same H (L2.upd H d (.dK [])) := (Same.refl H).put hd
    refine ⟨_, rfl, p, rfl, ⟨_, .of (s0 _ _ R.out)⟩, for_enum (K := K) (a := p) (xs := ps.map V.ref) (fun i σ H2 => ∃ v2 v3 v4, σ = [some (.ref p), some (.ref d), v2, v3, v4] ∧ Same H H2 ∧ H2 d = some (.dK (tab (ptI rs) (rs.take i).flatten))) ⟨none, none, none, rfl, s0, upd_same⟩
      (fun i σ H2 _ ⟨_, _, _, _, s2, _⟩ => .of (s2 _ _ R.out)) ?_ ?_⟩
    · rintro i y σ H2 t hi ⟨v2, v3, v4, rfl, s2, hL⟩ ht
      obtain ⟨q, hq, rfl⟩ := ref_at hi
      obtain ⟨r, hr', hH⟩ := R.at hq
      have hrow : r.length ≤ n := row_le D (List.mem_of_getElem? hr')
      have hfl := flat_take_le rs i
      rw [D.len] at hfl
      have f2 := s2.free ht
      have s3 : Same H (L2.upd H2 t (.tup [.int (i : Int), .ref q])) := s2.put f2
      have hL3 : (L2.upd H2 t (.tup [.int (i : Int), .ref q])) d = some (.dK (tab (ptI rs) (rs.take i).flatten)) := by rw [upd_ne (ne_of_none hL ht)]; exact hL
      refine ⟨t, _, rfl, .of upd_same, rfl, _, _, rfl, _, _, rfl, rfl, ?_⟩
      refine ⟨_, rfl, q, rfl, ⟨_, .of (s3 _ _ hH)⟩, for_list (K := K) (a := q) (xs := r.map V.int) (fun j σ H3 => ∃ v4, σ = [some (.ref p), some (.ref d), some (.int (i : Int)), some (.ref q), v4] ∧ Same H H3 ∧ H3 d = some (.dK (tab (ptI rs) ((rs.take i).flatten ++ r.take j)))) ⟨v4, rfl, s3, by rw [List.take_zero, List.append_nil]; exact hL3⟩
        (fun j σ H3 _ ⟨_, _, s4, _⟩ => .of (s4 _ _ hH)) ?_ ?_⟩
      · rintro j z σ H3 hj ⟨v4, rfl, s4, hL4⟩
        obtain ⟨e, he, rfl⟩ := int_of hj
        have hjl : j < r.length := (List.getElem?_eq_some_iff.mp he).1
        have hval : (i : Int) = ptI rs e := by unfold ptI; rw [pt_uniq D.nd hr' (List.mem_of_getElem? he)]
        refine ⟨_, rfl, _, rfl, _, rfl, d, _, rfl, DPut.k (k := (Sum.inl e : Key)) hL4 (by rw [tab_length, List.length_append, List.length_take]; omega), _, rfl, s4.put hd, ?_⟩
        rw [upd_same, tab_put (take_new D.nd hr' he) hval, List.append_assoc, take_at he]
      · rintro σ H3 ⟨v4, rfl, s4, hL4⟩
        rw [List.length_map, List.take_length] at hL4
        exact ⟨_, _, _, rfl, s4, by rw [flat_take hr']; exact hL4⟩
    · rintro σ H2 ⟨v2, v3, v4, rfl, s2, hL⟩
      rw [List.length_map, R.len, List.take_length] at hL
      exact ⟨_, rfl, k d H2 hd ⟨_, hL, by rw [tab_length, D.len], fun e he => tab_val ((D.mem e).mpr he), fun e he => tab_no fun z => he ((D.mem e).mp z)⟩ s2⟩
theorem ok_pointsT {f : Addr} {fd : FuncData} (F : Fun K "points_of_ends" "points_of_ends" sPointsOf f fd) (T : Txt mg) : FnOk P w K mg base CX0 1 f fd ["rounds"] spPointsOf :=
  (ok_pointsX F T).imp fun vs H Q E ⟨p, ps, rs, n, e, R, D, h1, h2, k⟩ => ⟨p, ps, rs, n, e, R, D, h1, h2, fun d H' hd t s => k d H' hd t.of s⟩
theorem ok_refuseB {f CD : Addr} {fd : FuncData} (F : Fun K "refuse_no_drawing" "refuse_no_drawing" sRefuse f fd) (O : ExcC K mg "NoDrawing" CD) (DI : Def P w K mg base "is_drawing" 2 ["rounds"] spIsDrawing) : FnOk P w K mg base (CX1 P w) 3 f fd ["rounds"] (spB1 CD) := by
  refine F.ok1 scRefuse (fun vs H Q E h => ?_) (fun cdv A outer s H vs Q E hr h => ?_)
  · obtain ⟨p, ps, rs, rfl, _⟩ := h
    rfl
  · obtain ⟨p, ps, rs, rfl, R, b, k⟩ := h
    refine ⟨_, pss_one (ps_if (pt_not (pt_val (pcall DI hr (pa_cons (pv 0) pa_nil)))) (pss_one (ps_raise O (by rfl))) (pss_nil)), ?_⟩
    refine ⟨_, rfl, p, ps, rs, rfl, R, b.2.1, fun H' s' => ⟨_, rfl, ?_⟩⟩
    rw [b.1]
    exact iteT (k H' s')
theorem ok_facesB {f CD : Addr} {fd : FuncData} (F : Fun K "faces" "faces" sFaces f fd) (DR : Def1 P w K mg base "refuse_no_drawing" 3 ["rounds"] (spB1 CD)) : FnOk P w K mg base (CX1 P w) 4 f fd ["rounds"] (spB1 CD) := by
  refine F.ok1 scFaces (fun vs H Q E h => ?_) (fun cdv A outer s H vs Q E hr h => ?_)
  · obtain ⟨p, ps, rs, rfl, _⟩ := h
    rfl
  · obtain ⟨p, ps, rs, rfl, R, b, k⟩ := h
    have hr' : Room 3 _ := hr.mono (by decide)
    refine ⟨_, pss_cons (ps_expr (pcall1 DR hr' (pa_cons (pv 0) pa_nil))) pss_never, ?_⟩
    exact ⟨_, rfl, p, ps, rs, rfl, R, b, k⟩
theorem ok_piecesB {f CD : Addr} {fd : FuncData} (F : Fun K "pieces" "pieces" sPieces f fd) (DR : Def1 P w K mg base "refuse_no_drawing" 3 ["rounds"] (spB1 CD)) : FnOk P w K mg base (CX1 P w) 4 f fd ["rounds"] (spB1 CD) := by
  refine F.ok1 scPieces (fun vs H Q E h => ?_) (fun cdv A outer s H vs Q E hr h => ?_)
  · obtain ⟨p, ps, rs, rfl, _⟩ := h
    rfl
  · obtain ⟨p, ps, rs, rfl, R, b, k⟩ := h
    have hr' : Room 3 _ := hr.mono (by decide)
    refine ⟨_, pss_cons (ps_expr (pcall1 DR hr' (pa_cons (pv 0) pa_nil))) pss_never, ?_⟩
    exact ⟨_, rfl, p, ps, rs, rfl, R, b, k⟩
theorem scInside : FnScope ["rounds"] ["rounds"] (defScope sInside) := ⟨rfl, rfl, rfl, by decide +kernel, rfl, by decide +kernel, by decide +kernel⟩
theorem ok_inside {f : Addr} {fd : FuncData} (F : Fun K "inside_out" "inside_out" sInside f fd) (DG : Def P w K mg base "faces" 4 ["rounds"] spFaces) : FnOk P w K mg base CX0 5 f fd ["rounds"] spFaces := by
  refine F.ok scInside (fun vs H Q E h => ?_) (fun cdv A outer s H vs Q E hr h => ?_)
  · obtain ⟨p, ps, rs, n, rfl, _⟩ := h
    rfl
  · obtain ⟨p, ps, rs, n, rfl, R, D, hn, k⟩ := h
    refine ⟨_, pss_one (ps_ret (pcall DG hr (pa_cons (pv 0) pa_nil))), ?_⟩
    exact ⟨_, rfl, p, ps, rs, n, rfl, R, D, hn, k⟩
theorem ok_insideB {f CD : Addr} {fd : FuncData} (F : Fun K "inside_out" "inside_out" sInside f fd) (DG : Def1 P w K mg base "faces" 4 ["rounds"] (spB1 CD)) : FnOk P w K mg base (CX1 P w) 5 f fd ["rounds"] (spB1 CD) := by
  refine F.ok1 scInside (fun vs H Q E h => ?_) (fun cdv A outer s H vs Q E hr h => ?_)
  · obtain ⟨p, ps, rs, rfl, _⟩ := h
    rfl
  · obtain ⟨p, ps, rs, rfl, R, b, k⟩ := h
    have hr' : Room 4 _ := hr.mono (by decide)
    refine ⟨_, pss_one (ps_ret (pcall1 DG hr' (pa_cons (pv 0) pa_nil))), ?_⟩
    exact ⟨_, rfl, p, ps, rs, rfl, R, b, k⟩
theorem scMirrored : FnScope ["rounds"] ["rounds"] (defScope sMirrored) := ⟨rfl, rfl, rfl, by decide +kernel, rfl, by decide +kernel, by decide +kernel⟩
theorem ok_mirrored {f : Addr} {fd : FuncData} (F : Fun K "mirrored" "mirrored" sMirrored f fd) (T : Txt mg) (T2 : TxtC mg) (DR : Def P w K mg base "refuse_no_drawing" 3 ["rounds"] spRefuse) : FnOk P w K mg base CX0 4 f fd ["rounds"] spMirrored := by
  refine F.ok scMirrored (fun vs H Q E h => ?_) (fun cdv A outer s H vs Q E hr h => ?_)
  · obtain ⟨p, ps, rs, n, rfl, _⟩ := h
    rfl
  · obtain ⟨p, ps, rs, n, rfl, R, D, hn, hsz, k⟩ := h
    refine ⟨_, pss_cons (ps_expr (pcall DR hr (pa_cons (pv 0) pa_nil)))
      (pss_one (ps_ret (pe_comp (te := tListRev K (tCons (tVar 0) tNil)) rfl (Blk.plain rfl (by decide +kernel) (by decide +kernel)) (pi_list (pv 0)) (fun _ _ _ _ => pts_nil) (fun _ _ _ _ => pe_listRev rfl (by rfl) T.list (by rfl) T2.rev (pa_cons (pv 0) pa_nil))))), ?_⟩
    refine ⟨_, rfl, p, ps, rs, n, rfl, R, D, hn, fun H1 s1 => ?_⟩
    have R1 := R.same s1
    refine ⟨_, rfl, p, rfl, ⟨_, .of R1.out⟩, fun d hd => rows_comp List.reverse (fun _ => true) R1 hd hsz (fun q r H2 k' N hr' hq hk hN => ?_) (fun qs H' s' R' hqs => ?_)⟩
    · refine yes_go ⟨_, rfl, q, _, rfl, .of hq, fun l hl => hk rfl l _ hl (by rw [upd_same, List.map_reverse]) ((Same.refl H2).put hl)⟩
    · rw [List.filter_eq_self.mpr (fun _ _ => rfl)] at R'
      exact k d qs H' R' (s1.trans s') (s1.free hd) fun q hq => s1.free (hqs q hq)
theorem ok_mirroredB {f CD : Addr} {fd : FuncData} (F : Fun K "mirrored" "mirrored" sMirrored f fd) (DR : Def1 P w K mg base "refuse_no_drawing" 3 ["rounds"] (spB1 CD)) : FnOk P w K mg base (CX1 P w) 4 f fd ["rounds"] (spB1 CD) := by
  refine F.ok1 scMirrored (fun vs H Q E h => ?_) (fun cdv A outer s H vs Q E hr h => ?_)
  · obtain ⟨p, ps, rs, rfl, _⟩ := h
    rfl
  · obtain ⟨p, ps, rs, rfl, R, b, k⟩ := h
    have hr' : Room 3 _ := hr.mono (by decide)
    refine ⟨_, pss_cons (ps_expr (pcall1 DR hr' (pa_cons (pv 0) pa_nil))) pss_never, ?_⟩
    exact ⟨_, rfl, p, ps, rs, rfl, R, b, k⟩
theorem ok_builtB {f CD : Addr} {fd : FuncData} (F : Fun K "built" "built" sBuilt f fd) (T : Txt mg) (DP : Def1 P w K mg base "pieces" 4 ["rounds"] (spB1 CD)) : FnOk P w K mg base (CX1 P w) 6 f fd ["rounds"] (spB1 CD) := by
  refine F.ok1 scBuilt (fun vs H Q E h => ?_) (fun cdv A outer s H vs Q E hr h => ?_)
  · obtain ⟨p, ps, rs, rfl, _⟩ := h
    rfl
  · obtain ⟨p, ps, rs, rfl, R, b, k⟩ := h
    have hr' : Room 4 _ := hr.mono (by decide)
    refine ⟨_, pss_cons (ps_set (i := 1) scBuilt.nd rfl (Or.inl rfl) (pe_callB call_len_seq (by rfl) T.len PySem.boot_len (pa_cons (pcall1 DP hr' (pa_cons (pv 0) pa_nil)) pa_nil))) pss_never, ?_⟩
    exact ⟨_, rfl, p, ps, rs, rfl, R, b, k⟩
theorem ok_handlesB {f CD : Addr} {fd : FuncData} (F : Fun K "handles" "handles" sHandles f fd) (DB : Def1 P w K mg base "built" 6 ["rounds"] (spB1 CD)) : FnOk P w K mg base (CX1 P w) 7 f fd ["rounds"] (spB1 CD) := by
  refine F.ok1 scHandles (fun vs H Q E h => ?_) (fun cdv A outer s H vs Q E hr h => ?_)
  · obtain ⟨p, ps, rs, rfl, _⟩ := h
    rfl
  · obtain ⟨p, ps, rs, rfl, R, b, k⟩ := h
    have hr' : Room 6 _ := hr.mono (by decide)
    refine ⟨_, pss_one (ps_ret (pe_ix ix_tup (pcall1 DB hr' (pa_cons (pv 0) pa_nil)) pe_int (fun _ _ => rfl))), ?_⟩
    exact ⟨_, rfl, p, ps, rs, rfl, R, b, k⟩
theorem ok_flatB {f CD : Addr} {fd : FuncData} (F : Fun K "is_flat" "is_flat" sFlat f fd) (DH : Def1 P w K mg base "handles" 7 ["rounds"] (spB1 CD)) : FnOk P w K mg base (CX1 P w) 8 f fd ["rounds"] (spB1 CD) := by
  refine F.ok1 scFlat (fun vs H Q E h => ?_) (fun cdv A outer s H vs Q E hr h => ?_)
  · obtain ⟨p, ps, rs, rfl, _⟩ := h
    rfl
  · obtain ⟨p, ps, rs, rfl, R, b, k⟩ := h
    have hr' : Room 7 _ := hr.mono (by decide)
    refine ⟨_, pss_one (ps_ret (pe_cmpR op_eq (pcall1 DH hr' (pa_cons (pv 0) pa_nil)) pe_int (nomark _))), ?_⟩
    exact ⟨_, rfl, p, ps, rs, rfl, R, b, k⟩
theorem ok_twoTreesB {f CD : Addr} {fd : FuncData} (F : Fun K "two_trees" "two_trees" sTwoTrees f fd) (DR : Def1 P w K mg base "refuse_no_drawing" 3 ["rounds"] (spB1 CD)) : FnOk P w K mg base (CX1 P w) 5 f fd ["rounds"] (spB1 CD) := by
  refine F.ok1 scTwoTrees (fun vs H Q E h => ?_) (fun cdv A outer s H vs Q E hr h => ?_)
  · obtain ⟨p, ps, rs, rfl, _⟩ := h
    rfl
  · obtain ⟨p, ps, rs, rfl, R, b, k⟩ := h
    have hr' : Room 3 _ := hr.mono (by decide)
    refine ⟨_, pss_cons (ps_expr (pcall1 DR hr' (pa_cons (pv 0) pa_nil))) pss_never, ?_⟩
    exact ⟨_, rfl, p, ps, rs, rfl, R, b, k⟩
theorem ok_nearB {f CD : Addr} {fd : FuncData} (F : Fun K "all_neighbours" "all_neighbours" sNear f fd) (DR : Def1 P w K mg base "refuse_no_drawing" 3 ["rounds"] (spB1 CD)) : FnOk P w K mg base (CX1 P w) 4 f fd ["rounds"] (spB1 CD) := by
  refine F.ok1 scNear (fun vs H Q E h => ?_) (fun cdv A outer s H vs Q E hr h => ?_)
  · obtain ⟨p, ps, rs, rfl, _⟩ := h
    rfl
  · obtain ⟨p, ps, rs, rfl, R, b, k⟩ := h
    have hr' : Room 3 _ := hr.mono (by decide)
    refine ⟨_, pss_cons (ps_expr (pcall1 DR hr' (pa_cons (pv 0) pa_nil))) pss_never, ?_⟩
    exact ⟨_, rfl, p, ps, rs, rfl, R, b, k⟩
theorem ok_denseB {f CD : Addr} {fd : FuncData} (F : Fun K "dense_part" "dense_part" sDense f fd) (DN : Def1 P w K mg base "all_neighbours" 4 ["rounds"] (spB1 CD)) (DP : Def P w K mg base "peeled" 2 ["near"] spPeeled) : FnOk P w K mg base (CX1 P w) 5 f fd ["rounds"] (spB1 CD) := by
  refine F.ok1 scDense (fun vs H Q E h => ?_) (fun cdv A outer s H vs Q E hr h => ?_)
  · obtain ⟨p, ps, rs, rfl, _⟩ := h
    rfl
  · obtain ⟨p, ps, rs, rfl, R, b, k⟩ := h
    have hr' : Room 4 _ := hr.mono (by decide)
    refine ⟨_, pss_cons (ps_set (i := 1) scDense.nd rfl (Or.inl rfl) (pcall DP (hr.mono (by decide)) (pa_cons (pcall1 DN hr' (pa_cons (pv 0) pa_nil)) pa_nil))) pss_never, ?_⟩
    exact ⟨_, rfl, p, ps, rs, rfl, R, b, k⟩
theorem ok_colouredB {f CD : Addr} {fd : FuncData} (F : Fun K "coloured" "coloured" sColoured f fd) (DN : Def1 P w K mg base "all_neighbours" 4 ["rounds"] (spB1 CD)) : FnOk P w K mg base (CX1 P w) 5 f fd ["rounds"] (spB1 CD) := by
  refine F.ok1 scColoured (fun vs H Q E h => ?_) (fun cdv A outer s H vs Q E hr h => ?_)
  · obtain ⟨p, ps, rs, rfl, _⟩ := h
    rfl
  · obtain ⟨p, ps, rs, rfl, R, b, k⟩ := h
    have hr' : Room 4 _ := hr.mono (by decide)
    refine ⟨_, pss_cons (ps_set (i := 1) scColoured.nd rfl (Or.inl rfl) (pcall1 DN hr' (pa_cons (pv 0) pa_nil))) pss_never, ?_⟩
    exact ⟨_, rfl, p, ps, rs, rfl, R, b, k⟩
theorem ok_manyFacesB {f CD : Addr} {fd : FuncData} (F : Fun K "how_many_faces" "how_many_faces" sManyFaces f fd) (T : Txt mg) (DG : Def1 P w K mg base "faces" 4 ["rounds"] (spB1 CD)) : FnOk P w K mg base (CX1 P w) 5 f fd ["rounds"] (spB1 CD) := by
  refine F.ok1 scManyFaces (fun vs H Q E h => ?_) (fun cdv A outer s H vs Q E hr h => ?_)
  · obtain ⟨p, ps, rs, rfl, _⟩ := h
    rfl
  · obtain ⟨p, ps, rs, rfl, R, b, k⟩ := h
    have hs : sizeLine = 16777216 := sizeLine_eq
    have nd := scManyFaces.nd
    have hrs := b.2.2
    refine ⟨_, pss_cons (ps_setComp (i0 := 1) (tc := tTest (tOp rEq (tLen K 0) (tC (.int 0)))) (te := tVar 0) nd rfl (Or.inl rfl) rfl (fun _ => Blk.plain rfl (by decide +kernel) (by decide +kernel)) (pi_list (pv 0)) (fun _ _ _ _ => pts_one (pt_cmpR op_eq (pe_callB call_len_seq (by rfl) T.len PySem.boot_len (pa_cons (pv 0) pa_nil)) pe_int (nomark _))) (fun _ _ _ _ => pv 0))
      (pss_one (ps_ret (pe_op op_add (pe_callB call_len_seq (by rfl) T.len PySem.boot_len (pa_cons (pcall1 DG hr (pa_cons (pv 0) pa_nil)) pa_nil)) (pe_callB call_len_seq (by rfl) T.len PySem.boot_len (pa_cons (pv 1) pa_nil))))), ?_⟩
    refine ⟨_, rfl, p, rfl, ⟨_, .of R.out⟩, fun d hd => comp_list (xs := ps.map V.ref) (fun i H2 => ∃ qs : List V, Same H H2 ∧ H2 d = some (.lst qs) ∧ qs.length ≤ i) ⟨[], (Same.refl H).put hd, upd_same, Nat.zero_le _⟩ (fun i H2 _ ⟨_, s2, _⟩ => .of (s2 _ _ R.out)) ?_ ?_⟩
    · rintro i y H2 hi ⟨qs, s2, hL, hli⟩
      obtain ⟨q, hq, rfl⟩ := ref_at hi
      obtain ⟨r, hr', hH⟩ := R.at hq
      have hir : i < rs.length := (List.getElem?_eq_some_iff.mp hr').1
      refine ⟨_, rfl, q, _, rfl, .inl (.of (s2 _ _ hH)), rfl, _, rfl, ?_⟩
      refine ite2 (fun h => ?_) (fun h => ?_)
      · exact ⟨_, rfl, qs, hL, by omega, qs ++ [.ref q], s2.put hd, upd_same, by rw [List.length_append]; show qs.length + 1 ≤ _; omega⟩
      · exact ⟨qs, s2, hL, by omega⟩
    · rintro H2 ⟨qs, s2, hL, _⟩
      exact ⟨_, rfl, p, ps, rs, rfl, R.same s2, b, fun H' s' => k H' (s2.trans s')⟩
theorem scWithout : FnScope ["rounds", "rope", "last", "renamed"] ["rounds", "rope"] (defScope sWithout) := ⟨rfl, rfl, rfl, by decide +kernel, rfl, by decide +kernel, by decide +kernel⟩
theorem ok_withoutB {f CD : Addr} {fd : FuncData} (F : Fun K "without" "without" sWithout f fd) (DR : Def1 P w K mg base "refuse_no_drawing" 3 ["rounds"] (spB1 CD)) : FnOk P w K mg base (CX1 P w) 4 f fd ["rounds", "rope"] (spB2 CD) := by
  refine F.ok1 scWithout (fun vs H Q E h => ?_) (fun cdv A outer s H vs Q E hr h => ?_)
  · obtain ⟨p, ps, rs, v, rfl, _⟩ := h
    rfl
  · obtain ⟨p, ps, rs, v, rfl, R, b, k⟩ := h
    have hr' : Room 3 _ := hr.mono (by decide)
    refine ⟨_, pss_cons (ps_expr (pcall1 DR hr' (pa_cons (pv 0) pa_nil))) pss_never, ?_⟩
    exact ⟨_, rfl, p, ps, rs, rfl, R, b, k⟩
theorem ok_withoutE {f CE : Addr} {fd : FuncData} (F : Fun K "without" "without" sWithout f fd) (T : Txt mg) (O : ExcC K mg "NoEnd" CE) (DR : Def P w K mg base "refuse_no_drawing" 3 ["rounds"] spRefuse) (DN : Def P w K mg base "how_many_ropes" 1 ["rounds"] spRopes) : FnOk P w K mg base (CX1 P w) 4 f fd ["rounds", "rope"] (spE2 CE isM1) := by
  refine F.ok1 scWithout (fun vs H Q E h => ?_) (fun cdv A outer s H vs Q E hr3 h => ?_)
  · obtain ⟨p, ps, rs, n, v, rfl, _⟩ := h
    rfl
  · obtain ⟨p, ps, rs, n, v, rfl, R, D, hn, hrs, rfl, k⟩ := h
    have nd := scWithout.nd
    have hr1 : Room 1 _ := hr3.mono (by decide)
    refine ⟨_, pss_cons (ps_expr (pcall DR hr3 (pa_cons (pv 0) pa_nil))) (pss_cons (ps_set (i := 2) nd rfl (Or.inl rfl) (pe_op op_sub (pcall DN hr1 (pa_cons (pv 0) pa_nil)) pe_int)) (pss_cons (ps_if (pw_or (pt_cmpR op_lt (pv 1) pe_int (nomark _)) (pw_or1 (pt_cmpR op_gt (pv 1) (pv 2) (nomark _)))).pt (pss_one (ps_raise O (by rfl))) (pss_never)) pss_never)), ?_⟩
    refine ⟨_, rfl, p, ps, rs, n, rfl, R, D, hn, fun H1 s1 => ?_⟩
    refine ⟨_, rfl, p, ps, rs, n, rfl, R.same s1, D, by omega, fun H2 s2 => ⟨_, _, rfl, rfl, ?_⟩⟩
    refine ⟨_, rfl, _, _, rfl, rfl, _, rfl, ?_⟩
    exact iteT (iteT (k H2 (s1.trans s2)))
theorem scRefNoEnds : FnScope ["point_of", "ring", "end"] ["point_of", "ring"] (defScope sRefNoEnds) := ⟨rfl, rfl, rfl, by decide +kernel, rfl, by decide +kernel, by decide +kernel⟩
theorem ok_refNoEndsB {f : Addr} {fd : FuncData} {CE : Addr} (F : Fun K "refuse_no_ends" "refuse_no_ends" sRefNoEnds f fd) (O : ExcC K mg "NoEnd" CE) : FnOk P w K mg base (CX1 P w) 1 f fd ["point_of", "ring"] (spNoEndsB CE) := by
  refine F.ok1 scRefNoEnds (fun vs H Q E h => ?_) (fun cdv A outer s H vs Q E hr h => ?_)
  · obtain ⟨d, a, kvs, rfl, _⟩ := h
    rfl
  · obtain ⟨d, a, kvs, rfl, hd, hv, hA, k⟩ := h
    have nd := scRefNoEnds.nd
    have hu1 := hu_of hr
    refine ⟨_, pss_one (ps_for PassesOwn.leaving rfl (pi_list (pv 1)) (pg_name (i := 2) nd rfl (Or.inl rfl)) (pss_one (ps_if (pt_cmp (pc_dnotin hu1 (pv 2) (pv 0))) (pss_one (ps_raise O rfl)) (pss_nil)))), ?_⟩
    refine ⟨_, rfl, a, rfl, ⟨_, .of hA⟩, for_list (K := K) (a := a) (xs := [.int (-1)]) (fun i σ H2 => i = 0 ∧ H2 = H ∧ ∃ v2, σ = [some (.ref d), some (.ref a), v2]) ⟨rfl, rfl, none, rfl⟩ (fun i σ H2 _ ⟨_, e, _⟩ => by rw [e]; exact .of hA) ?_ ?_⟩
    · rintro i x σ H2 hi ⟨rfl, rfl, v2, rfl⟩
      have hx : x = .int (-1) := by simpa using hi.symm
      subst hx
      refine ⟨_, rfl, _, rfl, d, _, rfl, DGet.k (k := (Sum.inl (-1) : Key)) hd, _, rfl, ?_⟩
      rw [hv]
      exact iteT k
    · rintro σ H2 ⟨h0, _⟩
      exact absurd h0 (by decide)
theorem scSides : FnScope ["rounds", "ring", "point_of", "told", "face_of", "ropes", "ways", "one", "other"] ["rounds", "ring"] (defScope sSides) := ⟨rfl, rfl, rfl, by decide +kernel, rfl, by decide +kernel, by decide +kernel⟩
theorem ok_sidesB {f CD : Addr} {fd : FuncData} (F : Fun K "sides" "sides" sSides f fd) (DR : Def1 P w K mg base "refuse_no_drawing" 3 ["rounds"] (spB1 CD)) : FnOk P w K mg base (CX1 P w) 5 f fd ["rounds", "ring"] (spB2 CD) := by
  refine F.ok1 scSides (fun vs H Q E h => ?_) (fun cdv A outer s H vs Q E hr h => ?_)
  · obtain ⟨p, ps, rs, v, rfl, _⟩ := h
    rfl
  · obtain ⟨p, ps, rs, v, rfl, R, b, k⟩ := h
    have hr' : Room 3 _ := hr.mono (by decide)
    refine ⟨_, pss_cons (ps_expr (pcall1 DR hr' (pa_cons (pv 0) pa_nil))) pss_never, ?_⟩
    exact ⟨_, rfl, p, ps, rs, rfl, R, b, k⟩
theorem ok_sidesE {f CE : Addr} {fd : FuncData} (F : Fun K "sides" "sides" sSides f fd) (DR : Def P w K mg base "refuse_no_drawing" 3 ["rounds"] spRefuse) (DP : Def P w K mg base "points_of_ends" 1 ["rounds"] spPointsX) (DE : Def1 P w K mg base "refuse_no_ends" 1 ["point_of", "ring"] (spNoEndsB CE)) : FnOk P w K mg base (CX1 P w) 5 f fd ["rounds", "ring"] (spE2 CE isL1) := by
  refine F.ok1 scSides (fun vs H Q E h => ?_) (fun cdv A outer s H vs Q E hr h => ?_)
  · obtain ⟨p, ps, rs, n, v, rfl, _⟩ := h
    rfl
  · obtain ⟨p, ps, rs, n, v, rfl, R, D, hn, hrs, ⟨a, rfl, hA⟩, k⟩ := h
    have nd := scSides.nd
    have hr1 : Room 1 _ := hr.mono (by decide)
    have hr3 : Room 3 _ := hr.mono (by decide)
    refine ⟨_, pss_cons (ps_expr (pcall DR hr3 (pa_cons (pv 0) pa_nil))) (pss_cons (ps_set (i := 2) nd rfl (Or.inl rfl) (pcall DP hr1 (pa_cons (pv 0) pa_nil))) (pss_cons (ps_expr (pcall1 DE hr1 (pa_cons (pv 2) (pa_cons (pv 1) pa_nil)))) pss_never)), ?_⟩
    refine ⟨_, rfl, p, ps, rs, n, rfl, R, D, hn, fun H1 s1 => ?_⟩
    refine ⟨_, rfl, p, ps, rs, n, rfl, R.same s1, D, by omega, by omega, fun d H2 hd TB s2 => ?_⟩
    obtain ⟨kvs, t1, t2, t3, t4⟩ := TB.ex
    exact ⟨_, rfl, _, rfl, d, a, kvs, rfl, t1, t4 (-1) (by omega), s2 _ _ (s1 _ _ hA), k H2 (s1.trans s2)⟩
end
end Ink
namespace Ink
open PySem L2
def Outc (CE CN CD : Addr) (rs : Rs) (H : Hp) (Q : VK) (E : XK) : Prop := ((∃ n, Dr rs n) ∧ (∀ H', Same H H' → Q .non H') ∧ (∀ H', Same H H' → E (.ref CN) none H') ∧ ∀ H', Same H H' → E (.ref CE) none H') ∨ (told rs.flatten = false ∧ ∀ H', Same H H' → E (.ref CD) none H')
def spOf (CE CN CD : Addr) : Sp := fun vs H Q E => ∃ (p : Addr) (ps : List Addr) (rs : Rs) (way : Int), vs = [.int way, .ref p] ∧ Rows H p ps rs ∧ rs.flatten.length < 64 ∧ rs.length < 64 ∧ Outc CE CN CD rs H Q E
def spRefuses : Sp := fun vs H Q _ => ∃ (p : Addr) (ps : List Addr) (rs : Rs) (way : Int), vs = [.int way, .ref p] ∧ Rows H p ps rs ∧ rs.flatten.length < 64 ∧ rs.length < 64 ∧
  (((∃ n, Dr rs n) ∧ ∀ H', Same H H' → Q (.bl false) H') ∨ (told rs.flatten = false ∧ ∀ H', Same H H' → Q (.bl true) H'))
structure ExT11 (K : PySem.W.Frag) (mg : Str → Option Value) (CE CN CD CI CR : Addr) : Prop where
  exE : mg "NoEnd" = some (.ref CE)
  exN : mg "NoColours" = some (.ref CN)
  exD : mg "NoDrawing" = some (.ref CD)
  rng : mg "NoRing" = some (.ref CR)
  ink : mg "InkError" = some (.ref CI)
  vE : mg "ValueError" = none
  kE : ExK K CE
  kN : ExK K CN
  kD : ExK K CD
  mE : PySem.W.exmOne K (.ref CE) (.ref CI) = some true
  mN : PySem.W.exmOne K (.ref CN) (.ref CI) = some true
  mD : PySem.W.exmOne K (.ref CD) (.ref CI) = some true
  nE : PySem.W.kitAny K (.ref CE) [.ref CN, .ref CE, .ref CR] = some true
  nN : PySem.W.kitAny K (.ref CN) [.ref CN, .ref CE, .ref CR] = some true
  nD : PySem.W.kitAny K (.ref CD) [.ref CN, .ref CE, .ref CR] = some false
  oD : PySem.W.kitOne K (.ref CD) (.ref CD) = some true
  oV : PySem.W.kitOne K (.ref CD) (.type "ValueError") = some true
theorem tops {CE CN CD : Addr} {rs : Rs} {H : Hp} {Q : VK} {E : XK} (h : Outc CE CN CD rs H Q E) : ((∃ n, Dr rs n) ∧ (∀ v H', Same H H' → (fun (_ : V) H' => Q .non H') v H') ∧ ∀ H', Same H H' → E (.ref CN) none H') ∨ (told rs.flatten = false ∧ ∀ H', Same H H' → E (.ref CD) none H') :=
  h.imp (fun ⟨a, b, c, _⟩ => ⟨a, fun _ H' s => b H' s, c⟩) id
section
variable {P : Program} {w : World} {K : PySem.W.Frag} {mg : Str → Option Value} {base : Heap}
theorem scOfR : FnScope ["_law_way", "_law_rounds"] ["_law_way", "_law_rounds"] (defScope sOfRounds) := ⟨rfl, rfl, rfl, by decide +kernel, rfl, by decide +kernel, by decide +kernel⟩
theorem ok_ofR {f CE CN CD : Addr} {fd : FuncData} (F : Fun K "_law_of_rounds" "_law_of_rounds" sOfRounds f fd) (DFa : Def1 P w K mg base "faces" 4 ["rounds"] (spU CN CD)) (DIn : Def1 P w K mg base "inside_out" 5 ["rounds"] (spU CN CD)) (DMi : Def1 P w K mg base "mirrored" 4 ["rounds"] (spU CN CD)) (DPi : Def1 P w K mg base "pieces" 4 ["rounds"] (spU CN CD)) (DMa : Def1 P w K mg base "how_many_faces" 5 ["rounds"] (spU CN CD)) (DHa : Def1 P w K mg base "handles" 7 ["rounds"] (spU CN CD)) (DFl : Def1 P w K mg base "is_flat" 8 ["rounds"] (spU CN CD)) : FnOk P w K mg base (CX1 P w) 9 f fd ["_law_way", "_law_rounds"] (spOf CE CN CD) := by
  refine F.ok1 scOfR (fun vs H Q E h => ?_) (fun cdv A outer s H vs Q E hr h => ?_)
  · obtain ⟨p, ps, rs, way, rfl, _⟩ := h
    rfl
  · obtain ⟨p, ps, rs, way, rfl, R, h1, h2, hh⟩ := h
    have key := tops hh
    refine ⟨_, pss_one (ps_if (pt_cmpR op_eq (pv 0) pe_int (nomark _)) (pss_one (ps_expr (pcall1 DFa (hr.mono (by decide)) (pa_cons (pv 1) pa_nil)))) (pss_one (ps_if (pt_cmpR op_eq (pv 0) pe_int (nomark _)) (pss_one (ps_expr (pcall1 DIn (hr.mono (by decide)) (pa_cons (pv 1) pa_nil)))) (pss_one (ps_if (pt_cmpR op_eq (pv 0) pe_int (nomark _)) (pss_one (ps_expr (pcall1 DMi (hr.mono (by decide)) (pa_cons (pv 1) pa_nil)))) (pss_one (ps_if (pt_cmpR op_eq (pv 0) pe_int (nomark _)) (pss_one (ps_expr (pcall1 DPi (hr.mono (by decide)) (pa_cons (pv 1) pa_nil)))) (pss_one (ps_if (pt_cmpR op_eq (pv 0) pe_int (nomark _)) (pss_one (ps_expr (pcall1 DMa (hr.mono (by decide)) (pa_cons (pv 1) pa_nil)))) (pss_one (ps_if (pt_cmpR op_eq (pv 0) pe_int (nomark _)) (pss_one (ps_expr (pcall1 DHa (hr.mono (by decide)) (pa_cons (pv 1) pa_nil)))) (pss_one (ps_expr (pcall1 DFl (hr.mono (by decide)) (pa_cons (pv 1) pa_nil))))))))))))))), ?_⟩
    refine ⟨_, rfl, rfl, _, rfl, ite2 (fun _ => ⟨_, rfl, p, ps, rs, rfl, R, h1, h2, key⟩) (fun _ => ?_)⟩
    refine ⟨_, rfl, rfl, _, rfl, ite2 (fun _ => ⟨_, rfl, p, ps, rs, rfl, R, h1, h2, key⟩) (fun _ => ?_)⟩
    refine ⟨_, rfl, rfl, _, rfl, ite2 (fun _ => ⟨_, rfl, p, ps, rs, rfl, R, h1, h2, key⟩) (fun _ => ?_)⟩
    refine ⟨_, rfl, rfl, _, rfl, ite2 (fun _ => ⟨_, rfl, p, ps, rs, rfl, R, h1, h2, key⟩) (fun _ => ?_)⟩
    refine ⟨_, rfl, rfl, _, rfl, ite2 (fun _ => ⟨_, rfl, p, ps, rs, rfl, R, h1, h2, key⟩) (fun _ => ?_)⟩
    refine ⟨_, rfl, rfl, _, rfl, ite2 (fun _ => ⟨_, rfl, p, ps, rs, rfl, R, h1, h2, key⟩) (fun _ => ?_)⟩
    exact ⟨_, rfl, p, ps, rs, rfl, R, h1, h2, key⟩
theorem scAsked : FnScope ["_law_way", "_law_rounds"] ["_law_way", "_law_rounds"] (defScope sAskedL) := ⟨rfl, rfl, rfl, by decide +kernel, rfl, by decide +kernel, by decide +kernel⟩
theorem ok_asked {f CE CN CD : Addr} {fd : FuncData} (F : Fun K "_law_asked" "_law_asked" sAskedL f fd) (DOf : Def1 P w K mg base "_law_of_rounds" 9 ["_law_way", "_law_rounds"] (spOf CE CN CD)) (DBu : Def1 P w K mg base "built" 6 ["rounds"] (spU CN CD)) (DTw : Def1 P w K mg base "two_trees" 5 ["rounds"] (spU CN CD)) (DDe : Def1 P w K mg base "dense_part" 5 ["rounds"] (spU CN CD)) (DCo : Def1 P w K mg base "coloured" 5 ["rounds"] (spU CN CD)) (DWi : Def1 P w K mg base "without" 4 ["rounds", "rope"] (spU2 CE CD isM1)) (DSi : Def1 P w K mg base "sides" 5 ["rounds", "ring"] (spU2 CE CD isL1)) : FnOk P w K mg base (CX1 P w) 10 f fd ["_law_way", "_law_rounds"] (spOf CE CN CD) := by
  refine F.ok1 scAsked (fun vs H Q E h => ?_) (fun cdv A outer s H vs Q E hr h => ?_)
  · obtain ⟨p, ps, rs, way, rfl, _⟩ := h
    rfl
  · obtain ⟨p, ps, rs, way, rfl, R, h1, h2, hh⟩ := h
    have hs : sizeLine = 16777216 := sizeLine_eq
    have key := tops hh
    have key2 : ((∃ n, Dr rs n) ∧ ∀ H', Same H H' → E (.ref CE) none H') ∨ (told rs.flatten = false ∧ ∀ H', Same H H' → E (.ref CD) none H') := hh.imp (fun ⟨a, _, _, d⟩ => ⟨a, d⟩) id
    refine ⟨_, pss_one (ps_if (pt_cmpR op_lt (pv 0) pe_int (nomark _)) (pss_one (ps_expr (pcall1 DOf (hr.mono (by decide)) (pa_cons (pv 0) (pa_cons (pv 1) pa_nil))))) (pss_one (ps_if (pt_cmpR op_eq (pv 0) pe_int (nomark _)) (pss_one (ps_expr (pcall1 DBu (hr.mono (by decide)) (pa_cons (pv 1) pa_nil)))) (pss_one (ps_if (pt_cmpR op_eq (pv 0) pe_int (nomark _)) (pss_one (ps_expr (pcall1 DWi (hr.mono (by decide)) (pa_cons (pv 1) (pa_cons (pe_un un_neg pe_int) pa_nil))))) (pss_one (ps_if (pt_cmpR op_eq (pv 0) pe_int (nomark _)) (pss_one (ps_expr (pcall1 DSi (hr.mono (by decide)) (pa_cons (pv 1) (pa_cons (pe_lst (pa_cons (pe_un un_neg pe_int) pa_nil)) pa_nil))))) (pss_one (ps_if (pt_cmpR op_eq (pv 0) pe_int (nomark _)) (pss_one (ps_expr (pcall1 DTw (hr.mono (by decide)) (pa_cons (pv 1) pa_nil)))) (pss_one (ps_if (pt_cmpR op_eq (pv 0) pe_int (nomark _)) (pss_one (ps_expr (pcall1 DDe (hr.mono (by decide)) (pa_cons (pv 1) pa_nil)))) (pss_one (ps_expr (pcall1 DCo (hr.mono (by decide)) (pa_cons (pv 1) pa_nil))))))))))))))), ?_⟩
    refine ⟨_, rfl, _, _, rfl, rfl, _, rfl, ite2 (fun _ => ⟨_, rfl, _, rfl, p, ps, rs, way, rfl, R, h1, h2, hh⟩) (fun _ => ?_)⟩
    refine ⟨_, rfl, rfl, _, rfl, ite2 (fun _ => ⟨_, rfl, p, ps, rs, rfl, R, h1, h2, key⟩) (fun _ => ?_)⟩
    refine ⟨_, rfl, rfl, _, rfl, ite2 (fun _ => ⟨_, rfl, _, rfl, p, ps, rs, _, rfl, R, h1, h2, rfl, key2⟩) (fun _ => ?_)⟩
    refine ⟨_, rfl, rfl, _, rfl, ite2 (fun _ => ⟨_, rfl, _, rfl, (by show 1 ≤ sizeLine; omega), fun l hl => ?_⟩) (fun _ => ?_)⟩
    · have sl : Same H (L2.upd H l (.lst [.int (-1)])) := (Same.refl H).put hl
      exact ⟨p, ps, rs, _, rfl, R.same sl, h1, h2, ⟨l, rfl, upd_same⟩, key2.imp (fun ⟨a, d⟩ => ⟨a, fun H' s' => d H' (sl.trans s')⟩) (fun ⟨a, d⟩ => ⟨a, fun H' s' => d H' (sl.trans s')⟩)⟩
    refine ⟨_, rfl, rfl, _, rfl, ite2 (fun _ => ⟨_, rfl, p, ps, rs, rfl, R, h1, h2, key⟩) (fun _ => ?_)⟩
    refine ⟨_, rfl, rfl, _, rfl, ite2 (fun _ => ⟨_, rfl, p, ps, rs, rfl, R, h1, h2, key⟩) (fun _ => ?_)⟩
    exact ⟨_, rfl, p, ps, rs, rfl, R, h1, h2, key⟩
theorem scRefuses : FnScope ["_law_way", "_law_rounds", "e"] ["_law_way", "_law_rounds"] (defScope sRefuses) := ⟨rfl, rfl, rfl, by decide +kernel, rfl, by decide +kernel, by decide +kernel⟩
theorem ok_refuses {f CE CN CD CI CR : Addr} {fd : FuncData} (F : Fun K "_law_refuses" "_law_refuses" sRefuses f fd) (T : Txt mg) (TX : ExT11 K mg CE CN CD CI CR) (DAs : Def1 P w K mg base "_law_asked" 10 ["_law_way", "_law_rounds"] (spOf CE CN CD)) : FnOk P w K mg base CX0 11 f fd ["_law_way", "_law_rounds"] spRefuses := by
  refine F.ok scRefuses (fun vs H Q E h => ?_) (fun cdv A outer s H vs Q E hr h => ?_)
  · obtain ⟨p, ps, rs, way, rfl, _⟩ := h
    rfl
  · obtain ⟨p, ps, rs, way, rfl, R, h1, h2, hh⟩ := h
    have hs : sizeLine = 16777216 := sizeLine_eq
    have nd := scRefuses.nd
    refine ⟨_, pss_cons (ps_tryAs (i := 2) (fun pn xe E1 σ1 hx => pss_one (ps_expr (pcallX DAs hr hx (pa_cons (pv 0) (pa_cons (pv 1) pa_nil))))) TX.ink rfl rfl nd rfl (fun a => pss_cons (ps_if (pt_val (pe_callB (r := rIsx K) call_isx (by rfl) T.isi PyProof.Rows.boot_isinstance (pa_cons (pv 2) (pa_cons (pe_tup (pa_cons (pe_glob (v := .ref CN) (by rfl) TX.exN rfl) (pa_cons (pe_glob (v := .ref CE) (by rfl) TX.exE rfl) (pa_cons (pe_glob (v := .ref CR) (by rfl) TX.rng rfl) pa_nil)))) pa_nil)))) (pss_one (ps_ret pe_bl)) (pss_nil))
      (pss_one (ps_ret (pe_and (pe_callB (r := rIsx K) call_isx (by rfl) T.isi PyProof.Rows.boot_isinstance (pa_cons (pv 2) (pa_cons (pe_glob (v := .ref CD) (by rfl) TX.exD rfl) pa_nil))) (pe_one (pe_callB (r := rIsx K) call_isx (by rfl) T.isi PyProof.Rows.boot_isinstance (pa_cons (pv 2) (pa_cons (pe_bltn (v := .ty "ValueError") (by rfl) TX.vE PyProof.Rows.Boot.«ValueError» rfl) pa_nil)))))))) rfl rfl rfl)
      (pss_one (ps_ret pe_bl)), ?_⟩
    refine ⟨rfl, _, rfl, _, rfl, p, ps, rs, way, rfl, R, h1, h2, ?_⟩
    rcases hh with ⟨gd, k⟩ | ⟨bd, k⟩
    · refine .inl ⟨gd, fun H1 s1 => k H1 s1, fun H1 s1 a ha => ⟨TX.mN, ?_⟩, fun H1 s1 a ha => ⟨TX.mE, ?_⟩⟩
      rotate_left
      have s2 : Same H (L2.upd H1 a (excO a (.ref CE))) := s1.put (s1.free ha)
      have hA := upd_same (H := H1) (a := a) (o := excO a (.ref CE))
      generalize L2.upd H1 a (excO a (.ref CE)) = H2 at s2 hA
      refine ⟨_, rfl, (by show 3 ≤ sizeLine; omega), fun t ht => ?_⟩
      have s3 : Same H2 (L2.upd H2 t (.tup [.ref CN, .ref CE, .ref CR])) := (Same.refl H2).put ht
      refine ⟨a, CE, .ref t, true, rfl, s3 _ _ hA, TX.kE, .inr ⟨t, _, rfl, .of upd_same, (fun c hc => ?_), TX.nE⟩, _, rfl, iteT ?_⟩
      · have : c = .ref CN ∨ c = .ref CE ∨ c = .ref CR := by simpa using hc
        rcases this with rfl | rfl | rfl <;> (intro z; cases z)
      exact k _ (s2.trans s3)
      have s2 : Same H (L2.upd H1 a (excO a (.ref CN))) := s1.put (s1.free ha)
      have hA := upd_same (H := H1) (a := a) (o := excO a (.ref CN))
      generalize L2.upd H1 a (excO a (.ref CN)) = H2 at s2 hA
      refine ⟨_, rfl, (by show 3 ≤ sizeLine; omega), fun t ht => ?_⟩
      have s3 : Same H2 (L2.upd H2 t (.tup [.ref CN, .ref CE, .ref CR])) := (Same.refl H2).put ht
      refine ⟨a, CN, .ref t, true, rfl, s3 _ _ hA, TX.kN, .inr ⟨t, _, rfl, .of upd_same, (fun c hc => ?_), TX.nN⟩, _, rfl, iteT ?_⟩
      · have : c = .ref CN ∨ c = .ref CE ∨ c = .ref CR := by simpa using hc
        rcases this with rfl | rfl | rfl <;> (intro z; cases z)
      exact k _ (s2.trans s3)
    · refine .inr ⟨bd, fun H1 s1 a ha => ⟨TX.mD, ?_⟩⟩
      have s2 : Same H (L2.upd H1 a (excO a (.ref CD))) := s1.put (s1.free ha)
      have hA := upd_same (H := H1) (a := a) (o := excO a (.ref CD))
      generalize L2.upd H1 a (excO a (.ref CD)) = H2 at s2 hA
      refine ⟨_, rfl, (by show 3 ≤ sizeLine; omega), fun t ht => ?_⟩
      have s3 : Same H2 (L2.upd H2 t (.tup [.ref CN, .ref CE, .ref CR])) := (Same.refl H2).put ht
      refine ⟨a, CD, .ref t, false, rfl, s3 _ _ hA, TX.kD, .inr ⟨t, _, rfl, .of upd_same, (fun c hc => ?_), TX.nD⟩, _, rfl, iteF ?_⟩
      · have : c = .ref CN ∨ c = .ref CE ∨ c = .ref CR := by simpa using hc
        rcases this with rfl | rfl | rfl <;> (intro z; cases z)
      have hA3 := s3 _ _ hA
      refine ⟨_, rfl, a, CD, .ref CD, true, rfl, hA3, TX.kD, .inl ⟨(by intro z; cases z), TX.oD⟩, _, rfl, iteT ?_⟩
      refine ⟨_, rfl, a, CD, .ty "ValueError", true, rfl, hA3, TX.kD, .inl ⟨(by intro z; cases z), TX.oV⟩, ?_⟩
      exact k _ (s2.trans s3)
end
end Ink
namespace Ink
open PySem L2
def spLaw (K : PySem.W.Frag) : Sp := fun vs H Q _ => ∃ (a : Addr) (ns : List Int), vs = [.ref a] ∧ SqL K H a (ns.map V.int) ∧ ns.length ≤ 63 ∧ ∀ H', Q (.bl true) H'
theorem seq_join3 {t1 t2 t3 t4 : TS} {D : Ends} {σ : St} {H : Hp} (J : St → Hp → Prop) (h4 : ∀ σ' H', J σ' H' → t4 D σ' H') (h1 : (∀ σ' H', J σ' H' → t4 D σ' H') → tSeq t1 (tSeq t2 (tSeq t3 t4)) D σ H) : tSeq t1 (tSeq t2 (tSeq t3 t4)) D σ H := h1 h4
theorem told_odd {l : List Int} (h : l.length % 2 = 1) : told l = false := decide_eq_false fun z => by omega
theorem told_out {l : List Int} {x : Int} (hx : x ∈ l) (h : (l.length : Int) ≤ x) : told l = false := decide_eq_false fun z => by
  have := (z.2.mem_iff (a := x)).mp hx
  have := nums_iff.mp (show x ∈ nums l.length from this)
  omega
theorem ixR0 {q : Addr} {ps : List Addr} : ixN (List.map V.ref (q :: ps)).length 0 = some 0 := by
  unfold ixN
  rw [if_pos (by decide), if_pos (by rw [List.length_map, List.length_cons]; omega)]
  rfl
theorem ixI0 {x : Int} {r : List Int} : ixN (List.map V.int (x :: r)).length 0 = some 0 := by
  unfold ixN
  rw [if_pos (by decide), if_pos (by rw [List.length_map, List.length_cons]; omega)]
  rfl
section
variable {P : Program} {w : World} {K : PySem.W.Frag} {mg : Str → Option Value} {base : Heap}
theorem scLaw : FnScope ["_law_script", "_law_rounds", "_law_way", "_law_handed", "_law_turn"] ["_law_script"] (defScope sLaw) := ⟨rfl, rfl, rfl, by decide +kernel, rfl, by decide +kernel, by decide +kernel⟩
set_option maxHeartbeats 8000000 in
theorem ok_law {f : Addr} {fd : FuncData} (F : Fun K "law" "law" sLaw f fd) (T : Txt mg) (DU : Def P w K mg base "_law_upto" 1 ["_law_script", "_law_small", "_law_great"] (spUpto K)) (DT : Def P w K mg base "_law_at" 1 ["_law_script", "_law_k"] (spAt K))
    (DD : Def P w K mg base "_law_drawn" 3 ["_law_cells", "_law_mode"] (spDrawn K)) (DC : Def P w K mg base "_law_copies" 1 ["_law_rounds"] spCopies) (DF : Def P w K mg base "_law_refuses" 11 ["_law_way", "_law_rounds"] spRefuses) (DL : Def P w K mg base "_law_like" 1 ["_law_found", "_law_due"] spLike) : FnOk P w K mg base CX0 12 f fd ["_law_script"] (spLaw K) := by
  refine F.ok scLaw (fun vs H Q E h => ?_) (fun cdv A outer s H vs Q E hr11 h => ?_)
  · obtain ⟨a, ns, rfl, _⟩ := h
    rfl
  · obtain ⟨a, ns, rfl, hS, hns, kk⟩ := h
    have hs : sizeLine = 16777216 := sizeLine_eq
    have nd := scLaw.nd
    have hr1 : Room 1 _ := hr11.mono (by decide)
    have hr3 : Room 3 _ := hr11.mono (by decide)
    refine ⟨_, pss_cons (ps_set (i := 0) nd rfl (Or.inl rfl) (pe_slice sl_list (pv 0) po_none (po_some pe_int)))
      (pss_cons (ps_set (i := 1) nd rfl (Or.inl rfl) (pcall DD hr3 (pa_cons (pe_slice sl_list (pv 0) (po_some pe_int) (po_some (pcall DU hr1 (pa_cons (pv 0) (pa_cons pe_int (pa_cons pe_int pa_nil)))))) (pa_cons (pe_op op_mod (pcall DT hr1 (pa_cons (pv 0) (pa_cons pe_int pa_nil))) pe_int) pa_nil))))
      (pss_cons (ps_set (i := 2) nd rfl (Or.inl rfl) (pe_op op_mod (pcall DT hr1 (pa_cons (pv 0) (pa_cons pe_int pa_nil))) pe_int))
      (pss_cons (ps_if (pt_cmpR op_eq (pv 2) pe_int (nomark _)) (pss_one (ps_asg (pe_slice sl_list (pe_ix (r := rIxL K) ix_list (pv 1) pe_int (fun _ _ => rfl)) (po_some pe_int) po_none) (pg_sub (pv 1) pe_int set_list))) (pss_nil))
      (pss_cons (ps_if (pt_cmpR op_eq (pv 2) pe_int (nomark _)) (pss_one (ps_expr (pe_bm PySem.F.plainAttrs_list PySem.F.slot_list_append PySem.F.type_list_append mt_append (pe_ix (r := rIxL K) ix_list (pv 1) pe_int (fun _ _ => rfl)) (pa_cons (pe_ix (r := rIxL K) ix_list (pe_ix (r := rIxL K) ix_list (pv 1) pe_int (fun _ _ => rfl)) pe_int (fun _ _ => rfl)) pa_nil)))) (pss_nil))
      (pss_cons (ps_if (pt_cmpR op_eq (pv 2) pe_int (nomark _)) (pss_one (ps_asg (pe_op op_pow pe_int pe_int) (pg_sub (pe_ix (r := rIxL K) ix_list (pv 1) pe_int (fun _ _ => rfl)) pe_int set_list))) (pss_nil))
      (pss_cons (ps_set (i := 3) nd rfl (Or.inl rfl) (pcall DC hr1 (pa_cons (pv 1) pa_nil)))
      (pss_cons (ps_for PassesOwn.never rfl (pi_range1 (by rfl) T.range (pa_cons pe_int pa_nil)) (pg_name (i := 4) nd rfl (Or.inl rfl)) (pss_one (ps_if (pt_cmpR op_ne (pcall DF hr11 (pa_cons (pv 4) (pa_cons (pv 3) pa_nil))) (pe_chain op_lt op_lt pe_int (pv 2) pe_int) (nomark _)) (pss_one (ps_ret pe_bl)) (pss_nil))))
      (pss_one (ps_ret (pcall DL hr1 (pa_cons (pv 3) (pa_cons (pv 1) pa_nil)))))))))))), ?_⟩
    obtain ⟨sc, hsc, lsc, _⟩ := cut_ints ns none (some 100)
    refine ⟨_, rfl, _, rfl, a, _, rfl, hS, fun a1 h1 => ?_⟩
    rw [hsc]
    have hS1 : SqL K (L2.upd H a1 (.lst (sc.map V.int))) a1 (sc.map V.int) := .of upd_same
    generalize L2.upd H a1 (.lst (sc.map V.int)) = H1 at hS1
    obtain ⟨cs, hcs, lcs, lcs2⟩ := cut_ints sc (some 2) (some 22)
    have hc20 : cs.length ≤ 20 := by
      have e1 : HT.sIx sc.length sc.length (some 22) = min 22 sc.length := sIx_le (k := 22)
      have e2 : HT.sIx sc.length 0 (some 2) = min 2 sc.length := sIx_le (k := 2)
      rw [e1, e2] at lcs2
      omega
    refine ⟨_, rfl, _, rfl, _, rfl, a1, sc, 22, 100, rfl, hS1, by omega, _, rfl, a1, _, rfl, hS1, fun a2 h2 => ?_⟩
    rw [hcs]
    have s2 : Same H1 (L2.upd H1 a2 (.lst (cs.map V.int))) := (Same.refl _).put h2
    have hS2 := s2.seq hS1
    refine ⟨_, rfl, a1, sc, 0, rfl, hS2, _, _, rfl, rfl, (by show (0 : Int) < 3; decide), a2, cs, _, rfl, .of upd_same, by omega, fun p ps rs n H3 dn hn hrs => ?_⟩
    have D := dn.made.dr
    have R := dn.rows
    have hS3 := dn.same.seq hS2
    obtain ⟨r0, rt, ers, hne⟩ := dn.made.first
    obtain ⟨x, t, rfl⟩ := List.exists_cons_of_ne_nil hne
    clear dn
    dsimp only [gName]
    refine ⟨_, rfl, a1, sc, 1, rfl, hS3, _, _, rfl, rfl, (by show (0 : Int) < 6; decide), ?_⟩
    dsimp only [gName]
    have hw0 : 0 ≤ sc.getD 1 0 % 6 := Int.emod_nonneg _ (by decide)
    have hw1 : sc.getD 1 0 % 6 < 6 := Int.emod_lt_of_pos _ (by decide)
    generalize sc.getD 1 0 % 6 = wy at hw0 hw1
    clear hS1 hS2 hS3 s2
    refine seq_join3 (fun σ' H' => ∃ ps rs, σ' = [some (.ref a1), some (.ref p), some (.int wy), none, none] ∧ Rows H' p ps rs ∧ rs.flatten.length < 64 ∧ rs.length < 64 ∧ ((¬ (0 < wy ∧ wy < 4) ∧ ∃ n, Dr rs n) ∨ ((0 < wy ∧ wy < 4) ∧ told rs.flatten = false))) ?_ fun fin => ?_
    · rintro σ H4 ⟨ps, rs, rfl, R, h1, h2, hh⟩
      refine ⟨_, rfl, p, ps, rs, rfl, R, by omega, fun p5 ps5 H5 R5 s5 _ _ => ?_⟩
      have R5o := R.same s5
      dsimp only [gName]
      refine ⟨13, rfl, by decide, by decide, for_range (n := 13) (fun i σ H6 => ∃ v4, σ = [some (.ref a1), some (.ref p), some (.int wy), some (.ref p5), v4] ∧ Same H5 H6) ⟨none, rfl, Same.refl H5⟩ ?_ ?_⟩
      · rintro i σ H6 hi ⟨v4, rfl, s6⟩
        refine ⟨_, rfl, _, rfl, p5, ps5, rs, _, rfl, R5.same s6, h1, h2, ?_⟩
        rcases hh with ⟨hno, hD⟩ | ⟨hyes, ht⟩
        · refine .inl ⟨hD, fun H7 s7 => ⟨_, rfl, _, _, rfl, rfl, _, rfl, ?_⟩⟩
          by_cases h0 : 0 < wy
          · rw [decide_eq_true h0]
            refine iteT ⟨_, _, rfl, rfl, ?_⟩
            dsimp only
            rw [decide_eq_false (by omega)]
            exact ⟨rfl, _, rfl, iteNS rfl ⟨_, rfl, s6.trans s7⟩⟩
          · rw [decide_eq_false h0]
            exact iteF ⟨rfl, _, rfl, iteNS rfl ⟨_, rfl, s6.trans s7⟩⟩
        · refine .inr ⟨ht, fun H7 s7 => ⟨_, rfl, _, _, rfl, rfl, _, rfl, ?_⟩⟩
          rw [decide_eq_true hyes.1]
          refine iteT ⟨_, _, rfl, rfl, ?_⟩
          dsimp only
          rw [decide_eq_true hyes.2]
          exact ⟨rfl, _, rfl, iteNS rfl ⟨_, rfl, s6.trans s7⟩⟩
      · rintro σ H6 ⟨v4, rfl, s6⟩
        exact ⟨_, rfl, _, rfl, p5, p, ps5, ps, rs, rfl, R5.same s6, R5o.same s6, by omega, by omega, fun H9 s9 => kk H9⟩
    subst ers
    obtain ⟨q, pt, rfl⟩ : ∃ q pt, ps = q :: pt := List.exists_cons_of_length_pos (by rw [R.len]; exact Nat.succ_pos _)
    have hq : H3 q = some (.lst ((x :: t).map V.int)) := R.row 0 q _ rfl rfl
    have hlen := D.len
    have hev := D.even
    rw [List.flatten_cons, List.length_append, List.length_cons] at hlen
    have hrl := hrs
    rw [List.length_cons] at hrl
    by_cases hw : wy = 1
    · subst hw
      refine ⟨_, rfl, rfl, _, rfl, iteT ?_⟩
      refine ⟨_, rfl, p, _, _, _, rfl, rfl, .of R.out, atI_nat (j := 0) (v := V.ref q) rfl, _, rfl, q, _, rfl, .of hq, fun l hl => ?_⟩
      have ec : cutV ((x :: t).map V.int) (some 1) none = t.map V.int := cut_from (x :: t) 1
      rw [ec]
      have sl : Same H3 (L2.upd H3 l (.lst (t.map V.int))) := (Same.refl H3).put hl
      have R1 := R.same sl
      have hl1 : (L2.upd H3 l (.lst (t.map V.int))) l = some (.lst (t.map V.int)) := upd_same
      have nlp : l ≠ p := fun z => by rw [z, R.out] at hl; cases hl
      have nlq : l ∉ q :: pt := mem_ne R hl
      generalize L2.upd H3 l (.lst (t.map V.int)) = H4 at R1 hl1
      refine ⟨_, rfl, p, _, 0, 0, rfl, rfl, R1.out, ixR0, ?_⟩
      refine ⟨_, rfl, rfl, _, rfl, iteF ?_⟩
      refine ⟨_, rfl, rfl, _, rfl, iteF ?_⟩
      refine fin _ _ ⟨l :: pt, t :: rt, rfl, ⟨upd_same, ?_, ?_, fun i q' r' e1 e2 => ?_⟩, ?_, ?_, .inr ⟨by decide, told_odd ?_⟩⟩
      · have := List.nodup_cons.mp R1.nd
        exact List.nodup_cons.mpr ⟨fun z => nlq (List.mem_cons_of_mem _ z), this.2⟩
      · have := R1.len
        simpa using this
      · cases i with
        | zero =>
          cases e1
          cases e2
          rw [upd_ne nlp]
          exact hl1
        | succ i =>
          have hm : q' ∈ pt := List.mem_of_getElem? (i := i) e1
          have hqp : q' ≠ p := fun z => R1.notin (by rw [← z]; exact List.mem_cons_of_mem _ hm)
          rw [upd_ne hqp]
          exact R1.row (i + 1) q' r' e1 e2
      · rw [List.flatten_cons, List.length_append]; omega
      · rw [List.length_cons]; omega
      · rw [List.flatten_cons, List.length_append]; omega
    by_cases hw2 : wy = 2
    · subst hw2
      refine ⟨_, rfl, rfl, _, rfl, iteF ?_⟩
      refine ⟨_, rfl, rfl, _, rfl, iteT ?_⟩
      refine ⟨_, rfl, p, _, _, _, rfl, rfl, .of R.out, atI_nat (j := 0) (v := V.ref q) rfl, .inl ⟨rfl, _, .of hq⟩, _, rfl, p, _, _, _, rfl, rfl, .of R.out, atI_nat (j := 0) (v := V.ref q) rfl, q, _, _, _, rfl, rfl, .of hq, atI_nat (j := 0) (v := V.int x) rfl, q, _, _, rfl, rfl, hq, by rw [List.length_map, List.length_cons]; omega, ?_⟩
      have R1 := R.set (i := 0) (q := q) rfl ((x :: t) ++ [x])
      rw [List.map_append] at R1
      refine ⟨_, rfl, rfl, _, rfl, iteF ?_⟩
      refine fin _ _ ⟨q :: pt, ((x :: t) ++ [x]) :: rt, rfl, R1, ?_, ?_, .inr ⟨by decide, told_odd ?_⟩⟩
      · rw [List.flatten_cons, List.length_append, List.length_append, List.length_cons, List.length_singleton]; omega
      · rw [List.length_cons]; omega
      · rw [List.flatten_cons, List.length_append, List.length_append, List.length_cons, List.length_singleton]; omega
    by_cases hw3 : wy = 3
    · subst hw3
      refine ⟨_, rfl, rfl, _, rfl, iteF ?_⟩
      refine ⟨_, rfl, rfl, _, rfl, iteF ?_⟩
      refine ⟨_, rfl, rfl, _, rfl, iteT ?_⟩
      refine ⟨_, _, rfl, rfl, ⟨by decide, by decide, by decide⟩, _, rfl, p, _, _, _, rfl, rfl, .of R.out, atI_nat (j := 0) (v := V.ref q) rfl, q, _, 0, 0, rfl, rfl, hq, ixI0, ?_⟩
      have R1 := R.set (i := 0) (q := q) rfl (10 ^ 20 :: t)
      refine fin _ _ ⟨q :: pt, (10 ^ 20 :: t) :: rt, rfl, R1, ?_, ?_, .inr ⟨by decide, told_out (x := 10 ^ 20) ?_ ?_⟩⟩
      · rw [List.flatten_cons, List.length_append, List.length_cons]; omega
      · rw [List.length_cons]; omega
      · rw [List.flatten_cons]; exact List.mem_append.mpr (.inl List.mem_cons_self)
      · rw [List.flatten_cons, List.length_append, List.length_cons]; omega
    · refine ⟨_, rfl, rfl, _, rfl, ?_⟩
      rw [decide_eq_false fun z => hw (by injection z)]
      refine iteF ⟨_, rfl, rfl, _, rfl, ?_⟩
      rw [decide_eq_false fun z => hw2 (by injection z)]
      refine iteF ⟨_, rfl, rfl, _, rfl, ?_⟩
      rw [decide_eq_false fun z => hw3 (by injection z)]
      exact iteF (fin _ _ ⟨q :: pt, _, rfl, R, by rw [D.len]; omega, by omega, .inl ⟨by omega, n, D⟩⟩)
end
end Ink
namespace Ink
open PySem L2
theorem len1 {α : Type} {l : List α} (h : l.length = 1) : ∃ a0, l = [a0] := by
  match l, h with
  | [a0], _ => exact ⟨a0, rfl⟩
theorem len2 {α : Type} {l : List α} (h : l.length = 2) : ∃ a0 a1, l = [a0, a1] := by
  match l, h with
  | [a0, a1], _ => exact ⟨a0, a1, rfl⟩
theorem len3 {α : Type} {l : List α} (h : l.length = 3) : ∃ a0 a1 a2, l = [a0, a1, a2] := by
  match l, h with
  | [a0, a1, a2], _ => exact ⟨a0, a1, a2, rfl⟩
theorem all_mk {l : PySem.W.OpenLaw} {w : World} {K : PySem.W.Frag} {h : Heap} {mg : Str → Option Value} {fa f0 f1 f2 f3 f4 f5 f6 f7 f8 f9 f10 f11 f12 f13 f14 f15 f16 f17 f18 f19 f20 f21 f22 f23 f24 f25 f26 f27 f28 f29 f30 f31 f32 f33 f34 f35 f36 f37 f38 f39 f40 f41 f42 CE CN CD CI CR : Addr} (X : K.In h) (G : h.Ns mainGlobals mg) (hfa : mg "law" = some (.ref fa))
    {od0 an0 : Option Addr} {sl0 : Array (Option Value)} {oc0 kV0 dc0 pm0 cd0 ct0 : Value}
    {od1 an1 : Option Addr} {sl1 : Array (Option Value)} {oc1 kV1 dc1 pm1 cd1 ct1 : Value}
    {od2 an2 : Option Addr} {sl2 : Array (Option Value)} {oc2 kV2 dc2 pm2 cd2 ct2 : Value}
    {od3 an3 : Option Addr} {sl3 : Array (Option Value)} {oc3 kV3 dc3 pm3 cd3 ct3 : Value}
    {od4 an4 : Option Addr} {sl4 : Array (Option Value)} {oc4 kV4 dc4 pm4 cd4 ct4 : Value}
    {od5 an5 : Option Addr} {sl5 : Array (Option Value)} {oc5 kV5 dc5 pm5 cd5 ct5 : Value}
    {od6 an6 : Option Addr} {sl6 : Array (Option Value)} {oc6 kV6 dc6 pm6 cd6 ct6 : Value}
    {od7 an7 : Option Addr} {sl7 : Array (Option Value)} {oc7 kV7 dc7 pm7 cd7 ct7 : Value}
    {od8 an8 : Option Addr} {sl8 : Array (Option Value)} {oc8 kV8 dc8 pm8 cd8 ct8 : Value}
    {od9 an9 : Option Addr} {sl9 : Array (Option Value)} {oc9 kV9 dc9 pm9 cd9 ct9 : Value}
    {od10 an10 : Option Addr} {sl10 : Array (Option Value)} {oc10 kV10 dc10 pm10 cd10 ct10 : Value}
    {od11 an11 : Option Addr} {sl11 : Array (Option Value)} {oc11 kV11 dc11 pm11 cd11 ct11 : Value}
    {od12 an12 : Option Addr} {sl12 : Array (Option Value)} {oc12 kV12 dc12 pm12 cd12 ct12 : Value}
    {od13 an13 : Option Addr} {sl13 : Array (Option Value)} {oc13 kV13 dc13 pm13 cd13 ct13 : Value}
    {od14 an14 : Option Addr} {sl14 : Array (Option Value)} {oc14 kV14 dc14 pm14 cd14 ct14 : Value}
    {od15 an15 : Option Addr} {sl15 : Array (Option Value)} {oc15 kV15 dc15 pm15 cd15 ct15 : Value}
    {od16 an16 : Option Addr} {sl16 : Array (Option Value)} {oc16 kV16 dc16 pm16 cd16 ct16 : Value}
    {od17 an17 : Option Addr} {sl17 : Array (Option Value)} {oc17 kV17 dc17 pm17 cd17 ct17 : Value}
    {od18 an18 : Option Addr} {sl18 : Array (Option Value)} {oc18 kV18 dc18 pm18 cd18 ct18 : Value}
    {od19 an19 : Option Addr} {sl19 : Array (Option Value)} {oc19 kV19 dc19 pm19 cd19 ct19 : Value}
    {od20 an20 : Option Addr} {sl20 : Array (Option Value)} {oc20 kV20 dc20 pm20 cd20 ct20 : Value}
    {od21 an21 : Option Addr} {sl21 : Array (Option Value)} {oc21 kV21 dc21 pm21 cd21 ct21 : Value}
    {od22 an22 : Option Addr} {sl22 : Array (Option Value)} {oc22 kV22 dc22 pm22 cd22 ct22 : Value}
    {od23 an23 : Option Addr} {sl23 : Array (Option Value)} {oc23 kV23 dc23 pm23 cd23 ct23 : Value}
    {od24 an24 : Option Addr} {sl24 : Array (Option Value)} {oc24 kV24 dc24 pm24 cd24 ct24 : Value}
    {od25 an25 : Option Addr} {sl25 : Array (Option Value)} {oc25 kV25 dc25 pm25 cd25 ct25 : Value}
    {od26 an26 : Option Addr} {sl26 : Array (Option Value)} {oc26 kV26 dc26 pm26 cd26 ct26 : Value}
    {od27 an27 : Option Addr} {sl27 : Array (Option Value)} {oc27 kV27 dc27 pm27 cd27 ct27 : Value}
    {od28 an28 : Option Addr} {sl28 : Array (Option Value)} {oc28 kV28 dc28 pm28 cd28 ct28 : Value}
    {od29 an29 : Option Addr} {sl29 : Array (Option Value)} {oc29 kV29 dc29 pm29 cd29 ct29 : Value}
    {od30 an30 : Option Addr} {sl30 : Array (Option Value)} {oc30 kV30 dc30 pm30 cd30 ct30 : Value}
    {od31 an31 : Option Addr} {sl31 : Array (Option Value)} {oc31 kV31 dc31 pm31 cd31 ct31 : Value}
    {od32 an32 : Option Addr} {sl32 : Array (Option Value)} {oc32 kV32 dc32 pm32 cd32 ct32 : Value}
    {od33 an33 : Option Addr} {sl33 : Array (Option Value)} {oc33 kV33 dc33 pm33 cd33 ct33 : Value}
    {od34 an34 : Option Addr} {sl34 : Array (Option Value)} {oc34 kV34 dc34 pm34 cd34 ct34 : Value}
    {od35 an35 : Option Addr} {sl35 : Array (Option Value)} {oc35 kV35 dc35 pm35 cd35 ct35 : Value}
    {od36 an36 : Option Addr} {sl36 : Array (Option Value)} {oc36 kV36 dc36 pm36 cd36 ct36 : Value}
    {od37 an37 : Option Addr} {sl37 : Array (Option Value)} {oc37 kV37 dc37 pm37 cd37 ct37 : Value}
    {od38 an38 : Option Addr} {sl38 : Array (Option Value)} {oc38 kV38 dc38 pm38 cd38 ct38 : Value}
    {od39 an39 : Option Addr} {sl39 : Array (Option Value)} {oc39 kV39 dc39 pm39 cd39 ct39 : Value}
    {od40 an40 : Option Addr} {sl40 : Array (Option Value)} {oc40 kV40 dc40 pm40 cd40 ct40 : Value}
    {od41 an41 : Option Addr} {sl41 : Array (Option Value)} {oc41 kV41 dc41 pm41 cd41 ct41 : Value}
    {od42 an42 : Option Addr} {sl42 : Array (Option Value)} {oc42 kV42 dc42 pm42 cd42 ct42 : Value}
    (a0 : PySem.W.nsIn K mainGlobals "all_ends" = some (some (.ref f0))) (l0 : K.lookup f0 = some ⟨oc0, od0, .func (PySem.W.fnOf "all_ends" "all_ends" (defArgs sAllEnds) (defBody sAllEnds) (defScope sAllEnds) .none kV0 dc0 pm0 an0 cd0 ct0), sl0⟩) (c0 : PySem.W.codeIn K cd0 "all_ends" = true) (k0 : PySem.W.keepIn K (.ref f0) = true)
    (a1 : PySem.W.nsIn K mainGlobals "is_drawing" = some (some (.ref f1))) (l1 : K.lookup f1 = some ⟨oc1, od1, .func (PySem.W.fnOf "is_drawing" "is_drawing" (defArgs sIsDrawing) (defBody sIsDrawing) (defScope sIsDrawing) .none kV1 dc1 pm1 an1 cd1 ct1), sl1⟩) (c1 : PySem.W.codeIn K cd1 "is_drawing" = true) (k1 : PySem.W.keepIn K (.ref f1) = true)
    (a2 : PySem.W.nsIn K mainGlobals "refuse_no_drawing" = some (some (.ref f2))) (l2 : K.lookup f2 = some ⟨oc2, od2, .func (PySem.W.fnOf "refuse_no_drawing" "refuse_no_drawing" (defArgs sRefuse) (defBody sRefuse) (defScope sRefuse) .none kV2 dc2 pm2 an2 cd2 ct2), sl2⟩) (c2 : PySem.W.codeIn K cd2 "refuse_no_drawing" = true) (k2 : PySem.W.keepIn K (.ref f2) = true)
    (a3 : PySem.W.nsIn K mainGlobals "across" = some (some (.ref f3))) (l3 : K.lookup f3 = some ⟨oc3, od3, .func (PySem.W.fnOf "across" "across" (defArgs sAcrossP) (defBody sAcrossP) (defScope sAcrossP) .none kV3 dc3 pm3 an3 cd3 ct3), sl3⟩) (c3 : PySem.W.codeIn K cd3 "across" = true) (k3 : PySem.W.keepIn K (.ref f3) = true)
    (a4 : PySem.W.nsIn K mainGlobals "next_ends" = some (some (.ref f4))) (l4 : K.lookup f4 = some ⟨oc4, od4, .func (PySem.W.fnOf "next_ends" "next_ends" (defArgs sNextEnds) (defBody sNextEnds) (defScope sNextEnds) .none kV4 dc4 pm4 an4 cd4 ct4), sl4⟩) (c4 : PySem.W.codeIn K cd4 "next_ends" = true) (k4 : PySem.W.keepIn K (.ref f4) = true)
    (a5 : PySem.W.nsIn K mainGlobals "face_from" = some (some (.ref f5))) (l5 : K.lookup f5 = some ⟨oc5, od5, .func (PySem.W.fnOf "face_from" "face_from" (defArgs sFaceFrom) (defBody sFaceFrom) (defScope sFaceFrom) .none kV5 dc5 pm5 an5 cd5 ct5), sl5⟩) (c5 : PySem.W.codeIn K cd5 "face_from" = true) (k5 : PySem.W.keepIn K (.ref f5) = true)
    (a6 : PySem.W.nsIn K mainGlobals "faces" = some (some (.ref f6))) (l6 : K.lookup f6 = some ⟨oc6, od6, .func (PySem.W.fnOf "faces" "faces" (defArgs sFaces) (defBody sFaces) (defScope sFaces) .none kV6 dc6 pm6 an6 cd6 ct6), sl6⟩) (c6 : PySem.W.codeIn K cd6 "faces" = true) (k6 : PySem.W.keepIn K (.ref f6) = true)
    (a7 : PySem.W.nsIn K mainGlobals "inside_out" = some (some (.ref f7))) (l7 : K.lookup f7 = some ⟨oc7, od7, .func (PySem.W.fnOf "inside_out" "inside_out" (defArgs sInside) (defBody sInside) (defScope sInside) .none kV7 dc7 pm7 an7 cd7 ct7), sl7⟩) (c7 : PySem.W.codeIn K cd7 "inside_out" = true) (k7 : PySem.W.keepIn K (.ref f7) = true)
    (a8 : PySem.W.nsIn K mainGlobals "mirrored" = some (some (.ref f8))) (l8 : K.lookup f8 = some ⟨oc8, od8, .func (PySem.W.fnOf "mirrored" "mirrored" (defArgs sMirrored) (defBody sMirrored) (defScope sMirrored) .none kV8 dc8 pm8 an8 cd8 ct8), sl8⟩) (c8 : PySem.W.codeIn K cd8 "mirrored" = true) (k8 : PySem.W.keepIn K (.ref f8) = true)
    (a9 : PySem.W.nsIn K mainGlobals "points_of_ends" = some (some (.ref f9))) (l9 : K.lookup f9 = some ⟨oc9, od9, .func (PySem.W.fnOf "points_of_ends" "points_of_ends" (defArgs sPointsOf) (defBody sPointsOf) (defScope sPointsOf) .none kV9 dc9 pm9 an9 cd9 ct9), sl9⟩) (c9 : PySem.W.codeIn K cd9 "points_of_ends" = true) (k9 : PySem.W.keepIn K (.ref f9) = true)
    (a10 : PySem.W.nsIn K mainGlobals "piece_from" = some (some (.ref f10))) (l10 : K.lookup f10 = some ⟨oc10, od10, .func (PySem.W.fnOf "piece_from" "piece_from" (defArgs sPieceFrom) (defBody sPieceFrom) (defScope sPieceFrom) .none kV10 dc10 pm10 an10 cd10 ct10), sl10⟩) (c10 : PySem.W.codeIn K cd10 "piece_from" = true) (k10 : PySem.W.keepIn K (.ref f10) = true)
    (a11 : PySem.W.nsIn K mainGlobals "pieces" = some (some (.ref f11))) (l11 : K.lookup f11 = some ⟨oc11, od11, .func (PySem.W.fnOf "pieces" "pieces" (defArgs sPieces) (defBody sPieces) (defScope sPieces) .none kV11 dc11 pm11 an11 cd11 ct11), sl11⟩) (c11 : PySem.W.codeIn K cd11 "pieces" = true) (k11 : PySem.W.keepIn K (.ref f11) = true)
    (a12 : PySem.W.nsIn K mainGlobals "how_many_ropes" = some (some (.ref f12))) (l12 : K.lookup f12 = some ⟨oc12, od12, .func (PySem.W.fnOf "how_many_ropes" "how_many_ropes" (defArgs sRopes) (defBody sRopes) (defScope sRopes) .none kV12 dc12 pm12 an12 cd12 ct12), sl12⟩) (c12 : PySem.W.codeIn K cd12 "how_many_ropes" = true) (k12 : PySem.W.keepIn K (.ref f12) = true)
    (a13 : PySem.W.nsIn K mainGlobals "how_many_faces" = some (some (.ref f13))) (l13 : K.lookup f13 = some ⟨oc13, od13, .func (PySem.W.fnOf "how_many_faces" "how_many_faces" (defArgs sManyFaces) (defBody sManyFaces) (defScope sManyFaces) .none kV13 dc13 pm13 an13 cd13 ct13), sl13⟩) (c13 : PySem.W.codeIn K cd13 "how_many_faces" = true) (k13 : PySem.W.keepIn K (.ref f13) = true)
    (a14 : PySem.W.nsIn K mainGlobals "built" = some (some (.ref f14))) (l14 : K.lookup f14 = some ⟨oc14, od14, .func (PySem.W.fnOf "built" "built" (defArgs sBuilt) (defBody sBuilt) (defScope sBuilt) .none kV14 dc14 pm14 an14 cd14 ct14), sl14⟩) (c14 : PySem.W.codeIn K cd14 "built" = true) (k14 : PySem.W.keepIn K (.ref f14) = true)
    (a15 : PySem.W.nsIn K mainGlobals "handles" = some (some (.ref f15))) (l15 : K.lookup f15 = some ⟨oc15, od15, .func (PySem.W.fnOf "handles" "handles" (defArgs sHandles) (defBody sHandles) (defScope sHandles) .none kV15 dc15 pm15 an15 cd15 ct15), sl15⟩) (c15 : PySem.W.codeIn K cd15 "handles" = true) (k15 : PySem.W.keepIn K (.ref f15) = true)
    (a16 : PySem.W.nsIn K mainGlobals "is_flat" = some (some (.ref f16))) (l16 : K.lookup f16 = some ⟨oc16, od16, .func (PySem.W.fnOf "is_flat" "is_flat" (defArgs sFlat) (defBody sFlat) (defScope sFlat) .none kV16 dc16 pm16 an16 cd16 ct16), sl16⟩) (c16 : PySem.W.codeIn K cd16 "is_flat" = true) (k16 : PySem.W.keepIn K (.ref f16) = true)
    (a17 : PySem.W.nsIn K mainGlobals "without" = some (some (.ref f17))) (l17 : K.lookup f17 = some ⟨oc17, od17, .func (PySem.W.fnOf "without" "without" (defArgs sWithout) (defBody sWithout) (defScope sWithout) .none kV17 dc17 pm17 an17 cd17 ct17), sl17⟩) (c17 : PySem.W.codeIn K cd17 "without" = true) (k17 : PySem.W.keepIn K (.ref f17) = true)
    (a18 : PySem.W.nsIn K mainGlobals "points_across" = some (some (.ref f18))) (l18 : K.lookup f18 = some ⟨oc18, od18, .func (PySem.W.fnOf "points_across" "points_across" (defArgs sPtsAcross) (defBody sPtsAcross) (defScope sPtsAcross) .none kV18 dc18 pm18 an18 cd18 ct18), sl18⟩) (c18 : PySem.W.codeIn K cd18 "points_across" = true) (k18 : PySem.W.keepIn K (.ref f18) = true)
    (a19 : PySem.W.nsIn K mainGlobals "all_neighbours" = some (some (.ref f19))) (l19 : K.lookup f19 = some ⟨oc19, od19, .func (PySem.W.fnOf "all_neighbours" "all_neighbours" (defArgs sNear) (defBody sNear) (defScope sNear) .none kV19 dc19 pm19 an19 cd19 ct19), sl19⟩) (c19 : PySem.W.codeIn K cd19 "all_neighbours" = true) (k19 : PySem.W.keepIn K (.ref f19) = true)
    (a20 : PySem.W.nsIn K mainGlobals "how_many_among" = some (some (.ref f20))) (l20 : K.lookup f20 = some ⟨oc20, od20, .func (PySem.W.fnOf "how_many_among" "how_many_among" (defArgs sAmongP) (defBody sAmongP) (defScope sAmongP) .none kV20 dc20 pm20 an20 cd20 ct20), sl20⟩) (c20 : PySem.W.codeIn K cd20 "how_many_among" = true) (k20 : PySem.W.keepIn K (.ref f20) = true)
    (a21 : PySem.W.nsIn K mainGlobals "peeled" = some (some (.ref f21))) (l21 : K.lookup f21 = some ⟨oc21, od21, .func (PySem.W.fnOf "peeled" "peeled" (defArgs sPeeled) (defBody sPeeled) (defScope sPeeled) .none kV21 dc21 pm21 an21 cd21 ct21), sl21⟩) (c21 : PySem.W.codeIn K cd21 "peeled" = true) (k21 : PySem.W.keepIn K (.ref f21) = true)
    (a22 : PySem.W.nsIn K mainGlobals "dense_part" = some (some (.ref f22))) (l22 : K.lookup f22 = some ⟨oc22, od22, .func (PySem.W.fnOf "dense_part" "dense_part" (defArgs sDense) (defBody sDense) (defScope sDense) .none kV22 dc22 pm22 an22 cd22 ct22), sl22⟩) (c22 : PySem.W.codeIn K cd22 "dense_part" = true) (k22 : PySem.W.keepIn K (.ref f22) = true)
    (a23 : PySem.W.nsIn K mainGlobals "least_free" = some (some (.ref f23))) (l23 : K.lookup f23 = some ⟨oc23, od23, .func (PySem.W.fnOf "least_free" "least_free" (defArgs sLeastFree) (defBody sLeastFree) (defScope sLeastFree) .none kV23 dc23 pm23 an23 cd23 ct23), sl23⟩) (c23 : PySem.W.codeIn K cd23 "least_free" = true) (k23 : PySem.W.keepIn K (.ref f23) = true)
    (a24 : PySem.W.nsIn K mainGlobals "coloured" = some (some (.ref f24))) (l24 : K.lookup f24 = some ⟨oc24, od24, .func (PySem.W.fnOf "coloured" "coloured" (defArgs sColoured) (defBody sColoured) (defScope sColoured) .none kV24 dc24 pm24 an24 cd24 ct24), sl24⟩) (c24 : PySem.W.codeIn K cd24 "coloured" = true) (k24 : PySem.W.keepIn K (.ref f24) = true)
    (a25 : PySem.W.nsIn K mainGlobals "refuse_no_ends" = some (some (.ref f25))) (l25 : K.lookup f25 = some ⟨oc25, od25, .func (PySem.W.fnOf "refuse_no_ends" "refuse_no_ends" (defArgs sRefNoEnds) (defBody sRefNoEnds) (defScope sRefNoEnds) .none kV25 dc25 pm25 an25 cd25 ct25), sl25⟩) (c25 : PySem.W.codeIn K cd25 "refuse_no_ends" = true) (k25 : PySem.W.keepIn K (.ref f25) = true)
    (a26 : PySem.W.nsIn K mainGlobals "sides" = some (some (.ref f26))) (l26 : K.lookup f26 = some ⟨oc26, od26, .func (PySem.W.fnOf "sides" "sides" (defArgs sSides) (defBody sSides) (defScope sSides) .none kV26 dc26 pm26 an26 cd26 ct26), sl26⟩) (c26 : PySem.W.codeIn K cd26 "sides" = true) (k26 : PySem.W.keepIn K (.ref f26) = true)
    (a27 : PySem.W.nsIn K mainGlobals "tree_of" = some (some (.ref f27))) (l27 : K.lookup f27 = some ⟨oc27, od27, .func (PySem.W.fnOf "tree_of" "tree_of" (defArgs sTreeOf) (defBody sTreeOf) (defScope sTreeOf) .none kV27 dc27 pm27 an27 cd27 ct27), sl27⟩) (c27 : PySem.W.codeIn K cd27 "tree_of" = true) (k27 : PySem.W.keepIn K (.ref f27) = true)
    (a28 : PySem.W.nsIn K mainGlobals "all_but" = some (some (.ref f28))) (l28 : K.lookup f28 = some ⟨oc28, od28, .func (PySem.W.fnOf "all_but" "all_but" (defArgs sAllBut) (defBody sAllBut) (defScope sAllBut) .none kV28 dc28 pm28 an28 cd28 ct28), sl28⟩) (c28 : PySem.W.codeIn K cd28 "all_but" = true) (k28 : PySem.W.keepIn K (.ref f28) = true)
    (a29 : PySem.W.nsIn K mainGlobals "two_trees" = some (some (.ref f29))) (l29 : K.lookup f29 = some ⟨oc29, od29, .func (PySem.W.fnOf "two_trees" "two_trees" (defArgs sTwoTrees) (defBody sTwoTrees) (defScope sTwoTrees) .none kV29 dc29 pm29 an29 cd29 ct29), sl29⟩) (c29 : PySem.W.codeIn K cd29 "two_trees" = true) (k29 : PySem.W.keepIn K (.ref f29) = true)
    (a30 : PySem.W.nsIn K mainGlobals "_law_upto" = some (some (.ref f30))) (l30 : K.lookup f30 = some ⟨oc30, od30, .func (PySem.W.fnOf "_law_upto" "_law_upto" (defArgs sUpto) (defBody sUpto) (defScope sUpto) .none kV30 dc30 pm30 an30 cd30 ct30), sl30⟩) (c30 : PySem.W.codeIn K cd30 "_law_upto" = true) (k30 : PySem.W.keepIn K (.ref f30) = true)
    (a31 : PySem.W.nsIn K mainGlobals "_law_at" = some (some (.ref f31))) (l31 : K.lookup f31 = some ⟨oc31, od31, .func (PySem.W.fnOf "_law_at" "_law_at" (defArgs sAt) (defBody sAt) (defScope sAt) .none kV31 dc31 pm31 an31 cd31 ct31), sl31⟩) (c31 : PySem.W.codeIn K cd31 "_law_at" = true) (k31 : PySem.W.keepIn K (.ref f31) = true)
    (a32 : PySem.W.nsIn K mainGlobals "_law_across" = some (some (.ref f32))) (l32 : K.lookup f32 = some ⟨oc32, od32, .func (PySem.W.fnOf "_law_across" "_law_across" (defArgs sAcross) (defBody sAcross) (defScope sAcross) .none kV32 dc32 pm32 an32 cd32 ct32), sl32⟩) (c32 : PySem.W.codeIn K cd32 "_law_across" = true) (k32 : PySem.W.keepIn K (.ref f32) = true)
    (a33 : PySem.W.nsIn K mainGlobals "_law_next_in" = some (some (.ref f33))) (l33 : K.lookup f33 = some ⟨oc33, od33, .func (PySem.W.fnOf "_law_next_in" "_law_next_in" (defArgs sNextIn) (defBody sNextIn) (defScope sNextIn) .none kV33 dc33 pm33 an33 cd33 ct33), sl33⟩) (c33 : PySem.W.codeIn K cd33 "_law_next_in" = true) (k33 : PySem.W.keepIn K (.ref f33) = true)
    (a34 : PySem.W.nsIn K mainGlobals "_law_face_of" = some (some (.ref f34))) (l34 : K.lookup f34 = some ⟨oc34, od34, .func (PySem.W.fnOf "_law_face_of" "_law_face_of" (defArgs sFaceOf) (defBody sFaceOf) (defScope sFaceOf) .none kV34 dc34 pm34 an34 cd34 ct34), sl34⟩) (c34 : PySem.W.codeIn K cd34 "_law_face_of" = true) (k34 : PySem.W.keepIn K (.ref f34) = true)
    (a35 : PySem.W.nsIn K mainGlobals "_law_put" = some (some (.ref f35))) (l35 : K.lookup f35 = some ⟨oc35, od35, .func (PySem.W.fnOf "_law_put" "_law_put" (defArgs sPut) (defBody sPut) (defScope sPut) .none kV35 dc35 pm35 an35 cd35 ct35), sl35⟩) (c35 : PySem.W.codeIn K cd35 "_law_put" = true) (k35 : PySem.W.keepIn K (.ref f35) = true)
    (a36 : PySem.W.nsIn K mainGlobals "_law_drawn" = some (some (.ref f36))) (l36 : K.lookup f36 = some ⟨oc36, od36, .func (PySem.W.fnOf "_law_drawn" "_law_drawn" (defArgs sDrawn) (defBody sDrawn) (defScope sDrawn) .none kV36 dc36 pm36 an36 cd36 ct36), sl36⟩) (c36 : PySem.W.codeIn K cd36 "_law_drawn" = true) (k36 : PySem.W.keepIn K (.ref f36) = true)
    (a37 : PySem.W.nsIn K mainGlobals "_law_copies" = some (some (.ref f37))) (l37 : K.lookup f37 = some ⟨oc37, od37, .func (PySem.W.fnOf "_law_copies" "_law_copies" (defArgs sCopies) (defBody sCopies) (defScope sCopies) .none kV37 dc37 pm37 an37 cd37 ct37), sl37⟩) (c37 : PySem.W.codeIn K cd37 "_law_copies" = true) (k37 : PySem.W.keepIn K (.ref f37) = true)
    (a38 : PySem.W.nsIn K mainGlobals "_law_of_rounds" = some (some (.ref f38))) (l38 : K.lookup f38 = some ⟨oc38, od38, .func (PySem.W.fnOf "_law_of_rounds" "_law_of_rounds" (defArgs sOfRounds) (defBody sOfRounds) (defScope sOfRounds) .none kV38 dc38 pm38 an38 cd38 ct38), sl38⟩) (c38 : PySem.W.codeIn K cd38 "_law_of_rounds" = true) (k38 : PySem.W.keepIn K (.ref f38) = true)
    (a39 : PySem.W.nsIn K mainGlobals "_law_asked" = some (some (.ref f39))) (l39 : K.lookup f39 = some ⟨oc39, od39, .func (PySem.W.fnOf "_law_asked" "_law_asked" (defArgs sAskedL) (defBody sAskedL) (defScope sAskedL) .none kV39 dc39 pm39 an39 cd39 ct39), sl39⟩) (c39 : PySem.W.codeIn K cd39 "_law_asked" = true) (k39 : PySem.W.keepIn K (.ref f39) = true)
    (a40 : PySem.W.nsIn K mainGlobals "_law_refuses" = some (some (.ref f40))) (l40 : K.lookup f40 = some ⟨oc40, od40, .func (PySem.W.fnOf "_law_refuses" "_law_refuses" (defArgs sRefuses) (defBody sRefuses) (defScope sRefuses) .none kV40 dc40 pm40 an40 cd40 ct40), sl40⟩) (c40 : PySem.W.codeIn K cd40 "_law_refuses" = true) (k40 : PySem.W.keepIn K (.ref f40) = true)
    (a41 : PySem.W.nsIn K mainGlobals "_law_like" = some (some (.ref f41))) (l41 : K.lookup f41 = some ⟨oc41, od41, .func (PySem.W.fnOf "_law_like" "_law_like" (defArgs sLike) (defBody sLike) (defScope sLike) .none kV41 dc41 pm41 an41 cd41 ct41), sl41⟩) (c41 : PySem.W.codeIn K cd41 "_law_like" = true) (k41 : PySem.W.keepIn K (.ref f41) = true)
    (a42 : PySem.W.nsIn K mainGlobals "law" = some (some (.ref f42))) (l42 : K.lookup f42 = some ⟨oc42, od42, .func (PySem.W.fnOf "law" "law" (defArgs sLaw) (defBody sLaw) (defScope sLaw) .none kV42 dc42 pm42 an42 cd42 ct42), sl42⟩) (c42 : PySem.W.codeIn K cd42 "law" = true) (k42 : PySem.W.keepIn K (.ref f42) = true)
    (z0 : PySem.W.nsIn K mainGlobals "len" = some none) (z1 : PySem.W.nsIn K mainGlobals "range" = some none) (z2 : PySem.W.nsIn K mainGlobals "sum" = some none) (z3 : PySem.W.nsIn K mainGlobals "list" = some none) (z4 : PySem.W.nsIn K mainGlobals "int" = some none) (z5 : PySem.W.nsIn K mainGlobals "bool" = some none) (z6 : PySem.W.nsIn K mainGlobals "isinstance" = some none) (z7 : PySem.W.nsIn K mainGlobals "sorted" = some none) (z8 : PySem.W.nsIn K mainGlobals "enumerate" = some none) (z9 : PySem.W.nsIn K mainGlobals "set" = some none) (z10 : PySem.W.nsIn K mainGlobals "tuple" = some none) (z11 : PySem.W.nsIn K mainGlobals "str" = some none)
    (xE : PySem.W.nsIn K mainGlobals "NoEnd" = some (some (.ref CE))) (xN : PySem.W.nsIn K mainGlobals "NoColours" = some (some (.ref CN))) (xD : PySem.W.nsIn K mainGlobals "NoDrawing" = some (some (.ref CD))) (xI : PySem.W.nsIn K mainGlobals "InkError" = some (some (.ref CI))) (xR : PySem.W.nsIn K mainGlobals "NoRing" = some (some (.ref CR))) (xV : PySem.W.nsIn K mainGlobals "ValueError" = some none) (xMin : PySem.W.nsIn K mainGlobals "min" = some none) (xMax : PySem.W.nsIn K mainGlobals "max" = some none) (xRev : PySem.W.nsIn K mainGlobals "reversed" = some none) (eE : PySem.W.excIn K CE [.type "ValueError", .type "Exception", .type "BaseException", .type "object"] "ValueError.__new__" = true) (gE0 : PySem.W.findIn K (.ref CE) "__getattribute__" = some (some (.builtin "BaseException.__getattribute__"))) (gE1 : PySem.W.findIn K (.ref CE) "__getattr__" = some none) (gE2 : PySem.W.findIn K (.ref CE) "__class__" = some (some (.builtin "object.__class__"))) (gE3 : PySem.W.specialIn K (.builtin "object.__class__") "__get__" = some (some (.builtin "getset_descriptor.__get__"))) (gE4 : PySem.W.takesIn K (.builtin "object.__class__") = some true) (gE5 : PySem.W.mroIn K CE (.type "object") = some true) (gE6 : PySem.W.mroIn K CE (.type "BaseException") = some true) (mE : PySem.W.exmOne K (.ref CE) (.ref CI) = some true) (nE : PySem.W.kitAny K (.ref CE) [.ref CN, .ref CE, .ref CR] = some true) (eN : PySem.W.excIn K CN [.type "ValueError", .type "Exception", .type "BaseException", .type "object"] "ValueError.__new__" = true) (gN0 : PySem.W.findIn K (.ref CN) "__getattribute__" = some (some (.builtin "BaseException.__getattribute__"))) (gN1 : PySem.W.findIn K (.ref CN) "__getattr__" = some none) (gN2 : PySem.W.findIn K (.ref CN) "__class__" = some (some (.builtin "object.__class__"))) (gN3 : PySem.W.specialIn K (.builtin "object.__class__") "__get__" = some (some (.builtin "getset_descriptor.__get__"))) (gN4 : PySem.W.takesIn K (.builtin "object.__class__") = some true) (gN5 : PySem.W.mroIn K CN (.type "object") = some true) (gN6 : PySem.W.mroIn K CN (.type "BaseException") = some true) (mN : PySem.W.exmOne K (.ref CN) (.ref CI) = some true) (nN : PySem.W.kitAny K (.ref CN) [.ref CN, .ref CE, .ref CR] = some true) (eD : PySem.W.excIn K CD [.type "ValueError", .type "Exception", .type "BaseException", .type "object"] "ValueError.__new__" = true) (gD0 : PySem.W.findIn K (.ref CD) "__getattribute__" = some (some (.builtin "BaseException.__getattribute__"))) (gD1 : PySem.W.findIn K (.ref CD) "__getattr__" = some none) (gD2 : PySem.W.findIn K (.ref CD) "__class__" = some (some (.builtin "object.__class__"))) (gD3 : PySem.W.specialIn K (.builtin "object.__class__") "__get__" = some (some (.builtin "getset_descriptor.__get__"))) (gD4 : PySem.W.takesIn K (.builtin "object.__class__") = some true) (gD5 : PySem.W.mroIn K CD (.type "object") = some true) (gD6 : PySem.W.mroIn K CD (.type "BaseException") = some true) (mD : PySem.W.exmOne K (.ref CD) (.ref CI) = some true) (nD : PySem.W.kitAny K (.ref CD) [.ref CN, .ref CE, .ref CR] = some false) (oD : PySem.W.kitOne K (.ref CD) (.ref CD) = some true) (oV : PySem.W.kitOne K (.ref CD) (.type "ValueError") = some true) :
    ∃ fd : FuncData, (∀ (s : Shared) (v : Value), BindsTo s fd ⟨[v], []⟩ [("_law_script", v)]) ∧ ∀ base : Heap, K.In base → base.Ns mainGlobals mg → FnOk l.prog w K mg base CX0 12 fa fd ["_law_script"] (spLaw K) := by
  have e := hfa.symm.trans (PySem.W.mg_of X G a42)
  cases e
  have T : Txt mg := ⟨PySem.W.mg_none_of X G z0, PySem.W.mg_none_of X G z1, PySem.W.mg_none_of X G z2, PySem.W.mg_none_of X G z3, PySem.W.mg_none_of X G z4, PySem.W.mg_none_of X G z5, PySem.W.mg_none_of X G z6, PySem.W.mg_none_of X G z7, PySem.W.mg_none_of X G z8⟩
  have T2 : Txt3 mg := ⟨PySem.W.mg_none_of X G z9, PySem.W.mg_none_of X G z10, PySem.W.mg_none_of X G z11⟩
  have OE : ExcC K mg "NoEnd" CE := ⟨PySem.W.mg_of X G xE, _, _, _, _, PySem.F.excBase_ValueError, eE⟩
  have ON : ExcC K mg "NoColours" CN := ⟨PySem.W.mg_of X G xN, _, _, _, _, PySem.F.excBase_ValueError, eN⟩
  have OD : ExcC K mg "NoDrawing" CD := ⟨PySem.W.mg_of X G xD, _, _, _, _, PySem.F.excBase_ValueError, eD⟩
  have TX : ExT11 K mg CE CN CD CI CR := ⟨PySem.W.mg_of X G xE, PySem.W.mg_of X G xN, PySem.W.mg_of X G xD, PySem.W.mg_of X G xR, PySem.W.mg_of X G xI, PySem.W.mg_none_of X G xV, ⟨gE0, gE1, gE2, gE3, gE4, gE5, gE6⟩, ⟨gN0, gN1, gN2, gN3, gN4, gN5, gN6⟩, ⟨gD0, gD1, gD2, gD3, gD4, gD5, gD6⟩, mE, mN, mD, nE, nN, nD, oD, oV⟩
  have TC : TxtC mg := ⟨PySem.W.mg_none_of X G xMin, PySem.W.mg_none_of X G xMax, PySem.W.mg_none_of X G xRev⟩
  have F0 := fun_mk (st := sAllEnds) l0 c0 k0
  have b0 := F0.binds (ps := ["rounds"]) fun _ _ _ _ _ _ us hl => by obtain ⟨_, rfl⟩ := len1 hl; rfl
  have F1 := fun_mk (st := sIsDrawing) l1 c1 k1
  have b1 := F1.binds (ps := ["rounds"]) fun _ _ _ _ _ _ us hl => by obtain ⟨_, rfl⟩ := len1 hl; rfl
  have F2 := fun_mk (st := sRefuse) l2 c2 k2
  have b2 := F2.binds (ps := ["rounds"]) fun _ _ _ _ _ _ us hl => by obtain ⟨_, rfl⟩ := len1 hl; rfl
  have F3 := fun_mk (st := sAcrossP) l3 c3 k3
  have b3 := F3.binds (ps := ["end"]) fun _ _ _ _ _ _ us hl => by obtain ⟨_, rfl⟩ := len1 hl; rfl
  have F4 := fun_mk (st := sNextEnds) l4 c4 k4
  have b4 := F4.binds (ps := ["rounds"]) fun _ _ _ _ _ _ us hl => by obtain ⟨_, rfl⟩ := len1 hl; rfl
  have F5 := fun_mk (st := sFaceFrom) l5 c5 k5
  have b5 := F5.binds (ps := ["behind", "start"]) fun _ _ _ _ _ _ us hl => by obtain ⟨_, _, rfl⟩ := len2 hl; rfl
  have F6 := fun_mk (st := sFaces) l6 c6 k6
  have b6 := F6.binds (ps := ["rounds"]) fun _ _ _ _ _ _ us hl => by obtain ⟨_, rfl⟩ := len1 hl; rfl
  have F7 := fun_mk (st := sInside) l7 c7 k7
  have b7 := F7.binds (ps := ["rounds"]) fun _ _ _ _ _ _ us hl => by obtain ⟨_, rfl⟩ := len1 hl; rfl
  have F8 := fun_mk (st := sMirrored) l8 c8 k8
  have b8 := F8.binds (ps := ["rounds"]) fun _ _ _ _ _ _ us hl => by obtain ⟨_, rfl⟩ := len1 hl; rfl
  have F9 := fun_mk (st := sPointsOf) l9 c9 k9
  have b9 := F9.binds (ps := ["rounds"]) fun _ _ _ _ _ _ us hl => by obtain ⟨_, rfl⟩ := len1 hl; rfl
  have F10 := fun_mk (st := sPieceFrom) l10 c10 k10
  have b10 := F10.binds (ps := ["rounds", "point_of", "start"]) fun _ _ _ _ _ _ us hl => by obtain ⟨_, _, _, rfl⟩ := len3 hl; rfl
  have F11 := fun_mk (st := sPieces) l11 c11 k11
  have b11 := F11.binds (ps := ["rounds"]) fun _ _ _ _ _ _ us hl => by obtain ⟨_, rfl⟩ := len1 hl; rfl
  have F12 := fun_mk (st := sRopes) l12 c12 k12
  have b12 := F12.binds (ps := ["rounds"]) fun _ _ _ _ _ _ us hl => by obtain ⟨_, rfl⟩ := len1 hl; rfl
  have F13 := fun_mk (st := sManyFaces) l13 c13 k13
  have b13 := F13.binds (ps := ["rounds"]) fun _ _ _ _ _ _ us hl => by obtain ⟨_, rfl⟩ := len1 hl; rfl
  have F14 := fun_mk (st := sBuilt) l14 c14 k14
  have b14 := F14.binds (ps := ["rounds"]) fun _ _ _ _ _ _ us hl => by obtain ⟨_, rfl⟩ := len1 hl; rfl
  have F15 := fun_mk (st := sHandles) l15 c15 k15
  have b15 := F15.binds (ps := ["rounds"]) fun _ _ _ _ _ _ us hl => by obtain ⟨_, rfl⟩ := len1 hl; rfl
  have F16 := fun_mk (st := sFlat) l16 c16 k16
  have b16 := F16.binds (ps := ["rounds"]) fun _ _ _ _ _ _ us hl => by obtain ⟨_, rfl⟩ := len1 hl; rfl
  have F17 := fun_mk (st := sWithout) l17 c17 k17
  have b17 := F17.binds (ps := ["rounds", "rope"]) fun _ _ _ _ _ _ us hl => by obtain ⟨_, _, rfl⟩ := len2 hl; rfl
  have F18 := fun_mk (st := sPtsAcross) l18 c18 k18
  have b18 := F18.binds (ps := ["point_of", "ends"]) fun _ _ _ _ _ _ us hl => by obtain ⟨_, _, rfl⟩ := len2 hl; rfl
  have F19 := fun_mk (st := sNear) l19 c19 k19
  have b19 := F19.binds (ps := ["rounds"]) fun _ _ _ _ _ _ us hl => by obtain ⟨_, rfl⟩ := len1 hl; rfl
  have F20 := fun_mk (st := sAmongP) l20 c20 k20
  have b20 := F20.binds (ps := ["others", "left"]) fun _ _ _ _ _ _ us hl => by obtain ⟨_, _, rfl⟩ := len2 hl; rfl
  have F21 := fun_mk (st := sPeeled) l21 c21 k21
  have b21 := F21.binds (ps := ["near"]) fun _ _ _ _ _ _ us hl => by obtain ⟨_, rfl⟩ := len1 hl; rfl
  have F22 := fun_mk (st := sDense) l22 c22 k22
  have b22 := F22.binds (ps := ["rounds"]) fun _ _ _ _ _ _ us hl => by obtain ⟨_, rfl⟩ := len1 hl; rfl
  have F23 := fun_mk (st := sLeastFree) l23 c23 k23
  have b23 := F23.binds (ps := ["used"]) fun _ _ _ _ _ _ us hl => by obtain ⟨_, rfl⟩ := len1 hl; rfl
  have F24 := fun_mk (st := sColoured) l24 c24 k24
  have b24 := F24.binds (ps := ["rounds"]) fun _ _ _ _ _ _ us hl => by obtain ⟨_, rfl⟩ := len1 hl; rfl
  have F25 := fun_mk (st := sRefNoEnds) l25 c25 k25
  have b25 := F25.binds (ps := ["point_of", "ring"]) fun _ _ _ _ _ _ us hl => by obtain ⟨_, _, rfl⟩ := len2 hl; rfl
  have F26 := fun_mk (st := sSides) l26 c26 k26
  have b26 := F26.binds (ps := ["rounds", "ring"]) fun _ _ _ _ _ _ us hl => by obtain ⟨_, _, rfl⟩ := len2 hl; rfl
  have F27 := fun_mk (st := sTreeOf) l27 c27 k27
  have b27 := F27.binds (ps := ["places", "ropes"]) fun _ _ _ _ _ _ us hl => by obtain ⟨_, _, rfl⟩ := len2 hl; rfl
  have F28 := fun_mk (st := sAllBut) l28 c28 k28
  have b28 := F28.binds (ps := ["ropes", "chosen"]) fun _ _ _ _ _ _ us hl => by obtain ⟨_, _, rfl⟩ := len2 hl; rfl
  have F29 := fun_mk (st := sTwoTrees) l29 c29 k29
  have b29 := F29.binds (ps := ["rounds"]) fun _ _ _ _ _ _ us hl => by obtain ⟨_, rfl⟩ := len1 hl; rfl
  have F30 := fun_mk (st := sUpto) l30 c30 k30
  have b30 := F30.binds (ps := ["_law_script", "_law_small", "_law_great"]) fun _ _ _ _ _ _ us hl => by obtain ⟨_, _, _, rfl⟩ := len3 hl; rfl
  have F31 := fun_mk (st := sAt) l31 c31 k31
  have b31 := F31.binds (ps := ["_law_script", "_law_k"]) fun _ _ _ _ _ _ us hl => by obtain ⟨_, _, rfl⟩ := len2 hl; rfl
  have F32 := fun_mk (st := sAcross) l32 c32 k32
  have b32 := F32.binds (ps := ["_law_end"]) fun _ _ _ _ _ _ us hl => by obtain ⟨_, rfl⟩ := len1 hl; rfl
  have F33 := fun_mk (st := sNextIn) l33 c33 k33
  have b33 := F33.binds (ps := ["_law_rounds", "_law_end"]) fun _ _ _ _ _ _ us hl => by obtain ⟨_, _, rfl⟩ := len2 hl; rfl
  have F34 := fun_mk (st := sFaceOf) l34 c34 k34
  have b34 := F34.binds (ps := ["_law_rounds", "_law_end"]) fun _ _ _ _ _ _ us hl => by obtain ⟨_, _, rfl⟩ := len2 hl; rfl
  have F35 := fun_mk (st := sPut) l35 c35 k35
  have b35 := F35.binds (ps := ["_law_rounds", "_law_behind", "_law_end"]) fun _ _ _ _ _ _ us hl => by obtain ⟨_, _, _, rfl⟩ := len3 hl; rfl
  have F36 := fun_mk (st := sDrawn) l36 c36 k36
  have b36 := F36.binds (ps := ["_law_cells", "_law_mode"]) fun _ _ _ _ _ _ us hl => by obtain ⟨_, _, rfl⟩ := len2 hl; rfl
  have F37 := fun_mk (st := sCopies) l37 c37 k37
  have b37 := F37.binds (ps := ["_law_rounds"]) fun _ _ _ _ _ _ us hl => by obtain ⟨_, rfl⟩ := len1 hl; rfl
  have F38 := fun_mk (st := sOfRounds) l38 c38 k38
  have b38 := F38.binds (ps := ["_law_way", "_law_rounds"]) fun _ _ _ _ _ _ us hl => by obtain ⟨_, _, rfl⟩ := len2 hl; rfl
  have F39 := fun_mk (st := sAskedL) l39 c39 k39
  have b39 := F39.binds (ps := ["_law_way", "_law_rounds"]) fun _ _ _ _ _ _ us hl => by obtain ⟨_, _, rfl⟩ := len2 hl; rfl
  have F40 := fun_mk (st := sRefuses) l40 c40 k40
  have b40 := F40.binds (ps := ["_law_way", "_law_rounds"]) fun _ _ _ _ _ _ us hl => by obtain ⟨_, _, rfl⟩ := len2 hl; rfl
  have F41 := fun_mk (st := sLike) l41 c41 k41
  have b41 := F41.binds (ps := ["_law_found", "_law_due"]) fun _ _ _ _ _ _ us hl => by obtain ⟨_, _, rfl⟩ := len2 hl; rfl
  have F42 := fun_mk (st := sLaw) l42 c42 k42
  refine ⟨PySem.W.fnOf "law" "law" (defArgs sLaw) (defBody sLaw) (defScope sLaw) .none kV42 dc42 pm42 an42 cd42 ct42, fun s v => .of_eq rfl, fun base _ _ => ?_⟩
  have g_all_ends : Def l.prog w K mg base "all_ends" 1 ["rounds"] spAllEnds := ⟨⟨_, _, ok_allEnds F0, PySem.W.mg_of X G a0, k0, b0⟩⟩
  have g_is_drawing : Def l.prog w K mg base "is_drawing" 2 ["rounds"] spIsDrawing := ⟨⟨_, _, ok_isDrawing F1 T g_all_ends, PySem.W.mg_of X G a1, k1, b1⟩⟩
  have g_refuse_no_drawing : Def l.prog w K mg base "refuse_no_drawing" 3 ["rounds"] spRefuse := ⟨⟨_, _, ok_refuse F2 g_is_drawing, PySem.W.mg_of X G a2, k2, b2⟩⟩
  have b_refuse_no_drawing : Def1 l.prog w K mg base "refuse_no_drawing" 3 ["rounds"] (spB1 CD) := ⟨⟨_, _, ok_refuseB F2 OD g_is_drawing, PySem.W.mg_of X G a2, k2, b2⟩⟩
  have g_across : Def l.prog w K mg base "across" 1 ["end"] spAcross := ⟨⟨_, _, ok_acrossP F3, PySem.W.mg_of X G a3, k3, b3⟩⟩
  have g_next_ends : Def l.prog w K mg base "next_ends" 1 ["rounds"] spNextEnds := ⟨⟨_, _, ok_nextEnds F4 T, PySem.W.mg_of X G a4, k4, b4⟩⟩
  have g_face_from : Def l.prog w K mg base "face_from" 2 ["behind", "start"] spFaceFrom := ⟨⟨_, _, ok_faceFrom F5 g_across, PySem.W.mg_of X G a5, k5, b5⟩⟩
  have og_faces : FnOk l.prog w K mg base CX0 4 _ _ ["rounds"] spFaces := ok_faces F6 T g_refuse_no_drawing g_next_ends g_face_from
  have g_faces : Def l.prog w K mg base "faces" 4 ["rounds"] spFaces := ⟨⟨_, _, og_faces, PySem.W.mg_of X G a6, k6, b6⟩⟩
  have ob_faces : FnOk l.prog w K mg base (CX1 l.prog w) 4 _ _ ["rounds"] (spB1 CD) := ok_facesB F6 b_refuse_no_drawing
  have b_faces : Def1 l.prog w K mg base "faces" 4 ["rounds"] (spB1 CD) := ⟨⟨_, _, ob_faces, PySem.W.mg_of X G a6, k6, b6⟩⟩
  have u_faces : Def1 l.prog w K mg base "faces" 4 ["rounds"] (spU CN CD) := ⟨⟨_, _, uni og_faces.lift ob_faces (fun p ps rs n H Q E R D hn hrs q1 q2 => ⟨p, ps, rs, n, rfl, R, D, hn, fun p' ps' fs H' _ _ s _ _ => q1 _ H' s⟩), PySem.W.mg_of X G a6, k6, b6⟩⟩
  have og_inside_out : FnOk l.prog w K mg base CX0 5 _ _ ["rounds"] spFaces := ok_inside F7 g_faces
  have g_inside_out : Def l.prog w K mg base "inside_out" 5 ["rounds"] spFaces := ⟨⟨_, _, og_inside_out, PySem.W.mg_of X G a7, k7, b7⟩⟩
  have ob_inside_out : FnOk l.prog w K mg base (CX1 l.prog w) 5 _ _ ["rounds"] (spB1 CD) := ok_insideB F7 b_faces
  have b_inside_out : Def1 l.prog w K mg base "inside_out" 5 ["rounds"] (spB1 CD) := ⟨⟨_, _, ob_inside_out, PySem.W.mg_of X G a7, k7, b7⟩⟩
  have u_inside_out : Def1 l.prog w K mg base "inside_out" 5 ["rounds"] (spU CN CD) := ⟨⟨_, _, uni og_inside_out.lift ob_inside_out (fun p ps rs n H Q E R D hn hrs q1 q2 => ⟨p, ps, rs, n, rfl, R, D, hn, fun p' ps' fs H' _ _ s _ _ => q1 _ H' s⟩), PySem.W.mg_of X G a7, k7, b7⟩⟩
  have og_mirrored : FnOk l.prog w K mg base CX0 4 _ _ ["rounds"] spMirrored := ok_mirrored F8 T TC g_refuse_no_drawing
  have g_mirrored : Def l.prog w K mg base "mirrored" 4 ["rounds"] spMirrored := ⟨⟨_, _, og_mirrored, PySem.W.mg_of X G a8, k8, b8⟩⟩
  have ob_mirrored : FnOk l.prog w K mg base (CX1 l.prog w) 4 _ _ ["rounds"] (spB1 CD) := ok_mirroredB F8 b_refuse_no_drawing
  have b_mirrored : Def1 l.prog w K mg base "mirrored" 4 ["rounds"] (spB1 CD) := ⟨⟨_, _, ob_mirrored, PySem.W.mg_of X G a8, k8, b8⟩⟩
  have u_mirrored : Def1 l.prog w K mg base "mirrored" 4 ["rounds"] (spU CN CD) := ⟨⟨_, _, uni og_mirrored.lift ob_mirrored (fun p ps rs n H Q E R D hn hrs q1 q2 => ⟨p, ps, rs, n, rfl, R, D, hn, by omega, fun p' ps' H' _ s _ _ => q1 _ H' s⟩), PySem.W.mg_of X G a8, k8, b8⟩⟩
  have g_points_of_ends : Def l.prog w K mg base "points_of_ends" 1 ["rounds"] spPointsOf := ⟨⟨_, _, ok_pointsT F9 T, PySem.W.mg_of X G a9, k9, b9⟩⟩
  have x_points_of_ends : Def l.prog w K mg base "points_of_ends" 1 ["rounds"] spPointsX := ⟨⟨_, _, ok_pointsX F9 T, PySem.W.mg_of X G a9, k9, b9⟩⟩
  have g_piece_from : Def l.prog w K mg base "piece_from" 2 ["rounds", "point_of", "start"] spPieceFrom := ⟨⟨_, _, ok_pieceFrom F10 T g_across, PySem.W.mg_of X G a10, k10, b10⟩⟩
  have og_pieces : FnOk l.prog w K mg base CX0 4 _ _ ["rounds"] spPieces := ok_pieces F11 T g_refuse_no_drawing g_points_of_ends g_piece_from
  have g_pieces : Def l.prog w K mg base "pieces" 4 ["rounds"] spPieces := ⟨⟨_, _, og_pieces, PySem.W.mg_of X G a11, k11, b11⟩⟩
  have ob_pieces : FnOk l.prog w K mg base (CX1 l.prog w) 4 _ _ ["rounds"] (spB1 CD) := ok_piecesB F11 b_refuse_no_drawing
  have b_pieces : Def1 l.prog w K mg base "pieces" 4 ["rounds"] (spB1 CD) := ⟨⟨_, _, ob_pieces, PySem.W.mg_of X G a11, k11, b11⟩⟩
  have u_pieces : Def1 l.prog w K mg base "pieces" 4 ["rounds"] (spU CN CD) := ⟨⟨_, _, uni og_pieces.lift ob_pieces (fun p ps rs n H Q E R D hn hrs q1 q2 => ⟨p, ps, rs, n, rfl, R, D, hn, hrs, fun p' ps' gs H' _ _ s _ _ => q1 _ H' s⟩), PySem.W.mg_of X G a11, k11, b11⟩⟩
  have g_how_many_ropes : Def l.prog w K mg base "how_many_ropes" 1 ["rounds"] spRopes := ⟨⟨_, _, ok_ropes F12 T, PySem.W.mg_of X G a12, k12, b12⟩⟩
  have og_how_many_faces : FnOk l.prog w K mg base CX0 5 _ _ ["rounds"] spManyFaces := ok_manyFaces F13 T g_faces
  have g_how_many_faces : Def l.prog w K mg base "how_many_faces" 5 ["rounds"] spManyFaces := ⟨⟨_, _, og_how_many_faces, PySem.W.mg_of X G a13, k13, b13⟩⟩
  have ob_how_many_faces : FnOk l.prog w K mg base (CX1 l.prog w) 5 _ _ ["rounds"] (spB1 CD) := ok_manyFacesB F13 T b_faces
  have b_how_many_faces : Def1 l.prog w K mg base "how_many_faces" 5 ["rounds"] (spB1 CD) := ⟨⟨_, _, ob_how_many_faces, PySem.W.mg_of X G a13, k13, b13⟩⟩
  have u_how_many_faces : Def1 l.prog w K mg base "how_many_faces" 5 ["rounds"] (spU CN CD) := ⟨⟨_, _, uni og_how_many_faces.lift ob_how_many_faces (fun p ps rs n H Q E R D hn hrs q1 q2 => ⟨p, ps, rs, n, rfl, R, D, hn, hrs, fun fs H' _ s => q1 _ H' s⟩), PySem.W.mg_of X G a13, k13, b13⟩⟩
  have og_built : FnOk l.prog w K mg base CX0 6 _ _ ["rounds"] spBuilt := ok_built F14 T g_pieces g_how_many_faces g_how_many_ropes
  have g_built : Def l.prog w K mg base "built" 6 ["rounds"] spBuilt := ⟨⟨_, _, og_built, PySem.W.mg_of X G a14, k14, b14⟩⟩
  have ob_built : FnOk l.prog w K mg base (CX1 l.prog w) 6 _ _ ["rounds"] (spB1 CD) := ok_builtB F14 T b_pieces
  have b_built : Def1 l.prog w K mg base "built" 6 ["rounds"] (spB1 CD) := ⟨⟨_, _, ob_built, PySem.W.mg_of X G a14, k14, b14⟩⟩
  have u_built : Def1 l.prog w K mg base "built" 6 ["rounds"] (spU CN CD) := ⟨⟨_, _, uni og_built.lift ob_built (fun p ps rs n H Q E R D hn hrs q1 q2 => ⟨p, ps, rs, n, rfl, R, D, hn, hrs, fun fs gs t H' _ _ _ _ s => q1 _ H' s⟩), PySem.W.mg_of X G a14, k14, b14⟩⟩
  have og_handles : FnOk l.prog w K mg base CX0 7 _ _ ["rounds"] spHandles := ok_handles F15 g_built
  have g_handles : Def l.prog w K mg base "handles" 7 ["rounds"] spHandles := ⟨⟨_, _, og_handles, PySem.W.mg_of X G a15, k15, b15⟩⟩
  have ob_handles : FnOk l.prog w K mg base (CX1 l.prog w) 7 _ _ ["rounds"] (spB1 CD) := ok_handlesB F15 b_built
  have b_handles : Def1 l.prog w K mg base "handles" 7 ["rounds"] (spB1 CD) := ⟨⟨_, _, ob_handles, PySem.W.mg_of X G a15, k15, b15⟩⟩
  have u_handles : Def1 l.prog w K mg base "handles" 7 ["rounds"] (spU CN CD) := ⟨⟨_, _, uni og_handles.lift ob_handles (fun p ps rs n H Q E R D hn hrs q1 q2 => ⟨p, ps, rs, n, rfl, R, D, hn, hrs, fun fs gs H' _ _ s => q1 _ H' s⟩), PySem.W.mg_of X G a15, k15, b15⟩⟩
  have og_is_flat : FnOk l.prog w K mg base CX0 8 _ _ ["rounds"] spFlat := ok_flat F16 g_handles
  have g_is_flat : Def l.prog w K mg base "is_flat" 8 ["rounds"] spFlat := ⟨⟨_, _, og_is_flat, PySem.W.mg_of X G a16, k16, b16⟩⟩
  have ob_is_flat : FnOk l.prog w K mg base (CX1 l.prog w) 8 _ _ ["rounds"] (spB1 CD) := ok_flatB F16 b_handles
  have b_is_flat : Def1 l.prog w K mg base "is_flat" 8 ["rounds"] (spB1 CD) := ⟨⟨_, _, ob_is_flat, PySem.W.mg_of X G a16, k16, b16⟩⟩
  have u_is_flat : Def1 l.prog w K mg base "is_flat" 8 ["rounds"] (spU CN CD) := ⟨⟨_, _, uni og_is_flat.lift ob_is_flat (fun p ps rs n H Q E R D hn hrs q1 q2 => ⟨p, ps, rs, n, rfl, R, D, hn, hrs, fun fs gs H' _ _ s => q1 _ H' s⟩), PySem.W.mg_of X G a16, k16, b16⟩⟩
  have w_without : Def1 l.prog w K mg base "without" 4 ["rounds", "rope"] (spU2 CE CD isM1) := ⟨⟨_, _, uni2 (ok_withoutE F17 T OE g_refuse_no_drawing g_how_many_ropes) (ok_withoutB F17 b_refuse_no_drawing), PySem.W.mg_of X G a17, k17, b17⟩⟩
  have g_points_across : Def l.prog w K mg base "points_across" 2 ["point_of", "ends"] spPtsAcross := ⟨⟨_, _, ok_ptsAcross F18 T T2 g_across, PySem.W.mg_of X G a18, k18, b18⟩⟩
  have g_all_neighbours : Def1 l.prog w K mg base "all_neighbours" 4 ["rounds"] (spNear CN) := ⟨⟨_, _, ok_near F19 T ON g_refuse_no_drawing g_points_of_ends g_points_across, PySem.W.mg_of X G a19, k19, b19⟩⟩
  have b_all_neighbours : Def1 l.prog w K mg base "all_neighbours" 4 ["rounds"] (spB1 CD) := ⟨⟨_, _, ok_nearB F19 b_refuse_no_drawing, PySem.W.mg_of X G a19, k19, b19⟩⟩
  have g_how_many_among : Def l.prog w K mg base "how_many_among" 1 ["others", "left"] spAmongP := ⟨⟨_, _, ok_amongP F20 T, PySem.W.mg_of X G a20, k20, b20⟩⟩
  have g_peeled : Def l.prog w K mg base "peeled" 2 ["near"] spPeeled := ⟨⟨_, _, ok_peeled F21 T TC g_how_many_among, PySem.W.mg_of X G a21, k21, b21⟩⟩
  have og_dense_part : FnOk l.prog w K mg base (CX1 l.prog w) 5 _ _ ["rounds"] (spDense CN) := ok_dense F22 T TC g_all_neighbours g_peeled
  have g_dense_part : Def1 l.prog w K mg base "dense_part" 5 ["rounds"] (spDense CN) := ⟨⟨_, _, og_dense_part, PySem.W.mg_of X G a22, k22, b22⟩⟩
  have ob_dense_part : FnOk l.prog w K mg base (CX1 l.prog w) 5 _ _ ["rounds"] (spB1 CD) := ok_denseB F22 b_all_neighbours g_peeled
  have b_dense_part : Def1 l.prog w K mg base "dense_part" 5 ["rounds"] (spB1 CD) := ⟨⟨_, _, ob_dense_part, PySem.W.mg_of X G a22, k22, b22⟩⟩
  have u_dense_part : Def1 l.prog w K mg base "dense_part" 5 ["rounds"] (spU CN CD) := ⟨⟨_, _, uni og_dense_part ob_dense_part (fun p ps rs n H Q E R D hn hrs q1 q2 => ⟨p, ps, rs, n, rfl, R, D, hn, hrs, fun N _ _ t l g part H' _ _ _ s => q1 _ H' s, fun N _ _ H' s => q2 H' s⟩), PySem.W.mg_of X G a22, k22, b22⟩⟩
  have g_least_free : Def l.prog w K mg base "least_free" 1 ["used"] spFree := ⟨⟨_, _, ok_free F23, PySem.W.mg_of X G a23, k23, b23⟩⟩
  have og_coloured : FnOk l.prog w K mg base (CX1 l.prog w) 5 _ _ ["rounds"] (spColoured CN) := ok_coloured F24 T TC g_all_neighbours g_peeled g_least_free
  have g_coloured : Def1 l.prog w K mg base "coloured" 5 ["rounds"] (spColoured CN) := ⟨⟨_, _, og_coloured, PySem.W.mg_of X G a24, k24, b24⟩⟩
  have ob_coloured : FnOk l.prog w K mg base (CX1 l.prog w) 5 _ _ ["rounds"] (spB1 CD) := ok_colouredB F24 b_all_neighbours
  have b_coloured : Def1 l.prog w K mg base "coloured" 5 ["rounds"] (spB1 CD) := ⟨⟨_, _, ob_coloured, PySem.W.mg_of X G a24, k24, b24⟩⟩
  have u_coloured : Def1 l.prog w K mg base "coloured" 5 ["rounds"] (spU CN CD) := ⟨⟨_, _, uni og_coloured ob_coloured (fun p ps rs n H Q E R D hn hrs q1 q2 => ⟨p, ps, rs, n, rfl, R, D, hn, hrs, fun N _ _ l cs H' _ _ s => q1 _ H' s, fun N _ _ H' s => q2 H' s⟩), PySem.W.mg_of X G a24, k24, b24⟩⟩
  have b_refuse_no_ends : Def1 l.prog w K mg base "refuse_no_ends" 1 ["point_of", "ring"] (spNoEndsB CE) := ⟨⟨_, _, ok_refNoEndsB F25 OE, PySem.W.mg_of X G a25, k25, b25⟩⟩
  have w_sides : Def1 l.prog w K mg base "sides" 5 ["rounds", "ring"] (spU2 CE CD isL1) := ⟨⟨_, _, uni2 (ok_sidesE F26 g_refuse_no_drawing x_points_of_ends b_refuse_no_ends) (ok_sidesB F26 b_refuse_no_drawing), PySem.W.mg_of X G a26, k26, b26⟩⟩
  have g_tree_of : Def l.prog w K mg base "tree_of" 2 ["places", "ropes"] spTreeOf := ⟨⟨_, _, ok_treeOf F27 T g_points_of_ends, PySem.W.mg_of X G a27, k27, b27⟩⟩
  have g_all_but : Def l.prog w K mg base "all_but" 1 ["ropes", "chosen"] spAllBut := ⟨⟨_, _, ok_allBut F28, PySem.W.mg_of X G a28, k28, b28⟩⟩
  have og_two_trees : FnOk l.prog w K mg base CX0 5 _ _ ["rounds"] spTwoTrees := ok_twoTrees F29 T g_refuse_no_drawing g_how_many_ropes g_tree_of g_all_but g_faces
  have g_two_trees : Def l.prog w K mg base "two_trees" 5 ["rounds"] spTwoTrees := ⟨⟨_, _, og_two_trees, PySem.W.mg_of X G a29, k29, b29⟩⟩
  have ob_two_trees : FnOk l.prog w K mg base (CX1 l.prog w) 5 _ _ ["rounds"] (spB1 CD) := ok_twoTreesB F29 b_refuse_no_drawing
  have b_two_trees : Def1 l.prog w K mg base "two_trees" 5 ["rounds"] (spB1 CD) := ⟨⟨_, _, ob_two_trees, PySem.W.mg_of X G a29, k29, b29⟩⟩
  have u_two_trees : Def1 l.prog w K mg base "two_trees" 5 ["rounds"] (spU CN CD) := ⟨⟨_, _, uni og_two_trees.lift ob_two_trees (fun p ps rs n H Q E R D hn hrs q1 q2 => ⟨p, ps, rs, n, rfl, R, D, hn, hrs, fun fs t a b c H' _ _ _ _ _ _ _ s => q1 _ H' s⟩), PySem.W.mg_of X G a29, k29, b29⟩⟩
  have g__law_upto : Def l.prog w K mg base "_law_upto" 1 ["_law_script", "_law_small", "_law_great"] (spUpto K) := ⟨⟨_, _, ok_upto F30 T, PySem.W.mg_of X G a30, k30, b30⟩⟩
  have g__law_at : Def l.prog w K mg base "_law_at" 1 ["_law_script", "_law_k"] (spAt K) := ⟨⟨_, _, ok_at F31 T, PySem.W.mg_of X G a31, k31, b31⟩⟩
  have g__law_across : Def l.prog w K mg base "_law_across" 1 ["_law_end"] spAcross := ⟨⟨_, _, ok_across F32, PySem.W.mg_of X G a32, k32, b32⟩⟩
  have g__law_next_in : Def l.prog w K mg base "_law_next_in" 1 ["_law_rounds", "_law_end"] spNextIn := ⟨⟨_, _, ok_nextIn F33 T, PySem.W.mg_of X G a33, k33, b33⟩⟩
  have g__law_face_of : Def l.prog w K mg base "_law_face_of" 2 ["_law_rounds", "_law_end"] spFaceOf := ⟨⟨_, _, ok_faceOf F34 g__law_across g__law_next_in, PySem.W.mg_of X G a34, k34, b34⟩⟩
  have g__law_put : Def l.prog w K mg base "_law_put" 1 ["_law_rounds", "_law_behind", "_law_end"] spPut := ⟨⟨_, _, ok_put F35, PySem.W.mg_of X G a35, k35, b35⟩⟩
  have g__law_drawn : Def l.prog w K mg base "_law_drawn" 3 ["_law_cells", "_law_mode"] (spDrawn K) := ⟨⟨_, _, ok_drawn F36 T g__law_across g__law_next_in g__law_face_of g__law_put, PySem.W.mg_of X G a36, k36, b36⟩⟩
  have g__law_copies : Def l.prog w K mg base "_law_copies" 1 ["_law_rounds"] spCopies := ⟨⟨_, _, ok_copies F37 T, PySem.W.mg_of X G a37, k37, b37⟩⟩
  have w__law_of_rounds : Def1 l.prog w K mg base "_law_of_rounds" 9 ["_law_way", "_law_rounds"] (spOf CE CN CD) := ⟨⟨_, _, ok_ofR F38 u_faces u_inside_out u_mirrored u_pieces u_how_many_faces u_handles u_is_flat, PySem.W.mg_of X G a38, k38, b38⟩⟩
  have w__law_asked : Def1 l.prog w K mg base "_law_asked" 10 ["_law_way", "_law_rounds"] (spOf CE CN CD) := ⟨⟨_, _, ok_asked F39 w__law_of_rounds u_built u_two_trees u_dense_part u_coloured w_without w_sides, PySem.W.mg_of X G a39, k39, b39⟩⟩
  have g__law_refuses : Def l.prog w K mg base "_law_refuses" 11 ["_law_way", "_law_rounds"] spRefuses := ⟨⟨_, _, ok_refuses F40 T TX w__law_asked, PySem.W.mg_of X G a40, k40, b40⟩⟩
  have g__law_like : Def l.prog w K mg base "_law_like" 1 ["_law_found", "_law_due"] spLike := ⟨⟨_, _, ok_like F41 T T2, PySem.W.mg_of X G a41, k41, b41⟩⟩
  exact ok_law F42 T g__law_upto g__law_at g__law_drawn g__law_copies g__law_refuses g__law_like
theorem walk {l : PySem.W.OpenLaw} {q : Program} {loose : List Str} {XP : (Str → Option Value) → Heap → Prop} {YP : World → Heap → Prop} {d : DefRec} {K : Params → PySem.W.Frag} (hn : l.most = some 63) (hdf : d.params.defaults = [])
    (hY : ∀ (w : World) (h : Heap), YP w h → (K w.params).In h)
    (F : ∀ (w : World) (mg : Str → Option Value) (fa : Addr) (h : Heap), (K w.params).In h → h.Ns mainGlobals mg → mg d.name = some (.ref fa) →
      ∃ fd : FuncData, (∀ (s : Shared) (u : Value), BindsTo s fd ⟨[u], []⟩ [("_law_script", u)]) ∧ ∀ base : Heap, (K w.params).In base → base.Ns mainGlobals mg → FnOk l.prog w (K w.params) mg base CX0 12 fa fd ["_law_script"] (spLaw (K w.params))) :
    PySem.W.WalkO q loose XP YP l.row.toRowW d [] (fun f vs => PySem.call f vs) :=
  L2.walk_of (n := 63) (k := 12) (x := "_law_script") (CX := fun _ => CX0) (sp := fun w => spLaw (K w.params)) hn (by decide) hdf ⟨rfl, by decide, by decide⟩ hY F (fun _ _ a ns hl _ hS => ⟨a, ns, rfl, hS, hl, fun _ => rfl⟩) fun _ _ _ _ _ z => z
end Ink
open PySem PySem.W PyProof.Rows
def _root_.PySem.W.Fast.tw832304654818134333 : Unit := ()
def _root_.PySem.W.Fast.tw9215498137704412518 : Unit := ()
def _root_.PySem.W.Fast.tw5048676473948325960 : Unit := ()
def _root_.PySem.W.Fast.tw1285661497750915553 : Unit := ()
def _root_.PySem.W.Fast.tw2840631753150663147 : Unit := ()
def _root_.PySem.W.Fast.tw7440542021319580328 : Unit := ()
def _root_.PySem.W.Fast.tw6727981544728692533 : Unit := ()
set_option maxRecDepth 100000 in
set_option maxHeartbeats 0 in
theorem PySem.Challenge.cw_inkmap_k11_refused_holds : PySem.Challenge.rw_inkmap_k11_refused.Holds := by
  w_on; o_law; k_head; (case hw => w_witness2)
  k_fill
  refine Ink.walk (l := PySem.Challenge.rw_inkmap_k11_refused) rfl rfl (fun w h Y => PySem.W.kIn_of Y) ?F
  case F =>
    intro w mg fa h KX G hmg
    refine' Ink.all_mk KX G hmg ?a0 ?l0 ?c0 ?k0 ?a1 ?l1 ?c1 ?k1 ?a2 ?l2 ?c2 ?k2 ?a3 ?l3 ?c3 ?k3 ?a4 ?l4 ?c4 ?k4 ?a5 ?l5 ?c5 ?k5 ?a6 ?l6 ?c6 ?k6 ?a7 ?l7 ?c7 ?k7 ?a8 ?l8 ?c8 ?k8 ?a9 ?l9 ?c9 ?k9 ?a10 ?l10 ?c10 ?k10 ?a11 ?l11 ?c11 ?k11 ?a12 ?l12 ?c12 ?k12 ?a13 ?l13 ?c13 ?k13 ?a14 ?l14 ?c14 ?k14 ?a15 ?l15 ?c15 ?k15 ?a16 ?l16 ?c16 ?k16 ?a17 ?l17 ?c17 ?k17 ?a18 ?l18 ?c18 ?k18 ?a19 ?l19 ?c19 ?k19 ?a20 ?l20 ?c20 ?k20 ?a21 ?l21 ?c21 ?k21 ?a22 ?l22 ?c22 ?k22 ?a23 ?l23 ?c23 ?k23 ?a24 ?l24 ?c24 ?k24 ?a25 ?l25 ?c25 ?k25 ?a26 ?l26 ?c26 ?k26 ?a27 ?l27 ?c27 ?k27 ?a28 ?l28 ?c28 ?k28 ?a29 ?l29 ?c29 ?k29 ?a30 ?l30 ?c30 ?k30 ?a31 ?l31 ?c31 ?k31 ?a32 ?l32 ?c32 ?k32 ?a33 ?l33 ?c33 ?k33 ?a34 ?l34 ?c34 ?k34 ?a35 ?l35 ?c35 ?k35 ?a36 ?l36 ?c36 ?k36 ?a37 ?l37 ?c37 ?k37 ?a38 ?l38 ?c38 ?k38 ?a39 ?l39 ?c39 ?k39 ?a40 ?l40 ?c40 ?k40 ?a41 ?l41 ?c41 ?k41 ?a42 ?l42 ?c42 ?k42 ?z0 ?z1 ?z2 ?z3 ?z4 ?z5 ?z6 ?z7 ?z8 ?z9 ?z10 ?z11 ?xE ?xN ?xD ?xI ?xR ?xV ?xMin ?xMax ?xRev ?eE ?gE0 ?gE1 ?gE2 ?gE3 ?gE4 ?gE5 ?gE6 ?mE ?nE ?eN ?gN0 ?gN1 ?gN2 ?gN3 ?gN4 ?gN5 ?gN6 ?mN ?nN ?eD ?gD0 ?gD1 ?gD2 ?gD3 ?gD4 ?gD5 ?gD6 ?mD ?nD ?oD ?oV
    (case a0 => k_is)
    (case l0 => k_is)
    (case c0 => k_is)
    (case k0 => k_is)
    (case a1 => k_is)
    (case l1 => k_is)
    (case c1 => k_is)
    (case k1 => k_is)
    (case a2 => k_is)
    (case l2 => k_is)
    (case c2 => k_is)
    (case k2 => k_is)
    (case a3 => k_is)
    (case l3 => k_is)
    (case c3 => k_is)
    (case k3 => k_is)
    (case a4 => k_is)
    (case l4 => k_is)
    (case c4 => k_is)
    (case k4 => k_is)
    (case a5 => k_is)
    (case l5 => k_is)
    (case c5 => k_is)
    (case k5 => k_is)
    (case a6 => k_is)
    (case l6 => k_is)
    (case c6 => k_is)
    (case k6 => k_is)
    (case a7 => k_is)
    (case l7 => k_is)
    (case c7 => k_is)
    (case k7 => k_is)
    (case a8 => k_is)
    (case l8 => k_is)
    (case c8 => k_is)
    (case k8 => k_is)
    (case a9 => k_is)
    (case l9 => k_is)
    (case c9 => k_is)
    (case k9 => k_is)
    (case a10 => k_is)
    (case l10 => k_is)
    (case c10 => k_is)
    (case k10 => k_is)
    (case a11 => k_is)
    (case l11 => k_is)
    (case c11 => k_is)
    (case k11 => k_is)
    (case a12 => k_is)
    (case l12 => k_is)
    (case c12 => k_is)
    (case k12 => k_is)
    (case a13 => k_is)
    (case l13 => k_is)
    (case c13 => k_is)
    (case k13 => k_is)
    (case a14 => k_is)
    (case l14 => k_is)
    (case c14 => k_is)
    (case k14 => k_is)
    (case a15 => k_is)
    (case l15 => k_is)
    (case c15 => k_is)
    (case k15 => k_is)
    (case a16 => k_is)
    (case l16 => k_is)
    (case c16 => k_is)
    (case k16 => k_is)
    (case a17 => k_is)
    (case l17 => k_is)
    (case c17 => k_is)
    (case k17 => k_is)
    (case a18 => k_is)
    (case l18 => k_is)
    (case c18 => k_is)
    (case k18 => k_is)
    (case a19 => k_is)
    (case l19 => k_is)
    (case c19 => k_is)
    (case k19 => k_is)
    (case a20 => k_is)
    (case l20 => k_is)
    (case c20 => k_is)
    (case k20 => k_is)
    (case a21 => k_is)
    (case l21 => k_is)
    (case c21 => k_is)
    (case k21 => k_is)
    (case a22 => k_is)
    (case l22 => k_is)
    (case c22 => k_is)
    (case k22 => k_is)
    (case a23 => k_is)
    (case l23 => k_is)
    (case c23 => k_is)
    (case k23 => k_is)
    (case a24 => k_is)
    (case l24 => k_is)
    (case c24 => k_is)
    (case k24 => k_is)
    (case a25 => k_is)
    (case l25 => k_is)
    (case c25 => k_is)
    (case k25 => k_is)
    (case a26 => k_is)
    (case l26 => k_is)
    (case c26 => k_is)
    (case k26 => k_is)
    (case a27 => k_is)
    (case l27 => k_is)
    (case c27 => k_is)
    (case k27 => k_is)
    (case a28 => k_is)
    (case l28 => k_is)
    (case c28 => k_is)
    (case k28 => k_is)
    (case a29 => k_is)
    (case l29 => k_is)
    (case c29 => k_is)
    (case k29 => k_is)
    (case a30 => k_is)
    (case l30 => k_is)
    (case c30 => k_is)
    (case k30 => k_is)
    (case a31 => k_is)
    (case l31 => k_is)
    (case c31 => k_is)
    (case k31 => k_is)
    (case a32 => k_is)
    (case l32 => k_is)
    (case c32 => k_is)
    (case k32 => k_is)
    (case a33 => k_is)
    (case l33 => k_is)
    (case c33 => k_is)
    (case k33 => k_is)
    (case a34 => k_is)
    (case l34 => k_is)
    (case c34 => k_is)
    (case k34 => k_is)
    (case a35 => k_is)
    (case l35 => k_is)
    (case c35 => k_is)
    (case k35 => k_is)
    (case a36 => k_is)
    (case l36 => k_is)
    (case c36 => k_is)
    (case k36 => k_is)
    (case a37 => k_is)
    (case l37 => k_is)
    (case c37 => k_is)
    (case k37 => k_is)
    (case a38 => k_is)
    (case l38 => k_is)
    (case c38 => k_is)
    (case k38 => k_is)
    (case a39 => k_is)
    (case l39 => k_is)
    (case c39 => k_is)
    (case k39 => k_is)
    (case a40 => k_is)
    (case l40 => k_is)
    (case c40 => k_is)
    (case k40 => k_is)
    (case a41 => k_is)
    (case l41 => k_is)
    (case c41 => k_is)
    (case k41 => k_is)
    (case a42 => k_is)
    (case l42 => k_is)
    (case c42 => k_is)
    (case k42 => k_is)
    (case z0 => k_is)
    (case z1 => k_is)
    (case z2 => k_is)
    (case z3 => k_is)
    (case z4 => k_is)
    (case z5 => k_is)
    (case z6 => k_is)
    (case z7 => k_is)
    (case z8 => k_is)
    (case z9 => k_is)
    (case z10 => k_is)
    (case z11 => k_is)
    (case xE => k_is)
    (case xN => k_is)
    (case xD => k_is)
    (case xI => k_is)
    (case xR => k_is)
    (case xV => k_is)
    (case xMin => k_is)
    (case xMax => k_is)
    (case xRev => k_is)
    (case eE => k_exc)
    (case gE0 => k_is)
    (case gE1 => k_is)
    (case gE2 => k_is)
    (case gE3 => k_is)
    (case gE4 => k_is)
    (case gE5 => k_is)
    (case gE6 => k_is)
    (case mE => kts_exm)
    (case nE => kit_is)
    (case eN => k_exc)
    (case gN0 => k_is)
    (case gN1 => k_is)
    (case gN2 => k_is)
    (case gN3 => k_is)
    (case gN4 => k_is)
    (case gN5 => k_is)
    (case gN6 => k_is)
    (case mN => kts_exm)
    (case nN => kit_is)
    (case eD => k_exc)
    (case gD0 => k_is)
    (case gD1 => k_is)
    (case gD2 => k_is)
    (case gD3 => k_is)
    (case gD4 => k_is)
    (case gD5 => k_is)
    (case gD6 => k_is)
    (case mD => kts_exm)
    (case nD => kit_is)
    (case oD => kit_is)
    (case oV => kit_is)
