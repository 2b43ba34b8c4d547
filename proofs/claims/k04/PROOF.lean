import PyProof.Rows.All
import Wide.All
import OpenK.AllK
import Wide.FinOn
import Lean
import PyProof.EqAt
import PyProof.EqKinds
import PyProof.TupleCall
import PyProof.NeKinds
import KE.KIntText
import PyProof.StrCalls
import PyProof.ZipIter
import PyProof.Rows.SetFrom
import PyProof.SetRoads
import PyProof.CompUse
import PyProof.Rows.MinMaxN
import PyProof.Rows.SortStr
import PyProof.Rows.SortWalk
import PyProof.Rows.SeqMore2
import KE.KMinKey
import PyProof.Rows.CallKwBuiltin
import PyProof.TupleOfStr
import PyProof.Draws
import PyProof.Rows.TupIter
import KE.KxText
import PyProof.FString5
import PyProof.DictWalks
import PyProof.CollectStr
import PySem.Challenge.RW_oldhands_k04_values_of_kinds
set_option Elab.async false
set_option linter.all false
set_option maxRecDepth 100000
/-! THE HAND LAYER, for ints, bools, texts, own classes, LISTS and tuples (index, slices, in, append, pop ..), calls, loops. Paste it whole ahead of your own text; what your proof does not reach may be deleted. -/
namespace L2
open PySem PySem.Spec PyProof.Rows

/-- a key: an int or a str -/
noncomputable abbrev Key := Sum Int Str
noncomputable def keyIs : Key → Value → Bool
  | .inl k, v => Value.isInt k v
  | .inr x, v => Value.isStrOf x v
noncomputable def keyH (w : World) : Key → Int
  | .inl k => hashInt k
  | .inr x => hashStr w x
theorem keyIs_shape : ∀ {k : Key} {v : Value}, keyIs k v = true → (∃ i t, k = Sum.inl i ∧ v = Value.int i t) ∨ (∃ x t, k = Sum.inr x ∧ v = Value.str x t)
  | .inl i, v, h => by
    obtain ⟨t, e⟩ := Value.isInt_shape (k := i) (v := v) h
    exact .inl ⟨i, t, rfl, e⟩
  | .inr x, v, h => by
    obtain ⟨t, e⟩ := Value.isStrOf_shape (x := x) (v := v) h
    exact .inr ⟨x, t, rfl, e⟩
theorem keyIs_int (i : Int) (t : Tok) : keyIs (.inl i) (.int i t) = true := by simp [keyIs, Value.isInt]
theorem keyIs_str (x : Str) (t : Tok) : keyIs (.inr x) (.str x t) = true := by simp [keyIs, Value.isStrOf]
theorem key_ll (a b : Int) : decide ((Sum.inl a : Key) = Sum.inl b) = (a == b) := by
  by_cases e : a = b
  · subst e; simp
  · have h : ¬ (Sum.inl a : Key) = Sum.inl b := fun q => e (Sum.inl.inj q)
    rw [decide_eq_false h]
    exact (beq_eq_false_iff_ne.mpr e).symm
theorem key_rr (a b : Str) : decide ((Sum.inr a : Key) = Sum.inr b) = decide (a = b) := by
  by_cases e : a = b
  · subst e; simp
  · have h : ¬ (Sum.inr a : Key) = Sum.inr b := fun q => e (Sum.inr.inj q)
    rw [decide_eq_false h, decide_eq_false e]
theorem key_lr (a : Int) (b : Str) : decide ((Sum.inl a : Key) = Sum.inr b) = false := decide_eq_false (fun q => nomatch q)
theorem key_rl (a : Str) (b : Int) : decide ((Sum.inr a : Key) = Sum.inl b) = false := decide_eq_false (fun q => nomatch q)

noncomputable def mixKind (prog : Program) (w : World) : PySem.KeyKind prog w Key where
  is := keyIs
  hash := keyH w
  inj := fun v a b ha hb => by
    rcases keyIs_shape ha with ⟨i, t, rfl, rfl⟩ | ⟨x, t, rfl, rfl⟩
    · rcases keyIs_shape hb with ⟨j, u, rfl, e⟩ | ⟨y, u, rfl, e⟩
      · injection e with e1 _; rw [e1]
      · exact nomatch e
    · rcases keyIs_shape hb with ⟨j, u, rfl, e⟩ | ⟨y, u, rfl, e⟩
      · exact nomatch e
      · injection e with e1 _; rw [e1]
  byValue := fun k v h => by
    rcases keyIs_shape h with ⟨i, t, rfl, rfl⟩ | ⟨x, t, rfl, rfl⟩ <;> rfl
  pyHash := fun hv h => by
    rcases keyIs_shape hv with ⟨i, t, rfl, rfl⟩ | ⟨x, t, rfl, rfl⟩
    · exact wpAny_pyHash_int h
    · exact wpAny_pyHash_str h
  eqBool := fun hu hv h => by
    rcases keyIs_shape hu with ⟨i, t, rfl, rfl⟩ | ⟨x, t, rfl, rfl⟩
    · rcases keyIs_shape hv with ⟨j, u, rfl, rfl⟩ | ⟨y, u, rfl, rfl⟩
      · rw [key_ll] at h; exact wpAny_eqBool_int h
      · rw [key_lr] at h; exact SeqAt.EqAt.int_str i t y u _ _ _ _ h
    · rcases keyIs_shape hv with ⟨j, u, rfl, rfl⟩ | ⟨y, u, rfl, rfl⟩
      · rw [key_rl] at h; exact SeqAt.EqAt.str_int x t j u _ _ _ _ h
      · rw [key_rr] at h; exact wpAny_eqBool_str h
  «strs» := fun k x t v h => by
    rcases keyIs_shape h with ⟨i, u, rfl, e⟩ | ⟨y, u, rfl, e⟩
    · exact nomatch e
    · injection e with e1 _
      subst e1
      cases v <;> rfl

theorem mixKind_int (prog : Program) (w : World) (i : Int) (t : Tok) : (mixKind prog w).is (.inl i) (.int i t) = true := keyIs_int i t
theorem mixKind_str (prog : Program) (w : World) (x : Str) (t : Tok) : (mixKind prog w).is (.inr x) (.str x t) = true := keyIs_str x t
end L2

namespace L2
open PySem PySem.Spec PyProof.Rows

/-- a value, without the heap -/
inductive V where
  | non | bl (b : Bool) | int (i : Int) | str (x : Str) | byt (b : Array UInt8) | flt (b : UInt64) | ref (a : Addr) | ty (n : String)
  deriving DecidableEq

noncomputable def RelV : V → Value → Prop
  | .non, u => u = Value.none
  | .bl b, u => u = Value.bool b
  | .int i, u => ∃ t, u = Value.int i t
  | .str x, u => ∃ t, u = Value.str x t
  | .byt b, u => ∃ t, u = Value.bytes b t
  | .flt b, u => ∃ t, u = Value.float b t
  | .ref a, u => u = Value.ref a
  | .ty n, u => u = Value.type n

noncomputable abbrev Vals : List V → List Value → Prop := Paired RelV
theorem Vals.length {xs : List V} {us : List Value} (r : Vals xs us) : xs.length = us.length := Paired.length r
theorem Vals.get : ∀ {xs : List V} {us : List Value} {i : Nat} {x : V}, Vals xs us → xs[i]? = some x → ∃ u, us[i]? = some u ∧ RelV x u
  | _, _, _, _, .nil, e => by simp at e
  | _, _, 0, _, .cons r _, e => by simp at e; subst e; exact ⟨_, rfl, r⟩
  | _, _, i + 1, x, .cons _ t, e => by
    obtain ⟨u, h1, h2⟩ := Vals.get (i := i) (x := x) t (by simpa using e)
    exact ⟨u, by simpa using h1, h2⟩
theorem Vals.set {x : V} {u : Value} (r : RelV x u) : ∀ {xs : List V} {us : List Value} (i : Nat), Vals xs us → Vals (xs.set i x) (us.set i u)
  | _, _, _, .nil => .nil
  | _, _, 0, .cons _ t => .cons r t
  | _, _, i + 1, .cons q t => .cons q (Vals.set r i t)
theorem Vals.append : ∀ {xs ys : List V} {us ws : List Value}, Vals xs us → Vals ys ws → Vals (xs ++ ys) (us ++ ws)
  | _, _, _, _, .nil, s => s
  | _, _, _, _, .cons r t, s => .cons r (Vals.append t s)
theorem Vals.take : ∀ {xs : List V} {us : List Value} (n : Nat), Vals xs us → Vals (xs.take n) (us.take n)
  | _, _, 0, _ => .nil
  | _, _, _ + 1, .nil => .nil
  | _, _, n + 1, .cons r t => .cons r (Vals.take n t)
theorem Vals.drop : ∀ {xs : List V} {us : List Value} (n : Nat), Vals xs us → Vals (xs.drop n) (us.drop n)
  | _, _, 0, r => r
  | _, _, _ + 1, .nil => .nil
  | _, _, n + 1, .cons _ t => Vals.drop n t
noncomputable def RelO : Option V → Option Value → Prop
  | some v, some u => RelV v u
  | none, none => True
  | _, _ => False
noncomputable def KV {κ : Type} : List (κ × V) → List (κ × Value) → Prop := Paired fun (p : κ × V) (q : κ × Value) => p.1 = q.1 ∧ RelV p.2 q.2

/-- a key of a dict (00_mix): an int or a text -/
noncomputable def kV : Key → V
  | .inl i => .int i
  | .inr x => .str x

/-- what stands at a tracked address -/
inductive HO where
  /-- a list -/
  | lst (xs : List V)
  /-- a tuple (never changes) -/
  | tup (xs : List V)
  /-- a dict whose keys are ints and texts; one whose keys are tuples of ints and texts (the empty one is both) -/
  | dK (kvs : List (Key × V)) | dT (kvs : List (List Key × V))
  /-- a set of ints: its members, its size -/
  | set (S : Int → Bool) (n : Nat)
  /-- an instance of the class at C, its dict at dx, its attributes -/
  | ins (C dx : Addr) (fs : List (Str × V))
  /-- the dict of the instance at x -/
  | own (x : Addr)
  /-- the dict of an exception -/
  | xd (fs : List (Str × V))
  /-- a bound method, f of x -/
  | met (f x : Addr)
  /-- a range object lo, lo + 1, .. below hi -/
  | rng (lo hi : Int)
  /-- a thing that is known to the object (the script; a dict while a loop walks it): read, never written while it is so -/
  | frz (o : Obj) (u : HO)
  /-- a code object's table -/
  | tbl (ps : Array Value)
  /-- any other thing, by what is true of its one object (a def of one's own: SetO a S n := HO.ext fun h => ..) -/
  | ext (φ : Heap → Prop)

noncomputable abbrev Hp := Addr → Option HO
noncomputable def upd (H : Hp) (a : Addr) (o : HO) : Hp := fun b => if b = a then some o else H b
theorem upd_same {H : Hp} {a : Addr} {o : HO} : upd H a o a = some o := by unfold upd; rw [if_pos rfl]
theorem upd_ne {H : Hp} {a b : Addr} {o : HO} (h : b ≠ a) : upd H a o b = H b := by unfold upd; rw [if_neg h]
/-- two objects of different content stand apart -/
theorem ne_of {H : Hp} {a b : Addr} {o u : HO} (h : H a = some o) (h' : H b = some u) (d : o ≠ u) : a ≠ b := by
  intro e; subst e; rw [h] at h'; exact d (Option.some.inj h')
theorem ne_of_none {H : Hp} {a b : Addr} {o : HO} (h : H a = some o) (h' : H b = none) : a ≠ b := by
  intro e; subst e; rw [h] at h'; cases h'

section
variable (P : Program) (w : World)
noncomputable def ObjOk (H : Hp) (h : Heap) (a : Addr) : HO → Prop
  | .lst xs => xs.length ≤ sizeLine ∧ ∃ (its : List Value) (n : Nat), Vals xs its ∧ h.get? a = some { cls := .type "list", data := .seq its.toArray n }
  | .tup xs => xs.length ≤ sizeLine ∧ ∃ its : List Value, Vals xs its ∧ IsTup h a its.toArray
  | .dK kvs => kvs.length ≤ sizeLine ∧ (a == sysModules) = false ∧ ∃ vs, KV kvs vs ∧ h.DictOf (mixKind P w) a vs
  | .dT kvs => kvs.length ≤ sizeLine ∧ (a == sysModules) = false ∧ ∃ xs : List (List Key × Addr × Value),
      Paired (fun (p : List Key × V) (q : List Key × Addr × Value) => p.1 = q.1 ∧ H q.2.1 = some (.tup (p.1.map kV)) ∧ RelV p.2 q.2.2) kvs xs ∧
      ∃ o es ep, h.get? a = some o ∧ o.ExactDict ∧ o.data = .dict es ep ∧ es.toList = xs.map (entryOfKey (tupleKind (mixKind P w))) ∧ (xs.map (·.1)).Nodup
  | .set S n => h.SetOf (intKind P w) a S n
  | .ins C dx fs => H dx = some (.own a) ∧ fs.length ≤ 1000 ∧ dx ≠ a ∧ h.get? a = some (PySem.W.instObj C dx) ∧
      ∃ mA, h.Ns1 dx mA ∧ (∀ f, RelO (fs.lookup f) (mA f)) ∧ PySem.Within mA (fs.map (·.1))
  | .own _ => ∃ o, h.get? a = some o
  | .xd fs => ∃ mA, h.Ns1 a mA ∧ ∀ f, RelO (fs.lookup f) (mA f)
  | .rng lo hi => ∃ t u v, h.get? a = some { cls := .type "range", data := .fields #[.int lo t, .int hi u, .int 1 v] }
  | .frz o u => h.get? a = some o ∧ ObjOk H h a u
  | .tbl ps => h.get? a = some { cls := .none, data := .fields ps }
  | .met f x => h.get? a = some (PySem.W.methodObj (.ref f) (.ref x))
  | .ext φ => φ h ∧ (∃ o, h.get? a = some o) ∧ ∀ h1 h2 : Heap, φ h1 → (∀ o, h1.get? a = some o → h2.get? a = some o) → φ h2
/-- the abstract heap is held -/
noncomputable def HOk (H : Hp) (h : Heap) : Prop := ∀ a o, H a = some o → ObjOk P w H h a o
end

section
variable {P : Program} {w : World} {H H' : Hp} {h h' : Heap} {a : Addr} {o : HO}
theorem ObjOk.lt (x : ObjOk P w H h a o) : a < h.objs.size := by
  cases o with
  | lst xs => obtain ⟨_, _, _, _, e⟩ := x; exact Heap.lt_size e
  | tup xs => obtain ⟨_, _, _, p⟩ := x; exact p.lt
  | dK kvs => obtain ⟨_, _, _, _, o, _, _, e, _⟩ := x; exact Heap.lt_size e
  | dT kvs => obtain ⟨_, _, _, _, o, _, _, e, _⟩ := x; exact Heap.lt_size e
  | set S n => obtain ⟨o, _, _, _, e, _⟩ := x; exact Heap.lt_size e
  | ins C dx fs => obtain ⟨_, _, _, e, _⟩ := x; exact Heap.lt_size e
  | own y => obtain ⟨_, e⟩ := x; exact Heap.lt_size e
  | xd fs => obtain ⟨_, ⟨_, _, _, e, _⟩, _⟩ := x; exact Heap.lt_size e
  | rng lo hi => obtain ⟨_, _, _, e⟩ := x; exact Heap.lt_size e
  | frz ob u => obtain ⟨e, _⟩ := x; exact Heap.lt_size e
  | tbl ps => exact Heap.lt_size (show h.get? a = some _ from x)
  | met f y => exact Heap.lt_size (show h.get? a = some _ from x)
  | ext φ => obtain ⟨_, ⟨_, e⟩, _⟩ := x; exact Heap.lt_size e
theorem Paired.mapP {α β : Type} {F G : α → β → Prop} : ∀ {l₁ : List α} {l₂ : List β}, Paired F l₁ l₂ → (∀ a b, F a b → G a b) → Paired G l₁ l₂
  | _, _, .nil, _ => .nil
  | _, _, .cons r t, f => .cons (f _ _ r) (Paired.mapP t f)
/-- what an object's description leans on: its own object, its own dict, the tuples -/
theorem ObjOk.stay (x : ObjOk P w H h a o) (k : ∀ b u, (b = a ∨ H b = some (.own a)) → h.get? b = some u → h'.get? b = some u)
    (ho : ∀ b, H b = some (.own a) → H' b = some (.own a)) (ht : ∀ b xs, H b = some (.tup xs) → H' b = some (.tup xs)) : ObjOk P w H' h' a o := by
  induction o with
  | lst xs => obtain ⟨z, its, n, r, e⟩ := x; exact ⟨z, its, n, r, k _ _ (.inl rfl) e⟩
  | tup xs => obtain ⟨z, its, r, ob, e, c⟩ := x; exact ⟨z, its, r, ob, k _ _ (.inl rfl) e, c⟩
  | dK kvs => obtain ⟨z, y, vs, r, ob, es, ep, e, c⟩ := x; exact ⟨z, y, vs, r, ob, es, ep, k _ _ (.inl rfl) e, c⟩
  | dT kvs =>
    obtain ⟨z, y, xs, r, ob, es, ep, e, c⟩ := x
    exact ⟨z, y, xs, Paired.mapP r fun p q z => ⟨z.1, ht _ _ z.2.1, z.2.2⟩, ob, es, ep, k _ _ (.inl rfl) e, c⟩
  | set S n => obtain ⟨ob, es, ep, t, e, c⟩ := x; exact ⟨ob, es, ep, t, k _ _ (.inl rfl) e, c⟩
  | ins C dx fs =>
    obtain ⟨d, z, ne, e, mA, ⟨od, es, ep, e2, c⟩, r⟩ := x
    exact ⟨ho _ d, z, ne, k _ _ (.inl rfl) e, mA, ⟨od, es, ep, k _ _ (.inr d) e2, c⟩, r⟩
  | own y => obtain ⟨ob, e⟩ := x; exact ⟨ob, k _ _ (.inl rfl) e⟩
  | xd fs => obtain ⟨mA, ⟨od, es, ep, e, c⟩, r⟩ := x; exact ⟨mA, ⟨od, es, ep, k _ _ (.inl rfl) e, c⟩, r⟩
  | rng lo hi => obtain ⟨t, u, v, e⟩ := x; exact ⟨t, u, v, k _ _ (.inl rfl) e⟩
  | frz ob u ih => obtain ⟨e, q⟩ := x; exact ⟨k _ _ (.inl rfl) e, ih q⟩
  | tbl ps =>
    have e : h.get? a = some { cls := .none, data := .fields ps } := x
    show h'.get? a = some { cls := .none, data := .fields ps }
    exact k a _ (.inl rfl) e
  | met f y =>
    have e : h.get? a = some (PySem.W.methodObj (.ref f) (.ref y)) := x
    show h'.get? a = some (PySem.W.methodObj (.ref f) (.ref y))
    exact k a _ (.inl rfl) e
  | ext φ => obtain ⟨p, ⟨o, e⟩, st⟩ := x; exact ⟨st _ _ p fun o q => k _ _ (.inl rfl) q, ⟨o, k _ _ (.inl rfl) e⟩, st⟩
theorem HOk.lt (x : HOk P w H h) (e : H a = some o) : a < h.objs.size := (x a o e).lt
theorem HOk.fresh (x : HOk P w H h) (e : h.objs.size ≤ a) : H a = none := by
  cases q : H a with
  | none => rfl
  | some u => exact absurd (Nat.lt_of_lt_of_le (x.lt q) e) (Nat.lt_irrefl _)
/-- every object of the heap is kept -/
theorem HOk.kept (x : HOk P w H h) (k : ∀ b u, h.get? b = some u → h'.get? b = some u) : HOk P w H h' := fun a o e =>
  (x a o e).stay (fun b u _ q => k b u q) (fun _ q => q) fun _ _ q => q
/-- a new object is laid and tracked -/
theorem HOk.laid (x : HOk P w H h) (k : ∀ b u, h.get? b = some u → h'.get? b = some u) (hp : h.objs.size ≤ a) (new : ObjOk P w (upd H a o) h' a o) : HOk P w (upd H a o) h' := fun b u e => by
  have hn := x.fresh hp
  by_cases hb : b = a
  · subst hb; rw [upd_same] at e; cases e; exact new
  · rw [upd_ne hb] at e
    exact (x b u e).stay (fun c v _ q => k c v q) (fun c q => by rw [upd_ne (ne_of_none q hn)]; exact q) fun c xs q => by rw [upd_ne (ne_of_none q hn)]; exact q
end

/-- what may be read as u: it is u, or a known u -/
noncomputable def Rd (H : Hp) (a : Addr) (u : HO) : Prop := H a = some u ∨ ∃ o, H a = some (.frz o u)
theorem Rd.of {H : Hp} {a : Addr} {u : HO} (h : H a = some u) : Rd H a u := .inl h
theorem Rd.ok {P : Program} {w : World} {H : Hp} {h : Heap} {a : Addr} {u : HO} (r : Rd H a u) (x : HOk P w H h) : ObjOk P w H h a u := by
  rcases r with r | ⟨o, r⟩
  · exact x a u r
  · obtain ⟨_, q⟩ := x a _ r
    exact q
/-- what may be written -/
noncomputable def Mut : Option HO → Prop
  | some (.lst _) => True
  | some (.dK _) => True
  | some (.dT _) => True
  | some (.set _ _) => True
  | some (.ins _ _ _) => True
  | some (.ext _) => True
  | _ => False
section
variable {P : Program} {w : World} {H : Hp} {h h' : Heap} {x e : Addr} {o' : HO}
/-- the object at e is changed: x itself, or the dict of the instance x -/
theorem HOk.write (ok : HOk P w H h) (mu : Mut (H x)) (he : e = x ∨ H e = some (.own x)) (k : ∀ b u, b ≠ e → h.get? b = some u → h'.get? b = some u) (heo : ∃ u, h'.get? e = some u)
    (new : ObjOk P w (upd H x o') h' x o') : HOk P w (upd H x o') h' := fun b u q => by
  have nown : ∀ c y, H c = some (.own y) → c ≠ x := fun c y r z => by subst z; rw [r] at mu; exact mu
  have ntup : ∀ c xs, H c = some (.tup xs) → c ≠ x := fun c xs r z => by subst z; rw [r] at mu; exact mu
  by_cases hb : b = x
  · subst hb; rw [upd_same] at q; cases q; exact new
  · rw [upd_ne hb] at q
    by_cases hbe : b = e
    · have q' : H b = some (.own x) := by
        rcases he with z | z
        · exact absurd (hbe.trans z) hb
        · rw [hbe]; exact z
      rw [q] at q'; cases q'
      obtain ⟨v, hv⟩ := heo
      exact ⟨v, by rw [hbe]; exact hv⟩
    · refine (ok b u q).stay (fun c v hc r => k c v ?_ r) (fun c r => by rw [upd_ne (nown c b r)]; exact r) fun c xs r => by rw [upd_ne (ntup c xs r)]; exact r
      rcases hc with rfl | hc
      · exact hbe
      · rintro rfl
        rcases he with z | z
        · exact nown c b hc z
        · rw [hc] at z; cases z; exact hb rfl
end

/-! ### kept unless tracked; of the frames at fs (the callers') the slots may change (an exception that passes writes there); of the records at ex (iterators) nothing is said -/
structure Un (fs ex : List Addr) (H H' : Hp) (h h' : Heap) : Prop where
  keep : ∀ b o, h.get? b = some o → H b = none → b ∉ fs → b ∉ ex → h'.get? b = some o
  slot : ∀ b o, h.get? b = some o → H b = none → b ∈ fs → b ∉ ex → ∃ sl, h'.get? b = some { o with slots := sl }
  free : ∀ b o, h.get? b = some o → H b = none → b ∉ ex → H' b = none
  there : ∀ b o, h.get? b = some o → b ∉ ex → ∃ o', h'.get? b = some o'
  tups : ∀ b xs, H b = some (.tup xs) → H' b = some (.tup xs)
  frzs : ∀ b o u, H b = some (.frz o u) → H' b = some (.frz o u)
  tbls : ∀ b ps, H b = some (.tbl ps) → ∃ more, H' b = some (.tbl (ps ++ more))
section
variable {fs fs' ex ex' : List Addr} {H H1 H2 : Hp} {h h1 h2 h' : Heap} {a x e : Addr} {o : HO}
theorem Un.any (u : Un fs ex H H1 h h1) {b : Addr} {ob : Obj} (q : h.get? b = some ob) (n : H b = none) (hx : b ∉ ex) : ∃ sl, h1.get? b = some { ob with slots := sl } := by
  by_cases hb : b ∈ fs
  · exact u.slot b ob q n hb hx
  · exact ⟨ob.slots, u.keep b ob q n hb hx⟩
theorem Un.trans (a : Un fs ex H H1 h h1) (b : Un fs ex H1 H2 h1 h2) : Un fs ex H H2 h h2 where
  keep := fun c ob q n hc hx => b.keep c ob (a.keep c ob q n hc hx) (a.free c ob q n hx) hc hx
  slot := fun c ob q n hc hx => by
    obtain ⟨sl, e1⟩ := a.slot c ob q n hc hx
    obtain ⟨sl', e2⟩ := b.slot c _ e1 (a.free c ob q n hx) hc hx
    exact ⟨sl', e2⟩
  free := fun c ob q n hx => by
    obtain ⟨o', e1⟩ := a.there c ob q hx
    exact b.free c o' e1 (a.free c ob q n hx) hx
  there := fun c ob q hx => by
    obtain ⟨o', e1⟩ := a.there c ob q hx
    exact b.there c o' e1 hx
  tups := fun c xs q => b.tups c xs (a.tups c xs q)
  frzs := fun c ob xs q => b.frzs c ob xs (a.frzs c ob xs q)
  tbls := fun c ps q => by
    obtain ⟨m1, e1⟩ := a.tbls c ps q
    obtain ⟨m2, e2⟩ := b.tbls c _ e1
    exact ⟨m1 ++ m2, by rw [e2, Array.append_assoc]⟩
theorem Un.kept (k : ∀ b u, h.get? b = some u → h'.get? b = some u) : Un fs ex H H h h' :=
  ⟨fun b ob q _ _ _ => k b ob q, fun b ob q _ _ _ => ⟨ob.slots, k b ob q⟩, fun _ _ _ n _ => n, fun b ob q _ => ⟨ob, k b ob q⟩, fun _ _ q => q, fun _ _ _ q => q, fun _ ps q => ⟨#[], by rw [q]; simp⟩⟩
theorem Un.refl : Un fs ex H H h h := Un.kept fun _ _ q => q
theorem Un.laid (k : ∀ b u, h.get? b = some u → h'.get? b = some u) (hp : h.objs.size ≤ a) (hn : H a = none) : Un fs ex H (upd H a o) h h' where
  keep := fun b u q _ _ _ => k b u q
  slot := fun b u q _ _ _ => ⟨u.slots, k b u q⟩
  free := fun b u q n _ => by rw [upd_ne (Nat.ne_of_lt (Nat.lt_of_lt_of_le (Heap.lt_size q) hp))]; exact n
  there := fun b u q _ => ⟨u, k b u q⟩
  tups := fun b xs q => by rw [upd_ne (ne_of_none q hn)]; exact q
  frzs := fun b u xs q => by rw [upd_ne (ne_of_none q hn)]; exact q
  tbls := fun b ps q => ⟨#[], by rw [upd_ne (ne_of_none q hn), q]; simp⟩
theorem Un.write (mu : Mut (H x)) (he : e = x ∨ H e = some (.own x)) (k : ∀ b u, b ≠ e → h.get? b = some u → h'.get? b = some u) (heo : ∃ u, h'.get? e = some u) : Un fs ex H (upd H x o) h h' := by
  have hx : ∀ b, H b = none → b ≠ x := fun b n z => by subst z; rw [n] at mu; exact mu
  have hb : ∀ b, H b = none → b ≠ e := fun b n z => by
    subst z
    rcases he with r | r
    · exact hx b n r
    · rw [n] at r; cases r
  have hm : ∀ b u, H b = some u → ¬ Mut (some u) → b ≠ x := fun b u q nm z => by subst z; rw [q] at mu; exact nm mu
  refine ⟨fun b u q n _ _ => k b u (hb b n) q, fun b u q n _ _ => ⟨u.slots, k b u (hb b n) q⟩, fun b u q n _ => by rw [upd_ne (hx b n)]; exact n, fun b u q _ => ?_,
    fun b xs q => by rw [upd_ne (hm b _ q fun z => z)]; exact q, fun b u xs q => by rw [upd_ne (hm b _ q fun z => z)]; exact q, fun b ps q => ⟨#[], by rw [upd_ne (hm b _ q fun z => z), q]; simp⟩⟩
  by_cases hbe : b = e
  · subst hbe; exact heo
  · exact ⟨u, k b u hbe q⟩
theorem Un.mono (u : Un fs ex H H1 h h1) (hs : ∀ b ∈ fs, b ∈ fs') (hx : ∀ b ∈ ex, b ∈ ex') : Un fs' ex' H H1 h h1 :=
  ⟨fun b ob q n hb he => u.keep b ob q n (fun z => hb (hs b z)) fun z => he (hx b z), fun _ _ q n _ he => u.any q n fun z => he (hx _ z), fun b ob q n he => u.free b ob q n fun z => he (hx b z), fun b ob q he => u.there b ob q fun z => he (hx b z), u.tups, u.frzs, u.tbls⟩
end

/-! ### the heap without what is tracked -/
noncomputable def trk (h : Heap) (H : Hp) : List Addr := (List.range h.objs.size).filter fun a => (H a).isSome
noncomputable def hidT (h : Heap) (H : Hp) : Heap := PySem.W.hideAll h (trk h H)
theorem hidT_size (h : Heap) (H : Hp) : (hidT h H).objs.size = h.objs.size := PySem.W.hideAll_size _ _
theorem hidT_get {h : Heap} {H : Hp} {b : Addr} {o : Obj} (e : h.get? b = some o) (n : H b = none) : (hidT h H).get? b = some o :=
  PySem.W.hideAll_get _ e fun hm => by
    have q : (H b).isSome = true := (List.mem_filter.mp hm).2
    rw [n] at q; simp at q
theorem of_hidT {h : Heap} {H : Hp} {b : Addr} {o : Obj} (e : (hidT h H).get? b = some o) : h.get? b = some o ∧ H b = none := by
  have e' : h.get? b = some o := PySem.W.of_hideAll (trk h H) e
  refine ⟨e', ?_⟩
  cases q : H b with
  | none => rfl
  | some x =>
    have hm : b ∈ trk h H := List.mem_filter.mpr ⟨List.mem_range.mpr (Heap.lt_size e'), by simp [q]⟩
    have z : (hidT h H).get? b = none := PySem.W.hideAll_none (trk h H) hm
    rw [z] at e; cases e

/-! ### OpenK's ledger, filled with every new object but one -/
noncomputable def allNews (g h : Heap) (L : Addr) : List (Addr × Obj) := (List.range h.objs.size).filterMap fun a => if a = L ∨ (g.get? a).isSome = true then none else (h.get? a).map fun o => (a, o)
noncomputable def rest (g h : Heap) (L d : Addr) : List (Addr × Obj) := (allNews g h L).filter fun p => decide (p.1 ≠ d)
end L2

namespace L2
open PySem PySem.Spec PyProof.Rows

/-- the module's facts, over the base: the heap at the law's entry without what is tracked there -/
structure Mod (K : PySem.W.Frag) (mg : Str → Option Value) (base : Heap) : Prop where
  kin : K.In base
  glob : base.Ns mainGlobals mg
  blt : ∃ mb, base.Ns builtinsNs mb ∧ ∀ x : Str, x ≠ "__name__" → mb x = bootBuiltins x
  nolimit : base.NoLimit

/-- the context: a def's body (or a comprehension's block) running. base: fixed through the whole law; s₀, H₀: the entry; outer: the frames whose slots others may change (a def's callers); stack: all frames that run;
   ex: iterators that were made ahead of the entry and are walked here (a comprehension's); fn: the names whose cells were made at the entry (a def: all; a comprehension's block: its own); calm: not within an except suite; pn: pins that every state bears; xe: what is wanted of an exception that leaves the code -/
structure Cx where
  prog : Program
  w : World
  K : PySem.W.Frag
  mg : Str → Option Value
  base : Heap
  A : Around
  N : List Str
  s₀ : Shared
  H₀ : Hp
  env : Env
  outer : List Env
  stack : List Env
  ex : List Addr
  fn : Str → Bool
  calm : Bool
  pn : List (Addr × Obj)
  xe : Value → Shared → Prop
/-- the callers' frames -/
noncomputable def frs (l : List Env) : List Addr := l.filterMap (·.frame)
noncomputable abbrev Cx.fs (X : Cx) : List Addr := frs X.outer

noncomputable def Vis (sc : Scope) (x : Str) : Prop := sc.names.lookup x = some .local ∨ sc.names.lookup x = some .cell ∨ sc.names.lookup x = some .free
noncomputable def Loc (sc : Scope) (x : Str) : Prop := sc.names.lookup x = some .local ∨ sc.names.lookup x = some .cell
noncomputable def Look (env : Env) (h : Heap) (m : Str → Option Value) (x : Str) (u : Value) : Prop :=
  (env.kindOf x = some .local ∧ m x = some u) ∨ ((env.kindOf x = some .cell ∨ env.kindOf x = some .free) ∧ ∃ c, env.cells.lookup x = some c ∧ h.IsCell c (some u))

structure Cx.Ok (X : Cx) : Prop where
  mod : Mod X.K X.mg X.base
  kind : X.env.scope.kind = .function
  glob : X.env.globals = mainGlobals
  blt : X.env.builtins = builtinsNs
  above : X.s₀.heap.objs.size ≤ X.env.locals
  inj : ∀ x y c, X.env.cells.lookup x = some c → X.env.cells.lookup y = some c → x = y
  has : ∀ x, (X.env.kindOf x = some .cell ∨ X.env.kindOf x = some .free) → ∃ c, X.env.cells.lookup x = some c
  cab : ∀ x c, X.fn x = true → X.env.cells.lookup x = some c → X.s₀.heap.objs.size ≤ c
  hd : X.calm = true → X.A.handled = none
  frames : X.A.frames = some X.stack
  stk : X.stack = X.outer ∨ (X.stack = X.env :: X.outer ∧ X.env.frame = some X.env.locals)
  exf : ∀ b ∈ X.ex, b ≠ X.env.locals ∧ ∀ x c, X.env.cells.lookup x = some c → c ≠ b
  bs : ∀ b o, X.base.get? b = some o → X.s₀.heap.get? b = some o ∧ X.H₀ b = none
  bsz : X.base.objs.size ≤ X.s₀.heap.objs.size
  noex : ∀ b o, X.base.get? b = some o → b ∉ X.ex
  exfs : ∀ b ∈ X.ex, b ∉ X.fs
  funs : X.s₀.heap.FunFrames X.base X.outer
  frf : ∀ b ∈ X.fs, X.H₀ b = none

structure Inv (X : Cx) (pins : List (Addr × Obj)) (σ : List (Option V)) (H : Hp) (s : Shared) : Prop where
  ok : X.Ok
  os : s.os = X.s₀.os
  bare : AllBare s.gens
  base : Un X.fs X.ex X.H₀ H X.s₀.heap s.heap
  loc : ∃ m, s.heap.Ns X.env.locals m ∧ ∀ (i : Nat) (x : Str) (v : V), X.N[i]? = some x → σ[i]? = some (some v) → Vis X.env.scope x → ∃ u, RelV v u ∧ Look X.env s.heap m x u
  cell : ∀ x c, X.env.cells.lookup x = some c → ∃ v, s.heap.IsCell c v
  free : H X.env.locals = none
  freeC : ∀ x c, X.env.cells.lookup x = some c → H c = none
  pin : ∀ p ∈ X.pn ++ pins, s.heap.get? p.1 = some p.2 ∧ H p.1 = none ∧ p.1 ≠ X.env.locals ∧ p.1 ∉ X.fs ∧ ∀ v, p.2.data ≠ .cell v
  hok : HOk X.prog X.w H s.heap
  len : σ.length = X.N.length

section
variable {X : Cx} {pins : List (Addr × Obj)} {σ : List (Option V)} {H H' : Hp} {s : Shared} {h' : Heap}

theorem Cx.Ok.nofr (ok : X.Ok) {b : Addr} {o : Obj} (e : X.base.get? b = some o) : b ∉ X.fs := fun hb => by
  have := (ok.funs.mem hb).1
  rw [e] at this; cases this
theorem Inv.bs (I : Inv X pins σ H s) : ∀ b o, X.base.get? b = some o → s.heap.get? b = some o ∧ H b = none := fun b o e =>
  ⟨I.base.keep b o (I.ok.bs b o e).1 (I.ok.bs b o e).2 (I.ok.nofr e) (I.ok.noex b o e), I.base.free b o (I.ok.bs b o e).1 (I.ok.bs b o e).2 (I.ok.noex b o e)⟩
theorem Inv.bk (I : Inv X pins σ H s) : ∀ b o, X.base.get? b = some o → s.heap.get? b = some o := fun b o e => (I.bs b o e).1
theorem Inv.mod (I : Inv X pins σ H s) : Mod X.K X.mg X.base := I.ok.mod
theorem Inv.kIn (I : Inv X pins σ H s) : X.K.In s.heap := I.ok.mod.kin.keeps I.bk
theorem Inv.nolimit (I : Inv X pins σ H s) : s.heap.NoLimit := I.ok.mod.nolimit.keeps I.bk
/-- the frame over the base: for OpenK's rules (K.In X.base is I.mod.kin) -/
theorem Inv.fr (I : Inv X pins σ H s) : ∃ m, Fr X.base X.env.locals s.heap m :=
  let ⟨m, hn, _⟩ := I.loc
  ⟨m, hn, I.bk, Nat.le_trans I.ok.bsz I.ok.above⟩
theorem Inv.lt (I : Inv X pins σ H s) : X.env.locals < s.heap.objs.size := let ⟨_, hn, _⟩ := I.loc; hn.lt
theorem Inv.sz (I : Inv X pins σ H s) : X.s₀.heap.objs.size ≤ s.heap.objs.size := Nat.le_trans I.ok.above (Nat.le_of_lt I.lt)
theorem Inv.nofs (I : Inv X pins σ H s) {a : Addr} (h : s.heap.objs.size ≤ a) : a ∉ X.fs := fun hb => by
  obtain ⟨_, o, ho, _⟩ := I.ok.funs.mem hb
  exact absurd (Nat.lt_of_lt_of_le (Heap.lt_size ho) (Nat.le_trans I.sz h)) (Nat.lt_irrefl _)
theorem Inv.cne (I : Inv X pins σ H s) : ∀ x c, X.env.cells.lookup x = some c → c ≠ X.env.locals := fun x c e z => by
  obtain ⟨v, o, ho, hd⟩ := I.cell x c e
  obtain ⟨m, ⟨o', es, ep, ho', hd', _⟩, _⟩ := I.loc
  rw [z, ho'] at ho; cases ho; rw [hd'] at hd; cases hd
theorem Inv.funs (I : Inv X pins σ H s) : s.heap.FunFrames X.base X.outer := by
  have all : ∀ (l : List Env), (∀ b ∈ frs l, b ∈ X.fs) → X.s₀.heap.FunFrames X.base l → s.heap.FunFrames X.base l := by
    intro l
    induction l with
    | nil => intro _ _; trivial
    | cons env r ih =>
      intro hs hl
      obtain ⟨hk, ⟨L, o, hf, hn, ho, hd⟩, hr⟩ := hl
      have hL : L ∈ X.fs := hs L (by unfold frs; rw [List.filterMap_cons, hf]; exact List.mem_cons_self)
      obtain ⟨sl, e⟩ := I.base.slot L o ho (I.ok.frf L hL) hL fun z => I.ok.exfs L z hL
      exact ⟨hk, ⟨L, _, hf, hn, e, hd⟩, ih (fun b hb => hs b (by unfold frs; rw [List.filterMap_cons, hf]; exact List.mem_cons_of_mem _ hb)) hr⟩
  exact all X.outer (fun _ hb => hb) I.ok.funs

/-- the frames that run, for a call -/
theorem Inv.stack (I : Inv X pins σ H s) : s.heap.FunFrames X.base X.stack := by
  rcases I.ok.stk with e | ⟨e, hf⟩
  · rw [e]; exact I.funs
  · rw [e]
    obtain ⟨m, hn, _⟩ := I.loc
    refine .cons (by rw [I.ok.kind]; decide) hf hn ?_ I.funs
    exact Heap.get?_none_of_le (Nat.le_trans I.ok.bsz I.ok.above)
theorem Inv.stkSub (I : Inv X pins σ H s) : ∀ b ∈ frs X.stack, b ∈ X.env.locals :: X.fs := fun b hb => by
  rcases I.ok.stk with e | ⟨e, hf⟩
  · rw [e] at hb; exact List.mem_cons_of_mem _ hb
  · rw [e] at hb
    unfold frs at hb
    rw [List.filterMap_cons, hf] at hb
    exact hb
theorem Inv.stkFree (I : Inv X pins σ H s) : ∀ b ∈ frs X.stack, H b = none := fun b hb => by
  rcases List.mem_cons.mp (I.stkSub b hb) with e | hb
  · rw [e]; exact I.free
  · obtain ⟨_, o, ho, _⟩ := I.ok.funs.mem hb
    exact I.base.free b o ho (I.ok.frf b hb) fun z => I.ok.exfs b z hb

/-- THE STEP: the untracked objects but the frame and the records at ch are kept (the callers' frames up to slots), the frame's map is kept, the new abstract heap is held -/
theorem Inv.step {g' : Array GenState} {t' : Nat} {d' : Drawn} {ch : List Addr} (I : Inv X pins σ H s)
    (hch : ∀ b ∈ ch, (b ∈ X.ex ∨ X.s₀.heap.objs.size ≤ b) ∧ b ≠ X.env.locals ∧ (∀ x c, X.env.cells.lookup x = some c → c ≠ b) ∧ ∀ p ∈ X.pn ++ pins, p.1 ≠ b)
    (keep : ∀ b o, b ≠ X.env.locals → b ∉ X.fs → b ∉ ch → s.heap.get? b = some o → H b = none → h'.get? b = some o)
    (slot : ∀ b o, b ≠ X.env.locals → b ∈ X.fs → b ∉ ch → s.heap.get? b = some o → H b = none → ∃ sl, h'.get? b = some { o with slots := sl }) (free : ∀ b o, b ∉ ch → s.heap.get? b = some o → H b = none → H' b = none)
    (there : ∀ b o, b ∉ ch → s.heap.get? b = some o → ∃ o', h'.get? b = some o')
    (tups : ∀ b xs, H b = some (.tup xs) → H' b = some (.tup xs)) (frzs : ∀ b o u, H b = some (.frz o u) → H' b = some (.frz o u)) (tbls : ∀ b ps, H b = some (.tbl ps) → ∃ more, H' b = some (.tbl (ps ++ more)))
    (ns : ∀ m, s.heap.Ns X.env.locals m → h'.Ns X.env.locals m) (hok : HOk X.prog X.w H' h') (hg : AllBare g') :
    Inv X pins σ H' { s with heap := h', gens := g', drawn := d', toks := t' } := by
  have neL : ∀ b o, X.s₀.heap.get? b = some o → b ≠ X.env.locals := fun b o e => Nat.ne_of_lt (Nat.lt_of_lt_of_le (Heap.lt_size e) I.ok.above)
  have neC : ∀ b o, X.s₀.heap.get? b = some o → b ∉ X.ex → b ∉ ch := fun b o e hx hb => by
    rcases (hch b hb).1 with z | z
    · exact hx z
    · exact absurd (Nat.lt_of_lt_of_le (Heap.lt_size e) z) (Nat.lt_irrefl _)
  have cellK : ∀ x c, X.env.cells.lookup x = some c → ∀ v, s.heap.IsCell c v → h'.IsCell c v := fun x c e v ⟨o, ho, hd⟩ => by
    have nch : c ∉ ch := fun z => (hch c z).2.2.1 x c e rfl
    by_cases hc : c ∈ X.fs
    · obtain ⟨sl, q⟩ := slot c o (I.cne x c e) hc nch ho (I.freeC x c e)
      exact ⟨_, q, hd⟩
    · exact ⟨o, keep c o (I.cne x c e) hc nch ho (I.freeC x c e), hd⟩
  refine ⟨I.ok, I.os, hg, ⟨fun b o e n hb hx => ?_, fun b o e n hb hx => ?_, fun b o e n hx => ?_, fun b o e hx => ?_, fun b xs e => tups b xs (I.base.tups b xs e), fun b o xs e => frzs b o xs (I.base.frzs b o xs e), fun b ps e => ?_⟩, ?_, fun x c e => ?_, ?_, fun x c e => ?_, fun p hp => ?_, hok, I.len⟩
  · exact keep b o (neL b o e) hb (neC b o e hx) (I.base.keep b o e n hb hx) (I.base.free b o e n hx)
  · obtain ⟨sl, e1⟩ := I.base.slot b o e n hb hx
    obtain ⟨sl', e2⟩ := slot b _ (neL b o e) hb (neC b o e hx) e1 (I.base.free b o e n hx)
    exact ⟨sl', e2⟩
  · obtain ⟨o', e1⟩ := I.base.there b o e hx
    exact free b o' (neC b o e hx) e1 (I.base.free b o e n hx)
  · obtain ⟨o', e1⟩ := I.base.there b o e hx
    exact there b o' (neC b o e hx) e1
  · obtain ⟨m1, e1⟩ := I.base.tbls b ps e
    obtain ⟨m2, e2⟩ := tbls b _ e1
    exact ⟨m1 ++ m2, by rw [e2, Array.append_assoc]⟩
  · obtain ⟨m, hn, hl⟩ := I.loc
    refine ⟨m, ns m hn, fun i x v e1 e2 e3 => ?_⟩
    obtain ⟨u, r, l⟩ := hl i x v e1 e2 e3
    refine ⟨u, r, ?_⟩
    rcases l with l | ⟨k, c, e, z⟩
    · exact .inl l
    · exact .inr ⟨k, c, e, cellK x c e _ z⟩
  · obtain ⟨v, z⟩ := I.cell x c e
    exact ⟨v, cellK x c e v z⟩
  · obtain ⟨m, ⟨o, _, _, ho, _⟩, _⟩ := I.loc
    exact free _ o (fun z => (hch _ z).2.1 rfl) ho I.free
  · obtain ⟨v, o, ho, hd⟩ := I.cell x c e
    exact free c o (fun z => (hch c z).2.2.1 x c e rfl) ho (I.freeC x c e)
  · obtain ⟨e, n, ne, nf, d⟩ := I.pin p hp
    have nch : p.1 ∉ ch := fun z => (hch p.1 z).2.2.2 p hp rfl
    exact ⟨keep p.1 p.2 ne nf nch e n, free p.1 p.2 nch e n, ne, nf, d⟩
/-- .. where the frame's own object is kept too -/
theorem Inv.un {t' : Nat} (I : Inv X pins σ H s) (u : Un X.fs [] H H' s.heap h') (hok : HOk X.prog X.w H' h') : Inv X pins σ H' { s with heap := h', toks := t' } := by
  obtain ⟨m, ⟨o, es, ep, ho, r⟩, _⟩ := id I.loc
  obtain ⟨sl, hL⟩ := u.any ho I.free (by simp)
  exact I.step (g' := s.gens) (d' := s.drawn) (ch := []) (fun _ z => nomatch z) (fun b o _ hb _ e n => u.keep b o e n hb (by simp)) (fun b o _ hb _ e n => u.slot b o e n hb (by simp)) (fun b o _ e n => u.free b o e n (by simp)) (fun b o _ e => u.there b o e (by simp)) u.tups u.frzs u.tbls (fun m' hm => by
    obtain ⟨o', es', ep', ho', r'⟩ := hm
    rw [ho] at ho'; cases ho'
    exact ⟨_, es', ep', hL, r'⟩) hok I.bare
/-- behind a call (or a comprehension's block): the slots of this frame may have changed too, the records at ch may have turned -/
theorem Inv.call {g' : Array GenState} {t' : Nat} {d' : Drawn} {ch : List Addr} (I : Inv X pins σ H s) (u : Un (frs X.stack) ch H H' s.heap h') (hok : HOk X.prog X.w H' h') (hg : AllBare g')
    (hch : ∀ b ∈ ch, (b ∈ X.ex ∨ X.s₀.heap.objs.size ≤ b) ∧ b ≠ X.env.locals ∧ (∀ x c, X.env.cells.lookup x = some c → c ≠ b) ∧ ∀ p ∈ X.pn ++ pins, p.1 ≠ b) :
    Inv X pins σ H' { s with heap := h', gens := g', drawn := d', toks := t' } := by
  obtain ⟨m, ⟨o, es, ep, ho, r⟩, _⟩ := id I.loc
  obtain ⟨sl, hL⟩ := u.any ho I.free fun z => (hch _ z).2.1 rfl
  exact I.step (ch := ch) hch (fun b o hL hb hc e n => u.keep b o e n (fun z => (List.mem_cons.mp (I.stkSub b z)).elim hL hb) hc) (fun b o _ _ hc e n => u.any e n hc) (fun b o hc e n => u.free b o e n hc) (fun b o hc e => u.there b o e hc) u.tups u.frzs u.tbls (fun m' hm => by
    obtain ⟨o', es', ep', ho', r'⟩ := hm
    rw [ho] at ho'; cases ho'
    exact ⟨_, es', ep', hL, r'⟩) hok hg
/-- an untracked record of ours (an iterator) has turned -/
theorem Inv.turned {t' : Nat} {it : Addr} (I : Inv X pins σ H s) (k : ∀ b o, b ≠ it → s.heap.get? b = some o → h'.get? b = some o) (hn : H it = none) (hL : it ≠ X.env.locals)
    (h1 : it ∈ X.ex ∨ X.s₀.heap.objs.size ≤ it) (h2 : ∀ x c, X.env.cells.lookup x = some c → c ≠ it) (h3 : ∀ p ∈ X.pn ++ pins, p.1 ≠ it) : Inv X pins σ H { s with heap := h', toks := t' } := by
  have nit : ∀ b u, H b = some u → b ≠ it := fun b u e z => by rw [z, hn] at e; cases e
  refine I.step (g' := s.gens) (d' := s.drawn) (ch := [it]) (fun b hb => ?_) (fun b o _ _ hc e _ => k b o (fun z => hc (by simp [z])) e) (fun b o _ _ hc e _ => ⟨o.slots, k b o (fun z => hc (by simp [z])) e⟩) (fun _ _ _ _ n => n)
    (fun b o hc e => ⟨o, k b o (fun z => hc (by simp [z])) e⟩) (fun _ _ e => e) (fun _ _ _ e => e) (fun b ps e => ⟨#[], by rw [e]; simp⟩) (fun m hm => ?_) (fun b u e => ?_) I.bare
  · have e : b = it := by simpa using hb
    subst e
    exact ⟨h1, hL, h2, h3⟩
  · obtain ⟨o, es, ep, ho, r⟩ := hm
    exact ⟨o, es, ep, k _ o (Ne.symm hL) ho, r⟩
  · refine (I.hok b u e).stay (fun c v hc q => k c v ?_ q) (fun _ q => q) fun _ _ q => q
    rcases hc with z | z
    · rw [z]; exact nit b u e
    · exact nit c _ z
theorem Inv.tok (I : Inv X pins σ H s) (t : Nat) : Inv X pins σ H { s with toks := t } := I.un (h' := s.heap) (t' := t) Un.refl I.hok
/-- all objects kept -/
theorem Inv.kept {t' : Nat} (I : Inv X pins σ H s) (k : ∀ b u, s.heap.get? b = some u → h'.get? b = some u) : Inv X pins σ H { s with heap := h', toks := t' } := I.un (Un.kept k) (I.hok.kept k)
/-- a new object laid and tracked -/
theorem Inv.laid {a : Addr} {o : HO} {t' : Nat} (I : Inv X pins σ H s) (k : ∀ b u, s.heap.get? b = some u → h'.get? b = some u) (hp : s.heap.objs.size ≤ a) (new : ObjOk X.prog X.w (upd H a o) h' a o) :
    Inv X pins σ (upd H a o) { s with heap := h', toks := t' } := I.un (Un.laid k hp (I.hok.fresh hp)) (I.hok.laid k hp new)
/-- an object written -/
theorem Inv.write {x e : Addr} {o : HO} {t' : Nat} (I : Inv X pins σ H s) (mu : Mut (H x)) (he : e = x ∨ H e = some (.own x)) (k : ∀ b u, b ≠ e → s.heap.get? b = some u → h'.get? b = some u) (heo : ∃ u, h'.get? e = some u)
    (new : ObjOk X.prog X.w (upd H x o) h' x o) : Inv X pins σ (upd H x o) { s with heap := h', toks := t' } := I.un (Un.write mu he k heo) (I.hok.write mu he k heo new)
theorem Inv.pins_of {pins' : List (Addr × Obj)} (I : Inv X pins σ H s) (h : ∀ p ∈ pins', s.heap.get? p.1 = some p.2 ∧ H p.1 = none ∧ p.1 ≠ X.env.locals ∧ p.1 ∉ X.fs ∧ ∀ v, p.2.data ≠ .cell v) : Inv X pins' σ H s :=
  ⟨I.ok, I.os, I.bare, I.base, I.loc, I.cell, I.free, I.freeC, fun p hp => (List.mem_append.mp hp).elim (fun z => I.pin p (List.mem_append_left _ z)) (h p), I.hok, I.len⟩

theorem nodup_ix {N : List Str} (hN : N.Nodup) {i j : Nat} {x : Str} (a : N[i]? = some x) (b : N[j]? = some x) : i = j := by
  obtain ⟨h1, e1⟩ := List.getElem?_eq_some_iff.mp a
  obtain ⟨h2, e2⟩ := List.getElem?_eq_some_iff.mp b
  exact (List.getElem_inj hN).mp (e1.trans e2.symm)

/-- a name is stored; what changed -/
theorem store_ok2 {M : Model} {A : Around} {E : Value → Shared → Prop} {i : Nat} {x : Str} {v : V} {u : Value} {Q : Unit → Shared → Prop} (I : Inv X pins σ H s) (hN : X.N.Nodup) (hi : X.N[i]? = some x) (hx : Loc X.env.scope x) (r : RelV v u)
    (h : ∀ s', Inv X pins (σ.set i (some v)) H s' → (∃ a, Heap.SameBut a s.heap s'.heap ∧ (a = X.env.locals ∨ X.env.cells.lookup x = some a)) → Q () s') (hf : X.fn x = true ∨ X.env.scope.names.lookup x = some .local := by first | exact .inl rfl | exact .inr rfl | assumption) : wpAny M A (storeName X.env x u) Q E s := by
  obtain ⟨m, hn, hl⟩ := id I.loc
  have hcls : (X.env.scope.kind == .class || (X.env.scope.kind == .module && X.env.locals != X.env.globals)) = false := by rw [I.ok.kind]; rfl
  have hiσ : i < σ.length := by rw [I.len]; exact (List.getElem?_eq_some_iff.mp hi).1
  have cne := I.cne
  have tracked : ∀ {a : Addr} {h' : Heap}, (∃ o, s.heap.get? a = some o ∧ H a = none) → Heap.SameBut a s.heap h' → HOk X.prog X.w H h' := fun {a h'} ha hs b ob e => by
    obtain ⟨_, _, hfree⟩ := ha
    refine (I.hok b ob e).stay (fun c w' hc q => (hs.2 c ?_).trans q) (fun _ q => q) fun _ _ q => q
    rintro rfl
    rcases hc with rfl | hc
    · rw [hfree] at e; cases e
    · rw [hfree] at hc; cases hc
  rcases hx with hk | hk
  · refine wpAny_storeName_local hk hn (fun h' hn' hs => ?_) hcls
    obtain ⟨oL, _, _, hoL, _⟩ := id hn
    refine h _ ⟨I.ok, I.os, I.bare, ⟨fun b o e n hb hx => ?_, fun b o e n hb hx => ?_, I.base.free, fun b o e hx => ?_, I.base.tups, I.base.frzs, I.base.tbls⟩, ⟨_, hn', fun j y v' e1 e2 e3 => ?_⟩, fun y c e => ?_, I.free, I.freeC, fun p hp => ?_, tracked ⟨oL, hoL, I.free⟩ hs, by simpa using I.len⟩ ⟨_, hs, .inl rfl⟩
    · exact (hs.2 b (Nat.ne_of_lt (Nat.lt_of_lt_of_le (Heap.lt_size e) I.ok.above))).trans (I.base.keep b o e n hb hx)
    · obtain ⟨sl, e1⟩ := I.base.slot b o e n hb hx
      exact ⟨sl, (hs.2 b (Nat.ne_of_lt (Nat.lt_of_lt_of_le (Heap.lt_size e) I.ok.above))).trans e1⟩
    · obtain ⟨o', e1⟩ := I.base.there b o e hx
      exact ⟨o', (hs.2 b (Nat.ne_of_lt (Nat.lt_of_lt_of_le (Heap.lt_size e) I.ok.above))).trans e1⟩
    · by_cases hj : j = i
      · subst hj
        rw [hi] at e1; cases e1
        rw [List.getElem?_set_self hiσ] at e2
        cases e2
        exact ⟨u, r, .inl ⟨hk, by simp⟩⟩
      · rw [List.getElem?_set_ne (Ne.symm hj)] at e2
        obtain ⟨u', r', q⟩ := hl j y v' e1 e2 e3
        refine ⟨u', r', ?_⟩
        rcases q with ⟨k, e⟩ | ⟨k, c, e, z⟩
        · refine .inl ⟨k, ?_⟩
          have : y ≠ x := fun e => hj (nodup_ix hN e1 (e ▸ hi))
          simp [this, e]
        · exact .inr ⟨k, c, e, z.sameBut hs (cne y c e)⟩
    · obtain ⟨w', z⟩ := I.cell y c e
      exact ⟨w', z.sameBut hs (cne y c e)⟩
    · obtain ⟨e, n, ne, nf, d⟩ := I.pin p hp
      exact ⟨(hs.2 p.1 ne).trans e, n, ne, nf, d⟩
  · have hfn : X.fn x = true := by
      rcases hf with z | z
      · exact z
      · rw [z] at hk; cases hk
    obtain ⟨c, hc⟩ := I.ok.has x (.inl hk)
    obtain ⟨w', z⟩ := I.cell x c hc
    refine wpAny_storeName_cell I.ok.kind hk hc z (fun h' hc' hs => ?_)
    obtain ⟨oc, hoc, hocd⟩ := id z
    refine h { s with heap := h' } ⟨I.ok, I.os, I.bare, ⟨fun b o e n hb hx => ?_, fun b o e n hb hx => ?_, I.base.free, fun b o e hx => ?_, I.base.tups, I.base.frzs, I.base.tbls⟩, ⟨m, hn.sameBut hs (Ne.symm (cne x c hc)), fun j y v' e1 e2 e3 => ?_⟩, fun y c' e => ?_, I.free, I.freeC, fun p hp => ?_, tracked ⟨oc, hoc, I.freeC x c hc⟩ hs, by simpa using I.len⟩ ⟨c, hs, .inr hc⟩
    · exact (hs.2 b (Nat.ne_of_lt (Nat.lt_of_lt_of_le (Heap.lt_size e) (I.ok.cab x c hfn hc)))).trans (I.base.keep b o e n hb hx)
    · obtain ⟨sl, e1⟩ := I.base.slot b o e n hb hx
      exact ⟨sl, (hs.2 b (Nat.ne_of_lt (Nat.lt_of_lt_of_le (Heap.lt_size e) (I.ok.cab x c hfn hc)))).trans e1⟩
    · obtain ⟨o', e1⟩ := I.base.there b o e hx
      exact ⟨o', (hs.2 b (Nat.ne_of_lt (Nat.lt_of_lt_of_le (Heap.lt_size e) (I.ok.cab x c hfn hc)))).trans e1⟩
    · by_cases hj : j = i
      · subst hj
        rw [hi] at e1; cases e1
        rw [List.getElem?_set_self hiσ] at e2
        cases e2
        exact ⟨u, r, .inr ⟨.inl hk, c, hc, hc'⟩⟩
      · rw [List.getElem?_set_ne (Ne.symm hj)] at e2
        obtain ⟨u', r', q⟩ := hl j y v' e1 e2 e3
        refine ⟨u', r', ?_⟩
        rcases q with q | ⟨k, c', e, z'⟩
        · exact .inl q
        · refine .inr ⟨k, c', e, z'.sameBut hs ?_⟩
          rintro rfl
          exact hj (nodup_ix hN e1 (I.ok.inj _ _ _ e hc ▸ hi))
    · by_cases hcc : c' = c
      · subst hcc; exact ⟨_, hc'⟩
      · obtain ⟨w2, z2⟩ := I.cell y c' e
        exact ⟨w2, z2.sameBut hs hcc⟩
    · obtain ⟨e, n, ne, nf, d⟩ := I.pin p hp
      refine ⟨(hs.2 p.1 ?_).trans e, n, ne, nf, d⟩
      intro q
      rw [q, hoc] at e
      have q' : oc = p.2 := Option.some.inj e
      exact d w' (by rw [← q']; exact hocd)
theorem store_ok {M : Model} {A : Around} {E : Value → Shared → Prop} {i : Nat} {x : Str} {v : V} {u : Value} {Q : Unit → Shared → Prop} (I : Inv X pins σ H s) (hN : X.N.Nodup) (hi : X.N[i]? = some x) (hx : Loc X.env.scope x) (r : RelV v u)
    (h : ∀ s', Inv X pins (σ.set i (some v)) H s' → Q () s') (hf : X.fn x = true ∨ X.env.scope.names.lookup x = some .local := by first | exact .inl rfl | exact .inr rfl | assumption) : wpAny M A (storeName X.env x u) Q E s :=
  store_ok2 I hN hi hx r (fun s' I' _ => h s' I') hf
/-- behind a call or a block, the state as it is -/
theorem Inv.call' {s' : Shared} {ch : List Addr} (I : Inv X pins σ H s) (ho : s'.os = s.os) (u : Un (frs X.stack) ch H H' s.heap s'.heap) (hok : HOk X.prog X.w H' s'.heap) (hg : AllBare s'.gens)
    (hch : ∀ b ∈ ch, (b ∈ X.ex ∨ X.s₀.heap.objs.size ≤ b) ∧ b ≠ X.env.locals ∧ (∀ x c, X.env.cells.lookup x = some c → c ≠ b) ∧ ∀ p ∈ X.pn ++ pins, p.1 ≠ b) : Inv X pins σ H' s' := by
  obtain ⟨h', g', d', t', o'⟩ := s'
  have e : o' = s.os := ho
  subst e
  exact I.call (g' := g') (t' := t') (d' := d') u hok hg hch
end

/-! ### the judgements -/
/-- an exception: its class, its own dict's address (where it has one), the abstract heap behind it -/
noncomputable abbrev XK := Value → Option Addr → Hp → Prop
noncomputable abbrev St := List (Option V)
noncomputable abbrev VK := V → Hp → Prop
/-- an expression's reading; a test's; an argument list's -/
noncomputable abbrev TE := St → Hp → VK → Prop
noncomputable abbrev TT := St → Hp → (Bool → Hp → Prop) → Prop
noncomputable abbrev TA := St → Hp → (List V → Hp → Prop) → Prop
/-- what is wanted behind a statement -/
structure Ends where
  nx : St → Hp → Prop
  rt : VK
  bk : St → Hp → Prop := fun _ _ => False
  ct : St → Hp → Prop := fun _ _ => False
noncomputable abbrev TS := Ends → St → Hp → Prop

noncomputable def EP (X : Cx) (pins : List (Addr × Obj)) (σ : St) (Q : VK) (u : Value) (s' : Shared) : Prop := ∃ v H', Inv X pins σ H' s' ∧ RelV v u ∧ Q v H'
noncomputable def TP (X : Cx) (pins : List (Addr × Obj)) (σ : St) (Q : Bool → Hp → Prop) (b : Bool) (s' : Shared) : Prop := ∃ H', Inv X pins σ H' s' ∧ Q b H'
noncomputable def AP (X : Cx) (pins : List (Addr × Obj)) (σ : St) (Q : List V → Hp → Prop) (us : List Value) (s' : Shared) : Prop := ∃ vs H', Inv X pins σ H' s' ∧ Vals vs us ∧ Q vs H'
noncomputable def SP (X : Cx) (pins : List (Addr × Obj)) (D : Ends) (f : Flow) (s' : Shared) : Prop :=
  match f with
  | .next => ∃ σ' H', Inv X pins σ' H' s' ∧ D.nx σ' H'
  | .brk => ∃ σ' H', Inv X pins σ' H' s' ∧ D.bk σ' H'
  | .cont => ∃ σ' H', Inv X pins σ' H' s' ∧ D.ct σ' H'
  | .ret u => ∃ v σ' H', Inv X pins σ' H' s' ∧ RelV v u ∧ D.rt v H'

noncomputable def PE (X : Cx) (e : Expr) (t : TE) : Prop :=
  ∀ (pins : List (Addr × Obj)) (s : Shared) (σ : St) (H : Hp) (Q : VK), Inv X pins σ H s → t σ H Q → wpAny (model X.prog X.w) X.A (eval e X.env) (EP X pins σ Q) X.xe s
noncomputable def PT (X : Cx) (e : Expr) (t : TT) : Prop :=
  ∀ (pins : List (Addr × Obj)) (s : Shared) (σ : St) (H : Hp) (Q : Bool → Hp → Prop), Inv X pins σ H s → t σ H Q → wpAny (model X.prog X.w) X.A (isTrue e X.env (eval e X.env)) (TP X pins σ Q) X.xe s
/-- a test whatever its 'whole' is (and, or) -/
noncomputable def PW (X : Cx) (e : Expr) (t : TT) : Prop :=
  ∀ (whole : Sem Value) (pins : List (Addr × Obj)) (s : Shared) (σ : St) (H : Hp) (Q : Bool → Hp → Prop), Inv X pins σ H s → t σ H Q → wpAny (model X.prog X.w) X.A (isTrue e X.env whole) (TP X pins σ Q) X.xe s
theorem PW.pt {X : Cx} {e : Expr} {t : TT} (h : PW X e t) : PT X e t := h _
/-- an argument list (no star), from the left -/
noncomputable def PA (X : Cx) (es : List Expr) (t : TA) : Prop :=
  ∀ (pos : Pos) (pins : List (Addr × Obj)) (s : Shared) (σ : St) (H : Hp) (Q : List V → Hp → Prop), Inv X pins σ H s → t σ H Q → wpAny (model X.prog X.w) X.A (spliced (backTo pos (starEach es X.env))) (AP X pins σ Q) X.xe s
noncomputable def PS (X : Cx) (st : Stmt) (t : TS) : Prop :=
  ∀ (pins : List (Addr × Obj)) (s : Shared) (σ : St) (H : Hp) (D : Ends), Inv X pins σ H s → t D σ H → wpAny (model X.prog X.w) X.A (exec st X.env) (SP X pins D) X.xe s
noncomputable def PSs (X : Cx) (st : List Stmt) (t : TS) : Prop :=
  ∀ (pins : List (Addr × Obj)) (s : Shared) (σ : St) (H : Hp) (D : Ends), Inv X pins σ H s → t D σ H → wpAny (model X.prog X.w) X.A (execs st X.env) (SP X pins D) X.xe s
/-- weaken the end -/
theorem thn {α : Type} {t : Sem α} {Q Q' : α → Shared → Prop} {M : Model} {A : Around} {E : Value → Shared → Prop} {s : Shared} (h : wpAny M A t Q E s) (hQ : ∀ a s, Q a s → Q' a s) : wpAny M A t Q' E s := wpAny_mono h hQ fun _ _ x => x
end L2

namespace L2
open PySem PySem.Spec PyProof.Rows
section
variable {X : Cx}

/-! ### names and constants -/
noncomputable def tVar (i : Nat) : TE := fun σ H Q => ∃ v, σ[i]? = some (some v) ∧ Q v H
noncomputable def tC (v : V) : TE := fun _ H Q => Q v H
theorem pe_var {i : Nat} {x : Str} {pos : Pos} (hN : X.N[i]? = some x) (hv : Vis X.env.scope x) (hd : (x == ("__debug__" : Str)) = false := by decide) (hcd : (x == ("__classdict__" : Str)) = false := by decide) : PE X (.Name x pos) (tVar i) := by
  intro pins s σ H Q I h
  obtain ⟨v, e, h⟩ := h
  obtain ⟨m, hn, hl⟩ := I.loc
  obtain ⟨u, r, l⟩ := hl i x v hN e hv
  have fin : EP X pins σ Q u s := ⟨v, H, I, r, h⟩
  rcases l with ⟨hk, hm⟩ | ⟨hk, c, hc, hcell⟩
  · exact wpAny_Name (wpAny_loadName_local I.ok.kind hk hn hm fin) hd
  · rcases hk with hk | hk
    · exact wpAny_Name (wpAny_loadName_cell I.ok.kind hk hc hcell fin) hd
    · exact wpAny_Name (wpAny_loadName_free I.ok.kind hk hc hcell fin hcd) hd
theorem pe_int {i j pos} : PE X (.Constant (.int i) j pos) (tC (.int i)) := fun _ _ _ H _ I h => wpAny_Constant_int ⟨.int i, H, I.tok _, ⟨_, rfl⟩, h⟩
theorem pe_bl {b j pos} : PE X (.Constant (.bool b) j pos) (tC (.bl b)) := fun _ _ _ H _ I h => Constant_bool ⟨.bl b, H, I, rfl, h⟩
theorem pe_non {j pos} : PE X (.Constant .none j pos) (tC .non) := fun _ _ _ H _ I h => Constant_none ⟨.non, H, I, rfl, h⟩
theorem pe_str {x j pos} : PE X (.Constant (.str x) j pos) (tC (.str x)) := fun _ _ _ H _ I h => Calls.Constant_str ⟨.str x, H, I.tok _, ⟨_, rfl⟩, h⟩

/-- a global name of the def -/
noncomputable def Gl (X : Cx) (x : Str) : Prop := X.env.kindOf x = some .globalImplicit
theorem ld_glob {E : Value → Shared → Prop} {pins : List (Addr × Obj)} {s : Shared} {σ : St} {H : Hp} {x : Str} {u : Value} {pos : Pos} {Q : Value → Shared → Prop} (I : Inv X pins σ H s) (hg : Gl X x) (hm : X.mg x = some u) (h : Q u s)
    (hd : (x == ("__debug__" : Str)) = false := by decide) : wpAny (model X.prog X.w) X.A (eval (.Name x pos) X.env) Q E s :=
  Calls.Name_function_global I.ok.kind hg (Calls.loadGlobal_global (by rw [I.ok.glob]; exact I.mod.glob.keeps I.bk) hm h) hd
theorem ld_blt {E : Value → Shared → Prop} {pins : List (Addr × Obj)} {s : Shared} {σ : St} {H : Hp} {x : Str} {u : Value} {pos : Pos} {Q : Value → Shared → Prop} (I : Inv X pins σ H s) (hg : Gl X x) (hm : X.mg x = none) (hv : bootBuiltins x = some u) (h : Q u s)
    (hn : x ≠ "__name__" := by decide) (hd : (x == ("__debug__" : Str)) = false := by decide) : wpAny (model X.prog X.w) X.A (eval (.Name x pos) X.env) Q E s := by
  obtain ⟨mb, h1, h2⟩ := I.mod.blt
  exact Calls.Name_function_global I.ok.kind hg (Calls.loadGlobal_builtin (by rw [I.ok.glob]; exact I.mod.glob.keeps I.bk) hm (by rw [I.ok.blt]; exact h1.keeps I.bk) ((h2 x hn).trans hv) h) hd
/-- a module's constant, a class, a function, as a value -/
theorem pe_glob {x : Str} {v : V} {u : Value} {pos : Pos} (hg : Gl X x) (hm : X.mg x = some u) (r : RelV v u) (hd : (x == ("__debug__" : Str)) = false := by decide) : PE X (.Name x pos) (tC v) :=
  fun _ _ _ H _ I h => ld_glob I hg hm ⟨v, H, I, r, h⟩ hd
theorem pe_bltn {x : Str} {v : V} {u : Value} {pos : Pos} (hg : Gl X x) (hm : X.mg x = none) (hv : bootBuiltins x = some u) (r : RelV v u) (hn : x ≠ "__name__" := by decide) (hd : (x == ("__debug__" : Str)) = false := by decide) : PE X (.Name x pos) (tC v) :=
  fun _ _ _ H _ I h => ld_blt I hg hm hv ⟨v, H, I, r, h⟩ hn hd

/-! ### arithmetic -/
variable {a b : Expr} {ta tb : TE} {pos : Pos}
/-! ### comparisons -/
/-- a comparison as a value, as a test -/
noncomputable def tB (t : TE) : TT := fun σ H Q => t σ H fun x H1 => ∃ c, x = .bl c ∧ Q c H1
/-- an expression whose value is a bool, as a test -/
theorem pt_val {e : Expr} {t : TE} (h : PE X e t) (he : ∀ whole, isTrue e X.env whole = (do let v ← whole; standAt e.pos; holding [v] (truthy v)) := by intro _; rfl) : PT X e (tB t) := by
  intro pins s σ H Q I hw
  refine isTrue_plain (thn (h pins s σ H _ I hw) fun v s1 ⟨x, H1, I1, r1, q1⟩ => ?_) (he _)
  obtain ⟨d, rfl, q⟩ := q1
  cases r1
  exact wpAny_truthy_bool ⟨H1, I1, q⟩

/-! ### and, or, not -/
variable {tA tB' : TT} {rest : List Expr}
noncomputable def tAnd (t u : TT) : TT := fun σ H Q => t σ H fun c H1 => if c = true then u σ H1 Q else Q false H1
noncomputable def tOr (t u : TT) : TT := fun σ H Q => t σ H fun c H1 => if c = true then Q true H1 else u σ H1 Q
noncomputable def tNot (t : TT) : TT := fun σ H Q => t σ H fun c H1 => Q (!c) H1
theorem pw_and1 (ha : PT X a tA) : PW X (.BoolOp .And [a] pos) tA := by
  intro wh pins s σ H Q I h
  refine isTrue_and (thn (ha pins s σ H Q I h) fun c s1 e => ?_)
  cases c with
  | true => exact isTrue_and_nil e
  | false => exact e
theorem pw_or1 (ha : PT X a tA) : PW X (.BoolOp .Or [a] pos) tA := by
  intro wh pins s σ H Q I h
  refine isTrue_or (thn (ha pins s σ H Q I h) fun c s1 e => ?_)
  cases c with
  | false => exact isTrue_or_nil e
  | true => exact e
theorem pw_and (ha : PT X a tA) (hb : PW X (.BoolOp .And (b :: rest) pos) tB') : PW X (.BoolOp .And (a :: b :: rest) pos) (tAnd tA tB') := by
  intro wh pins s σ H Q I h
  refine isTrue_and (thn (ha pins s σ H _ I h) fun c s1 ⟨H1, I1, q1⟩ => ?_)
  cases c with
  | true => exact hb wh pins s1 σ H1 Q I1 q1
  | false => exact ⟨H1, I1, q1⟩
theorem pw_or (ha : PT X a tA) (hb : PW X (.BoolOp .Or (b :: rest) pos) tB') : PW X (.BoolOp .Or (a :: b :: rest) pos) (tOr tA tB') := by
  intro wh pins s σ H Q I h
  refine isTrue_or (thn (ha pins s σ H _ I h) fun c s1 ⟨H1, I1, q1⟩ => ?_)
  cases c with
  | true => exact ⟨H1, I1, q1⟩
  | false => exact hb wh pins s1 σ H1 Q I1 q1
theorem pt_not (ha : PT X a tA) : PT X (.UnaryOp .Not a pos) (tNot tA) := by
  intro pins s σ H Q I h
  exact isTrue_not (ha pins s σ H (fun c H1 => Q (!c) H1) I h)
/-- .. as values (bools) -/
noncomputable def tAndV (ta tb : TE) : TE := fun σ H Q => ta σ H fun x H1 => ∃ c, x = .bl c ∧ if c = true then tb σ H1 Q else Q (.bl false) H1
noncomputable def tNotV (ta : TE) : TE := fun σ H Q => ta σ H fun x H1 => ∃ c, x = .bl c ∧ Q (.bl (!c)) H1
theorem pe_one {op} {t : TE} (h : PE X a t) : PE X (.BoolOp op [a] pos) t := fun pins s σ H Q I hw => BoolOp_one (h pins s σ H Q I hw)
theorem pe_and (ha : PE X a ta) (hb : PE X (.BoolOp .And (b :: rest) pos) tb) : PE X (.BoolOp .And (a :: b :: rest) pos) (tAndV ta tb) := by
  intro pins s σ H Q I h
  refine BoolOp_and (thn (ha pins s σ H _ I h) fun v s1 ⟨x, H1, I1, r1, q1⟩ => ?_)
  obtain ⟨c, rfl, q1⟩ := q1
  cases r1
  refine wpAny_truthy_bool ?_
  cases c with
  | true => exact hb pins s1 σ H1 Q I1 q1
  | false => exact ⟨.bl false, H1, I1, rfl, q1⟩
theorem pe_not (ha : PE X a ta) : PE X (.UnaryOp .Not a pos) (tNotV ta) := by
  intro pins s σ H Q I h
  refine UnaryOp_ (thn (ha pins s σ H _ I h) fun v s1 ⟨x, H1, I1, r1, q1⟩ => ?_)
  obtain ⟨c, rfl, q1⟩ := q1
  cases r1
  exact not_of (wpAny_truthy_bool ⟨.bl (!c), H1, I1, rfl, q1⟩)
end
end L2

namespace L2
open PySem PySem.Spec PyProof.Rows

/-! ### a list, a tuple that is read: tracked, frozen, or an object of the module -/
noncomputable def SqL (K : PySem.W.Frag) (H : Hp) (a : Addr) (xs : List V) : Prop :=
  Rd H a (.lst xs) ∨
    ∃ (o : Obj) (its : Array Value) (n : Nat), K.lookup a = some o ∧ o.cls = .type "list" ∧ o.dict = none ∧ o.data = .seq its n ∧ its.size ≤ sizeLine ∧ Vals xs its.toList
noncomputable def SqT (K : PySem.W.Frag) (H : Hp) (a : Addr) (xs : List V) : Prop :=
  Rd H a (.tup xs) ∨
    ∃ (o : Obj) (its : Array Value) (n : Nat), K.lookup a = some o ∧ o.cls = .type "tuple" ∧ o.data = .seq its n ∧ its.size ≤ sizeLine ∧ Vals xs its.toList
noncomputable def absV : Value → Option V
  | .none => some .non
  | .bool b => some (.bl b)
  | .int i _ => some (.int i)
  | .str x _ => some (.str x)
  | .bytes b _ => some (.byt b)
  | .float b _ => some (.flt b)
  | .ref a => some (.ref a)
  | .type n => some (.ty n)
  | _ => none
theorem RelV.abs {x : V} {u : Value} (r : RelV x u) : absV u = some x := by
  cases x with
  | non => cases r; rfl
  | bl _ => cases r; rfl
  | int _ => obtain ⟨t, rfl⟩ := r; rfl
  | str _ => obtain ⟨t, rfl⟩ := r; rfl
  | byt _ => obtain ⟨t, rfl⟩ := r; rfl
  | flt _ => obtain ⟨t, rfl⟩ := r; rfl
  | ref _ => cases r; rfl
  | ty _ => cases r; rfl
theorem RelV.inj {x y : V} {u : Value} (r : RelV x u) (q : RelV y u) : x = y := Option.some.inj (r.abs.symm.trans q.abs)
theorem Vals.inj : ∀ {xs ys : List V} {us : List Value}, Vals xs us → Vals ys us → xs = ys
  | _, _, _, .nil, .nil => rfl
  | _, _, _, .cons r t, .cons r' t' => by rw [r.inj r', Vals.inj t t']
section
variable {X : Cx} {pins : List (Addr × Obj)} {σ : St} {H : Hp} {s : Shared} {a : Addr} {xs ys : List V}
theorem SqL.of {K : PySem.W.Frag} (h : H a = some (.lst xs)) : SqL K H a xs := .inl (.inl h)
theorem SqT.of {K : PySem.W.Frag} (h : H a = some (.tup xs)) : SqT K H a xs := .inl (.inl h)
theorem Inv.list (I : Inv X pins σ H s) (h : SqL X.K H a xs) : ∃ its : List Value, Vals xs its ∧ PlainL s.heap a its.toArray ∧ xs.length ≤ sizeLine := by
  rcases h with h | ⟨o, its, n, hk, hc, hd, hs, hz, r⟩
  · obtain ⟨z, its, n, r, e⟩ := h.ok I.hok
    exact ⟨its, r, ⟨_, n, e, rfl, rfl, rfl⟩, z⟩
  · refine ⟨its.toList, r, ⟨o, n, I.kIn a o hk, hc, hd, by simpa using hs⟩, ?_⟩
    have e := r.length
    simp only [Array.length_toList] at e
    omega
theorem Inv.tuple (I : Inv X pins σ H s) (h : SqT X.K H a xs) : ∃ its : List Value, Vals xs its ∧ IsTup s.heap a its.toArray ∧ xs.length ≤ sizeLine := by
  rcases h with h | ⟨o, its, n, hk, hc, hs, hz, r⟩
  · obtain ⟨z, its, r, p⟩ := h.ok I.hok
    exact ⟨its, r, p, z⟩
  · refine ⟨its.toList, r, ⟨o, I.kIn a o hk, hc, n, by simpa using hs⟩, ?_⟩
    have e := r.length
    simp only [Array.length_toList] at e
    omega
theorem Inv.list_inj (I : Inv X pins σ H s) (h : SqL X.K H a xs) (h' : SqL X.K H a ys) : xs = ys := by
  obtain ⟨its, r, ⟨o, n, e, _, _, d⟩, _⟩ := I.list h
  obtain ⟨its', r', ⟨o', n', e', _, _, d'⟩, _⟩ := I.list h'
  rw [e] at e'; cases e'
  rw [d] at d'
  injection d' with d1 _
  have : its = its' := by simpa using congrArg Array.toList d1
  subst this
  exact r.inj r'
theorem Inv.tuple_inj (I : Inv X pins σ H s) (h : SqT X.K H a xs) (h' : SqT X.K H a ys) : xs = ys := by
  obtain ⟨its, r, ⟨o, e, _, n, d⟩, _⟩ := I.tuple h
  obtain ⟨its', r', ⟨o', e', _, n', d'⟩, _⟩ := I.tuple h'
  rw [e] at e'; cases e'
  rw [d] at d'
  injection d' with d1 _
  have : its = its' := by simpa using congrArg Array.toList d1
  subst this
  exact r.inj r'
end

/-! ### another wish about exceptions -/
noncomputable abbrev Cx.wish (X : Cx) (E : Value → Shared → Prop) : Cx := { X with xe := E }
/-- no exception leaves -/
noncomputable abbrev Cx.nox (X : Cx) : Cx := X.wish fun _ _ => False
theorem Cx.Ok.wish {X : Cx} (ok : X.Ok) (E : Value → Shared → Prop) : (X.wish E).Ok :=
  ⟨ok.mod, ok.kind, ok.glob, ok.blt, ok.above, ok.inj, ok.has, ok.cab, ok.hd, ok.frames, ok.stk, ok.exf, ok.bs, ok.bsz, ok.noex, ok.exfs, ok.funs, ok.frf⟩
theorem Cx.Ok.unwish {X : Cx} {E : Value → Shared → Prop} (ok : (X.wish E).Ok) : X.Ok :=
  ⟨ok.mod, ok.kind, ok.glob, ok.blt, ok.above, ok.inj, ok.has, ok.cab, ok.hd, ok.frames, ok.stk, ok.exf, ok.bs, ok.bsz, ok.noex, ok.exfs, ok.funs, ok.frf⟩
section
variable {X : Cx} {pins : List (Addr × Obj)} {σ : St} {H : Hp} {s : Shared} {E : Value → Shared → Prop}
theorem Inv.wish (I : Inv X pins σ H s) (E : Value → Shared → Prop) : Inv (X.wish E) pins σ H s := ⟨I.ok.wish E, I.os, I.bare, I.base, I.loc, I.cell, I.free, I.freeC, I.pin, I.hok, I.len⟩
theorem Inv.unwish (I : Inv (X.wish E) pins σ H s) : Inv X pins σ H s := ⟨I.ok.unwish, I.os, I.bare, I.base, I.loc, I.cell, I.free, I.freeC, I.pin, I.hok, I.len⟩
theorem SP.unwish {D : Ends} {f : Flow} {s' : Shared} (h : SP (X.wish E) pins D f s') : SP X pins D f s' := by
  cases f with
  | next => obtain ⟨σ', H', I, q⟩ := h; exact ⟨σ', H', I.unwish, q⟩
  | brk => obtain ⟨σ', H', I, q⟩ := h; exact ⟨σ', H', I.unwish, q⟩
  | cont => obtain ⟨σ', H', I, q⟩ := h; exact ⟨σ', H', I.unwish, q⟩
  | ret u => obtain ⟨v, σ', H', I, r, q⟩ := h; exact ⟨v, σ', H', I.unwish, r, q⟩
theorem PE.nox {e : Expr} {t : TE} (h : PE X.nox e t) : PE X e t := fun pins s σ H Q I hw =>
  wpAny_mono (h pins s σ H Q (I.wish _) hw) (fun _ _ ⟨v, H', I', r, q⟩ => ⟨v, H', I'.unwish, r, q⟩) fun _ _ z => False.elim z
theorem PT.nox {e : Expr} {t : TT} (h : PT X.nox e t) : PT X e t := fun pins s σ H Q I hw =>
  wpAny_mono (h pins s σ H Q (I.wish _) hw) (fun _ _ ⟨H', I', q⟩ => ⟨H', I'.unwish, q⟩) fun _ _ z => False.elim z
theorem PSs.nox {st : List Stmt} {t : TS} (h : PSs X.nox st t) : PSs X st t := fun pins s σ H D I hw =>
  wpAny_mono (h pins s σ H D (I.wish _) hw) (fun _ _ q => q.unwish) fun _ _ z => False.elim z
end

/-! ### blocks and small statements -/
section
variable {X : Cx} {st : Stmt} {rest : List Stmt} {t u : TS} {e : Expr} {te : TE} {pos : Pos}
noncomputable def tNext : TS := fun D σ H => D.nx σ H
noncomputable def tSeq (t u : TS) : TS := fun D σ H => t { D with nx := u D } σ H
theorem pss_nil : PSs X [] tNext := fun _ _ σ H _ I h => wpAny_execs_nil ⟨σ, H, I, h⟩
theorem pss_cons (h1 : PS X st t) (h2 : PSs X rest u) : PSs X (st :: rest) (tSeq t u) := by
  intro pins s σ H D I h
  refine wpAny_execs_cons (thn (h1 pins s σ H { D with nx := u D } I h) fun f s1 q => ?_)
  cases f with
  | next =>
    obtain ⟨σ', H', I', q⟩ := q
    exact h2 pins s1 σ' H' D I' q
  | ret v => exact q
  | brk => exact q
  | cont => exact q
theorem pss_one (h1 : PS X st t) : PSs X [st] t := by
  intro pins s σ H D I h
  refine wpAny_execs_cons (thn (h1 pins s σ H D I h) fun f s1 q => ?_)
  cases f with
  | next => exact wpAny_execs_nil q
  | ret v => exact q
  | brk => exact q
  | cont => exact q
/-- in a def's body nothing is shown -/
theorem Inv.quiet {pins : List (Addr × Obj)} {σ : St} {H : Hp} {s : Shared} (I : Inv X pins σ H s) : interactive X.env = false := by simp [interactive, I.ok.kind]
/-- an expression whose value is dropped -/
noncomputable def tDrop (te : TE) : TS := fun D σ H => te σ H fun _ H1 => D.nx σ H1
theorem ps_expr (he : PE X e te) (hs : swapsWith e none pos.line X.env = pure false := by rfl) : PS X (.Expr e pos) (tDrop te) := by
  intro pins s σ H D I h
  exact wpAny_Expr_any (thn (he pins s σ H _ I h) fun v s1 ⟨x, H1, I1, r1, q1⟩ => ⟨σ, H1, I1, q1⟩) I.quiet hs
noncomputable def tRet (te : TE) : TS := fun D σ H => te σ H D.rt
theorem ps_ret (he : PE X e te) : PS X (.Return (some e) pos) (tRet te) := by
  intro pins s σ H D I h
  exact wpAny_Return_some (thn (he pins s σ H _ I h) fun v s1 ⟨x, H1, I1, r1, q1⟩ => ⟨x, σ, H1, I1, r1, q1⟩)
noncomputable def tIfS (c : TT) (t u : TS) : TS := fun D σ H => c σ H fun b H1 => if b = true then t D σ H1 else u D σ H1
theorem ps_if {c : Expr} {a b : List Stmt} {tc : TT} (hc : PT X c tc) (ha : PSs X a t) (hb : PSs X b u) : PS X (.If c a b pos) (tIfS tc t u) := by
  intro pins s σ H D I h
  refine wpAny_If (thn (hc pins s σ H _ I h) fun d s1 ⟨H1, I1, q1⟩ => ?_)
  cases d with
  | true => exact ha pins s1 σ H1 D I1 q1
  | false => exact hb pins s1 σ H1 D I1 q1
/-- code that the proof never comes to -/
noncomputable def tNever : TS := fun _ _ _ => False
theorem ps_never : PS X st tNever := fun _ _ _ _ _ _ h => h.elim
end

/-! ### targets -/
noncomputable abbrev TG := V → St → Hp → (St → Hp → Prop) → Prop
noncomputable abbrev TGs := List V → St → Hp → (St → Hp → Prop) → Prop
noncomputable def PG (X : Cx) (target : Expr) (t : TG) : Prop :=
  ∀ (pins : List (Addr × Obj)) (s : Shared) (σ : St) (H : Hp) (v : V) (u : Value) (Q : St → Hp → Prop), Inv X pins σ H s → RelV v u → t v σ H Q →
    wpAny (model X.prog X.w) X.A (assign target X.env u) (fun _ s' => ∃ σ' H', Inv X pins σ' H' s' ∧ Q σ' H') X.xe s
/-- several targets, one after another -/
noncomputable def PGs (X : Cx) (ts : List Expr) (t : TGs) : Prop :=
  ∀ (pins : List (Addr × Obj)) (s : Shared) (σ : St) (H : Hp) (vs : List V) (us : List Value) (Q : St → Hp → Prop), Inv X pins σ H s → Vals vs us → t vs σ H Q →
    wpAny (model X.prog X.w) X.A (assignInOrder ((assignEach ts X.env).map (·.2)) us) (fun _ s' => ∃ σ' H', Inv X pins σ' H' s' ∧ Q σ' H') X.xe s
/-- o[i] = v, by values -/
noncomputable abbrev TSet := V → V → V → Hp → (Hp → Prop) → Prop
noncomputable def PSet (X : Cx) (t : TSet) : Prop :=
  ∀ (pins : List (Addr × Obj)) (s : Shared) (σ : St) (H : Hp) (o i v : V) (ov iv u : Value) (Q : Hp → Prop), Inv X pins σ H s → RelV o ov → RelV i iv → RelV v u → t o i v H Q →
    wpAny (model X.prog X.w) X.A (setItem ov iv u) (fun _ s' => ∃ H', Inv X pins σ H' s' ∧ Q H') X.xe s
section
variable {X : Cx} {pos : Pos}
noncomputable def gName (i : Nat) : TG := fun v σ H Q => Q (σ.set i (some v)) H
theorem pg_name {i : Nat} {x : Str} (hN : X.N.Nodup) (hi : X.N[i]? = some x) (hx : Loc X.env.scope x) (hf : X.fn x = true ∨ X.env.scope.names.lookup x = some .local := by first | exact .inl rfl | exact .inr rfl | assumption) : PG X (.Name x pos) (gName i) := by
  intro pins s σ H v u Q I r h
  exact wpAny_assign_Name (store_ok I hN hi hx r (fun s' I' => ⟨_, H, I', h⟩) hf)
noncomputable def gNil : TGs := fun vs σ H Q => vs = [] ∧ Q σ H
noncomputable def gCons (t : TG) (u : TGs) : TGs := fun vs σ H Q => ∃ v r, vs = v :: r ∧ t v σ H fun σ' H' => u r σ' H' Q
theorem pgs_nil : PGs X [] gNil := by
  intro pins s σ H vs us Q I r h
  obtain ⟨e, h⟩ := h
  subst e
  cases r
  exact assignInOrder_nil ⟨σ, H, I, h⟩
theorem pgs_cons {e : Expr} {es : List Expr} {t : TG} {u : TGs} (h1 : PG X e t) (h2 : PGs X es u)
    (hs : (assignEach (e :: es) X.env).map (·.2) = assign e X.env :: (assignEach es X.env).map (·.2) := by rfl) : PGs X (e :: es) (gCons t u) := by
  intro pins s σ H vs us Q I r h
  obtain ⟨v, vr, e1, h⟩ := h
  subst e1
  cases r with
  | cons r rr =>
    rw [hs]
    refine assignInOrder_cons (thn (h1 pins s σ H _ _ _ I r h) fun _ s1 ⟨σ1, H1, I1, q1⟩ => ?_)
    exact h2 pins s1 σ1 H1 _ _ Q I1 rr q1
/-- (a, b, ..) = a tuple of that length -/
noncomputable def gTup (K : PySem.W.Frag) (n : Nat) (t : TGs) : TG := fun v σ H Q => ∃ a xs, v = .ref a ∧ SqT K H a xs ∧ xs.length = n ∧ t xs σ H Q
theorem pg_tup {es : List Expr} {k : Nat} {t : TGs} {n : Nat} (hc : X.calm = true) (h : PGs X es t)
    (hn : (assignEach es X.env).length = n := by rfl) (hst : (assignEach es X.env).findIdx? (·.1) = none := by rfl) : PG X (.Tuple es k pos) (gTup X.K n t) := by
  intro pins s σ H v u Q I r hw
  obtain ⟨a, xs, e1, hq, hl, hw⟩ := hw
  subst e1
  cases r
  obtain ⟨its, rv, ht, hz⟩ := I.tuple hq
  refine assign_Tuple_tuple (I.ok.hd hc) ht (by simp [hn, ← hl, rv.length]) hst fun h' hx => ?_
  have I1 : Inv X pins σ H { s with heap := h' } := I.kept (t' := s.toks) fun b o e => hx b o (Nat.ne_of_lt (Heap.lt_size e)) e
  exact h pins _ σ H xs _ Q I1 (by simpa using rv) hw
/-- o[i] = .. -/
noncomputable def gSub (to ti : TE) (t : TSet) : TG := fun v σ H Q => to σ H fun o H1 => ti σ H1 fun i H2 => t o i v H2 fun H3 => Q σ H3
theorem pg_sub {o i : Expr} {to ti : TE} {t : TSet} (ho : PE X o to) (hi : PE X i ti) (hs : PSet X t)
    (ha : ∀ v, assign (.Subscript o i pos) X.env v = (do
      let ov ← holding [v] (eval o X.env)
      let iv ← holding [v, ov] (eval i X.env)
      standAt pos
      holding [v, ov, iv] (setItem ov iv v)
      release [v, ov, iv] []) := by intro _; rfl) : PG X (.Subscript o i pos) (gSub to ti t) := by
  intro pins s σ H v u Q I r h
  rw [ha]
  refine wpAny_bind (wpAny_holding (thn (ho pins s σ H _ I h) fun ov s1 ⟨x, H1, I1, r1, q1⟩ => ?_))
  refine wpAny_bind (wpAny_holding (thn (hi pins s1 σ H1 _ I1 q1) fun iv s2 ⟨y, H2, I2, r2, q2⟩ => ?_))
  refine wpAny_bind (wpAny_standAt (wpAny_bind (wpAny_holding (thn (hs pins s2 σ H2 x y v ov iv u _ I2 r1 r2 r q2) fun _ s3 ⟨H3, I3, q3⟩ => ?_))))
  exact wpAny_release ⟨σ, H3, I3, q3⟩
/-- target = value -/
noncomputable def tAsg (te : TE) (g : TG) : TS := fun D σ H => te σ H fun x H1 => g x σ H1 D.nx
theorem ps_asg {tg e : Expr} {te : TE} {g : TG} (he : PE X e te) (hg : PG X tg g) (hs : swapsWithSole [tg] e pos.line X.env = pure false := by rfl) (hw : swappedStores [tg] e X.env = pure none := by rfl)
    (h1 : (assignEach [tg] X.env).map (·.2) = [assign tg X.env] := by rfl) : PS X (.Assign [tg] e pos) (tAsg te g) := by
  intro pins s σ H D I h
  refine wpAny_Assign_stores (thn (he pins s σ H _ I h) fun v s1 ⟨x, H1, I1, r1, q1⟩ => ?_) hs hw
  rw [h1]
  exact thn (hg pins s1 σ H1 x v _ I1 r1 q1) fun _ s2 q => q
/-- name = value -/
theorem ps_set {i : Nat} {x : Str} {e : Expr} {te : TE} {pos' : Pos} (hN : X.N.Nodup) (hi : X.N[i]? = some x) (hx : Loc X.env.scope x) (he : PE X e te) (hs : swapsWith e (some (.Name x pos')) pos.line X.env = pure false := by rfl) (hf : X.fn x = true ∨ X.env.scope.names.lookup x = some .local := by first | exact .inl rfl | exact .inr rfl | assumption) :
    PS X (.Assign [.Name x pos'] e pos) (tAsg te (gName i)) := by
  intro pins s σ H D I h
  refine wpAny_Assign_Name (thn (he pins s σ H _ I h) fun v s1 ⟨y, H1, I1, r1, q1⟩ => ?_) hs
  exact store_ok I1 hN hi hx r1 (fun s2 I2 => ⟨_, H1, I2, q1⟩) hf
end

/-! ### while -/
section
variable {X : Cx} {pos : Pos}
end

/-! ### what a loop or a comprehension walks -/
/-- at turn i: it yields x (the heap may grow), or it stops -/
structure It where
  go : Nat → Hp → Prop
  yld : Nat → Hp → V → Hp → Prop
  stop : Nat → Hp → Prop
/-- the iterator's own objects may turn: they are not the frame's, not pinned, younger than the entry (or a comprehension's own) -/
noncomputable def FpOk (X : Cx) (pins : List (Addr × Obj)) (H : Hp) (b : Addr) : Prop :=
  H b = none ∧ b ≠ X.env.locals ∧ b ∉ X.fs ∧ (b ∈ X.ex ∨ X.s₀.heap.objs.size ≤ b) ∧ (∀ x c, X.env.cells.lookup x = some c → c ≠ b) ∧ ∀ p ∈ X.pn ++ pins, p.1 ≠ b
theorem Inv.fpOk {X : Cx} {pins : List (Addr × Obj)} {σ : St} {H H' : Hp} {s : Shared} {b : Addr} (I : Inv X pins σ H s) (hb : s.heap.objs.size ≤ b) (hn : H' b = none) : FpOk X pins H' b := by
  refine ⟨hn, Nat.ne_of_gt (Nat.lt_of_lt_of_le I.lt hb), I.nofs hb, .inr (Nat.le_trans I.sz hb), fun x c e z => ?_, fun p hp z => ?_⟩
  · obtain ⟨v, q⟩ := I.cell x c e
    exact absurd (Nat.lt_of_lt_of_le q.lt (by rw [z]; exact hb)) (Nat.lt_irrefl _)
  · exact absurd (Nat.lt_of_lt_of_le (Heap.lt_size (I.pin p hp).1) (by rw [z]; exact hb)) (Nat.lt_irrefl _)
structure Turn (P : Program) (w : World) (K : PySem.W.Frag) (tg : Expr) (J : It) (fp : List Addr) (it : Addr) (tn : Nat → Heap → Prop) : Prop where
  mem : it ∈ fp
  obj : ∀ i h, tn i h → ∀ b ∈ fp, ∃ o, h.get? b = some o ∧ ∀ v, o.data ≠ .cell v
  keep : ∀ i h h', tn i h → (∀ b ∈ fp, ∀ o, h.get? b = some o → h'.get? b = some o) → tn i h'
  item : ∀ (X : Cx), X.prog = P → X.w = w → X.K = K → X.calm = true → ∀ (i : Nat) (pins : List (Addr × Obj)) (s : Shared) (σ : St) (H : Hp) (E : Value → Shared → Prop), Inv X pins σ H s → (∀ b ∈ fp, FpOk X pins H b) → tn i s.heap → J.go i H →
    wpAny (model P w) X.A (pyNext (.ref it)) (fun r s1 => ∃ u, r = some u ∧
      wpAny (model P w) X.A (letOwnedTupleGo tg (.ref it) u) (fun _ s2 => ∃ x H', Inv X pins σ H' s2 ∧ RelV x u ∧ J.yld i H x H' ∧ tn (i + 1) s2.heap ∧ ∀ b ∈ fp, H' b = none) E s1) E s
  done : ∀ (X : Cx), X.prog = P → X.w = w → X.K = K → X.calm = true → ∀ (i : Nat) (pins : List (Addr × Obj)) (s : Shared) (σ : St) (H : Hp) (E : Value → Shared → Prop), Inv X pins σ H s → (∀ b ∈ fp, FpOk X pins H b) → tn i s.heap → J.stop i H →
    wpAny (model P w) X.A (pyNext (.ref it)) (fun r s1 => r = none ∧ Inv X pins σ H s1) E s
  self : ∀ (A : Around) (i : Nat) (s : Shared) (Q : Value → Shared → Prop) (E : Value → Shared → Prop), tn i s.heap → Q (.ref it) s → wpAny (model P w) A (pyIter (.ref it)) Q E s
noncomputable abbrev TI := St → Hp → (It → Hp → Prop) → Prop
/-- an iterator has come -/
noncomputable def PIE (X : Cx) (pins : List (Addr × Obj)) (σ : St) (tg : Expr) (R : It → Hp → Prop) (itv : Value) (s2 : Shared) : Prop :=
  ∃ (it : Addr) (fp : List Addr) (tn : Nat → Heap → Prop) (J : It) (H' : Hp), itv = .ref it ∧ Inv X pins σ H' s2 ∧ Turn X.prog X.w X.K tg J fp it tn ∧ tn 0 s2.heap ∧ (∀ b ∈ fp, FpOk X pins H' b) ∧ R J H'
noncomputable def PI (X : Cx) (tg iter : Expr) (wi : TI) : Prop :=
  ∀ (pins : List (Addr × Obj)) (s : Shared) (σ : St) (H : Hp) (R : It → Hp → Prop), Inv X pins σ H s → wi σ H R →
    wpAny (model X.prog X.w) X.A (eval iter X.env) (fun v s1 => wpAny (model X.prog X.w) X.A (pyIter v) (PIE X pins σ tg R) X.xe s1) X.xe s

/-- the step ahead of the store is nothing for an iterator that keeps no tuple -/
theorem go_of {M : Model} {A : Around} {E : Value → Shared → Prop} {s : Shared} {tg : Expr} {it : Addr} {u : Value} {o : Obj} {n : String} {vs : Array Value} {Q : Unit → Shared → Prop} (ho : s.heap.get? it = some o) (hc : o.cls = .type n) (hd : o.data = .fields vs)
    (hn : ["enumerate", "zip", "dict_itemiterator", "dict_reverseitemiterator", "odict_iterator", "itertools.zip_longest", "itertools.pairwise"].contains n = false) (hQ : Q () s) : wpAny M A (letOwnedTupleGo tg (.ref it) u) Q E s := by
  unfold letOwnedTupleGo
  cases tg <;> first
    | exact wpAny_pure hQ
    | (cases u <;> first
        | exact wpAny_pure hQ
        | (refine wpAny_bind (wpAny_load ho ?_)
           rw [hc, hd]
           show wpAny M A (if (["enumerate", "zip", "dict_itemiterator", "dict_reverseitemiterator", "odict_iterator", "itertools.zip_longest", "itertools.pairwise"].contains n && vs[0]? == some (rawInt _)) = true then _ else _) Q E s
           rw [if_neg (by intro h; rw [hn, Bool.false_and] at h; cases h)]
           exact wpAny_pure hQ))

/-- the list at a, as it stands at each turn (a loop may append to it) -/
noncomputable def Itl (K : PySem.W.Frag) (a : Addr) : It :=
  ⟨fun i H => ∃ xs x, SqL K H a xs ∧ xs[i]? = some x, fun i H x H' => H' = H ∧ ∀ xs, SqL K H a xs → xs[i]? = some x, fun i H => ∃ xs, SqL K H a xs ∧ xs.length ≤ i⟩
noncomputable def Itt (K : PySem.W.Frag) (a : Addr) : It :=
  ⟨fun i H => ∃ xs x, SqT K H a xs ∧ xs[i]? = some x, fun i H x H' => H' = H ∧ ∀ xs, SqT K H a xs → xs[i]? = some x, fun i H => ∃ xs, SqT K H a xs ∧ xs.length ≤ i⟩
/-- lo, lo + 1, .. (n of them) -/
noncomputable def Itr (lo : Int) (n : Nat) : It := ⟨fun i _ => i < n, fun i H x H' => H' = H ∧ x = .int (lo + i), fun i _ => n ≤ i⟩
theorem turn_list {P : Program} {w : World} {K : PySem.W.Frag} {tg : Expr} (a it : Addr) : Turn P w K tg (Itl K a) [it] it (fun i h => h.IsListIter it a i) where
  mem := by simp
  obj := fun i h st b hb => by
    have e : b = it := by simpa using hb
    subst e
    obtain ⟨o, e, c, d⟩ := st
    exact ⟨o, e, fun v z => by rw [d] at z; cases z⟩
  keep := fun i h h' st k => st.at fun o e => k it (by simp) o e
  item := by
    intro X hP hw hK hc i pins s σ H E I hf st hg
    subst hP hw hK
    obtain ⟨xs, x, hq, hx⟩ := hg
    obtain ⟨its, rv, p, hz⟩ := I.list hq
    obtain ⟨u, hu, ru⟩ := rv.get hx
    obtain ⟨f0, f1, f2, f3, f4, f5⟩ := hf it (by simp)
    refine wpAny_pyNext_list_item st p.isList (x := u) (by simpa using hu) fun h' st' sb => ?_
    have I1 : Inv X pins σ H { s with heap := h' } := I.turned (t' := s.toks) (fun b o hb e => (sb.2 b hb).trans e) f0 f1 f3 f4 f5
    obtain ⟨o, e, c, d⟩ := id st'
    exact ⟨u, rfl, go_of (s := { s with heap := h' }) e c d (by decide) ⟨x, H, I1, ru, ⟨rfl, fun ys hy => by rw [I.list_inj hy hq]; exact hx⟩, st', fun b hb => (hf b hb).1⟩⟩
  done := by
    intro X hP hw hK hc i pins s σ H E I hf st hg
    subst hP hw hK
    obtain ⟨xs, hq, hx⟩ := hg
    obtain ⟨its, rv, p, hz⟩ := I.list hq
    obtain ⟨f0, f1, f2, f3, f4, f5⟩ := hf it (by simp)
    have hl := rv.length
    exact wpAny_pyNext_list_end (I.ok.hd hc) st p.isList (by simp; omega) fun h' eb => ⟨rfl, I.turned (t' := s.toks) (fun b o hb e => eb b o hb e) f0 f1 f3 f4 f5⟩
  self := fun _ _ _ _ _ st h => wpAny_pyIter_listiter st h
theorem turn_tuple {P : Program} {w : World} {K : PySem.W.Frag} {tg : Expr} (a it : Addr) : Turn P w K tg (Itt K a) [it] it (fun i h => h.IsTupleIter it a i) where
  mem := by simp
  obj := fun i h st b hb => by
    have e : b = it := by simpa using hb
    subst e
    obtain ⟨o, e, c, d⟩ := st
    exact ⟨o, e, fun v z => by rw [d] at z; cases z⟩
  keep := fun i h h' st k => st.at fun o e => k it (by simp) o e
  item := by
    intro X hP hw hK hc i pins s σ H E I hf st hg
    subst hP hw hK
    obtain ⟨xs, x, hq, hx⟩ := hg
    obtain ⟨its, rv, p, hz⟩ := I.tuple hq
    obtain ⟨u, hu, ru⟩ := rv.get hx
    obtain ⟨f0, f1, f2, f3, f4, f5⟩ := hf it (by simp)
    refine wpAny_pyNext_tuple_item st (show s.heap.IsTuple a its.toArray from p) (x := u) (by simpa using hu) fun h' st' sb => ?_
    have I1 : Inv X pins σ H { s with heap := h' } := I.turned (t' := s.toks) (fun b o hb e => (sb.2 b hb).trans e) f0 f1 f3 f4 f5
    obtain ⟨o, e, c, d⟩ := id st'
    exact ⟨u, rfl, go_of (s := { s with heap := h' }) e c d (by decide) ⟨x, H, I1, ru, ⟨rfl, fun ys hy => by rw [I.tuple_inj hy hq]; exact hx⟩, st', fun b hb => (hf b hb).1⟩⟩
  done := by
    intro X hP hw hK hc i pins s σ H E I hf st hg
    subst hP hw hK
    obtain ⟨xs, hq, hx⟩ := hg
    obtain ⟨its, rv, p, hz⟩ := I.tuple hq
    obtain ⟨f0, f1, f2, f3, f4, f5⟩ := hf it (by simp)
    have hl := rv.length
    exact wpAny_pyNext_tuple_end (I.ok.hd hc) st (show s.heap.IsTuple a its.toArray from p) (by simp; omega) fun h' eb => ⟨rfl, I.turned (t' := s.toks) (fun b o hb e => eb b o hb e) f0 f1 f3 f4 f5⟩
  self := fun _ _ _ _ _ st h => wpAny_pyIter_tupleiter st h
theorem turn_range {P : Program} {w : World} {K : PySem.W.Frag} {tg : Expr} (it : Addr) (lo : Int) (n : Nat) : Turn P w K tg (Itr lo n) [it] it (fun i h => IsRangeIter h it (lo + (i : Nat) * 1) ((n : Int) - (i : Nat)) 1) where
  mem := by simp
  obj := fun i h st b hb => by
    have e : b = it := by simpa using hb
    subst e
    exact ⟨_, st, fun v z => by
      have z' : Data.fields _ = Data.cell v := z
      cases z'⟩
  keep := fun i h h' st k => k it (by simp) _ st
  item := by
    intro X hP hw hK hc i pins s σ H E I hf st hg
    subst hP hw hK
    obtain ⟨f0, f1, f2, f3, f4, f5⟩ := hf it (by simp)
    have W := Walks.range (prog := X.prog) (w := X.w) (I.ok.hd hc) it lo 1 n
    refine W.item i s _ _ hg st fun v h' tk hv st' kk => ?_
    obtain ⟨t, rfl⟩ := hv
    have I1 : Inv X pins σ H { s with heap := h', toks := tk } := I.turned (fun b o hb e => kk b o (by simpa using hb) e) f0 f1 f3 f4 f5
    refine ⟨_, rfl, go_of (s := { s with heap := h', toks := tk }) (n := "range_iterator") st' rfl rfl (by decide) ⟨.int (lo + i), H, I1, ⟨t, ?_⟩, ⟨rfl, rfl⟩, st', fun b hb => (hf b hb).1⟩⟩
    rw [Int.mul_one]
  done := by
    intro X hP hw hK hc i pins s σ H E I hf st hg
    subst hP hw hK
    obtain ⟨f0, f1, f2, f3, f4, f5⟩ := hf it (by simp)
    exact wpAny_pyNext_range_end (I.ok.hd hc) st (by have : n ≤ i := hg; omega) fun h' eb => ⟨rfl, I.turned (t' := s.toks) (fun b o hb e => eb b o hb e) f0 f1 f3 f4 f5⟩
  self := fun _ _ _ _ _ st h => wpAny_pyIter_rangeiter st h
end L2

namespace L2
open PySem PySem.Spec PyProof.Rows
section
variable {X : Cx} {tg : Expr}
noncomputable def iList (K : PySem.W.Frag) (tl : TE) : TI := fun σ H R => tl σ H fun x H1 => ∃ a, x = .ref a ∧ (∃ xs, SqL K H1 a xs) ∧ R (Itl K a) H1
noncomputable def iTup (K : PySem.W.Frag) (tl : TE) : TI := fun σ H R => tl σ H fun x H1 => ∃ a, x = .ref a ∧ (∃ xs, SqT K H1 a xs) ∧ R (Itt K a) H1
theorem pi_list {l : Expr} {tl : TE} (hl : PE X l tl) : PI X tg l (iList X.K tl) := by
  intro pins s σ H R I h
  refine thn (hl pins s σ H _ I h) fun v s1 ⟨x, H1, I1, r1, q1⟩ => ?_
  obtain ⟨a, e, ⟨xs, hq⟩, q⟩ := q1
  subst e
  cases r1
  obtain ⟨its, rv, p, hz⟩ := I1.list hq
  refine wpAny_pyIter_list p.isList ?_
  refine ⟨s1.heap.objs.size, [s1.heap.objs.size], _, _, H1, rfl, I1.kept (t' := s1.toks) fun b o e => Heap.get?_push_of_some _ e, turn_list a _, ⟨_, Heap.get?_push_size _ rfl, rfl, rfl⟩, fun b hb => ?_, q⟩
  have e : b = s1.heap.objs.size := by simpa using hb
  subst e
  exact I1.fpOk (Nat.le_refl _) (I1.hok.fresh (Nat.le_refl _))
theorem pi_tup {l : Expr} {tl : TE} (hl : PE X l tl) : PI X tg l (iTup X.K tl) := by
  intro pins s σ H R I h
  refine thn (hl pins s σ H _ I h) fun v s1 ⟨x, H1, I1, r1, q1⟩ => ?_
  obtain ⟨a, e, ⟨xs, hq⟩, q⟩ := q1
  subst e
  cases r1
  obtain ⟨its, rv, p, hz⟩ := I1.tuple hq
  refine wpAny_pyIter_tuple (show s1.heap.IsTuple a its.toArray from p) ?_
  refine ⟨s1.heap.objs.size, [s1.heap.objs.size], _, _, H1, rfl, I1.kept (t' := s1.toks) fun b o e => Heap.get?_push_of_some _ e, turn_tuple a _, ⟨_, Heap.get?_push_size _ rfl, rfl, rfl⟩, fun b hb => ?_, q⟩
  have e : b = s1.heap.objs.size := by simpa using hb
  subst e
  exact I1.fpOk (Nat.le_refl _) (I1.hok.fresh (Nat.le_refl _))
/-- a range object just made, walked -/
theorem range_it {pins : List (Addr × Obj)} {σ : St} {H : Hp} {s : Shared} {R : It → Hp → Prop} {E : Value → Shared → Prop} {lo hi : Int} {t u v : Tok} {tk : Nat} (I : Inv X pins σ H s) (h1 : -(2 ^ 62) ≤ lo) (h2 : lo < 2 ^ 62) (h3 : -(2 ^ 62) ≤ hi) (h4 : hi < 2 ^ 62)
    (q : R (Itr lo (hi - lo).toNat) H) : wpAny (model X.prog X.w) X.A (pyIter (.ref s.heap.objs.size)) (PIE X pins σ tg R) E { s with heap := s.heap.push { cls := .type "range", data := .fields #[.int lo t, .int hi u, .int 1 v] }, toks := tk } := by
  refine wpAny_pyIter_range (IsRange.new ..) (small_one h1 h2 h3 h4) ?_
  have I1 : Inv X pins σ H { s with heap := s.heap.push { cls := .type "range", data := .fields #[.int lo t, .int hi u, .int 1 v] }, toks := tk } := I.kept fun b o e => Heap.get?_push_of_some _ e
  refine ⟨(s.heap.push { cls := .type "range", data := .fields #[.int lo t, .int hi u, .int 1 v] }).objs.size, [(s.heap.push { cls := .type "range", data := .fields #[.int lo t, .int hi u, .int 1 v] }).objs.size], _, _, H, rfl,
    I1.kept (t' := tk) fun b o e => Heap.get?_push_of_some _ e, turn_range _ lo (hi - lo).toNat, ?_, fun b hb => ?_, q⟩
  · have e1 : lo + ((0 : Nat) : Int) * 1 = lo := by simp
    have e2 : (((hi - lo).toNat : Nat) : Int) - ((0 : Nat) : Int) = Builtin.Range.rangeSize lo hi 1 := by rw [rangeSize_one]; split <;> omega
    show IsRangeIter _ _ (lo + ((0 : Nat) : Int) * 1) ((((hi - lo).toNat : Nat) : Int) - ((0 : Nat) : Int)) 1
    rw [e1, e2]
    exact Heap.get?_push_size _ rfl
  · have e : b = (s.heap.push { cls := .type "range", data := .fields #[.int lo t, .int hi u, .int 1 v] }).objs.size := by simpa using hb
    subst e
    exact I1.fpOk (Nat.le_refl _) (I1.hok.fresh (Nat.le_refl _))
noncomputable def iRng1 (ta : TA) : TI := fun σ H R => ta σ H fun vs H1 => ∃ j : Int, vs = [.int j] ∧ -(2 ^ 62) ≤ j ∧ j < 2 ^ 62 ∧ R (Itr 0 j.toNat) H1
theorem pi_range1 {a : Expr} {ta : TA} {p pos : Pos} (hg : Gl X "range") (hm : X.mg "range" = none) (ha : PA X [a] ta) (hs : starEach [a] X.env = [(false, eval a X.env)] := by rfl) : PI X tg (.Call (.Name "range" p) [a] [] pos) (iRng1 ta) := by
  intro pins s σ H R I h
  refine Call_ (ld_blt I hg hm boot_range (PyProof.Rows.callWith_type1 (thn (ha pos pins s σ H _ I h) fun us s1 ⟨vs, H1, I1, r1, q1⟩ => ?_) hs rfl))
  obtain ⟨j, e, q1, q2, q⟩ := q1
  subst e
  cases r1 with
  | cons r rr =>
    cases rr
    obtain ⟨t, rfl⟩ := r
    exact call_range_1 (range_it I1 (by omega) (by omega) q1 q2 (by simpa using q))
/-! ### for -/
/-- W: the invariant by the turn and a measure; N: what the body is to reach -/
noncomputable def tFor (wi : TI) (g : TG) (tb : TS) : TS := fun D σ H => wi σ H fun J H1 => ∃ W : Nat → Nat → St → Hp → Prop, (∃ m, W 0 m σ H1) ∧ ∀ i m σ H, W i m σ H →
  (J.stop i H ∧ D.nx σ H) ∨ (J.go i H ∧ ∃ N : St → Hp → Prop, (∀ σ' H', N σ' H' → ∃ m', m' < m ∧ W (i + 1) m' σ' H') ∧ ∀ x H', J.yld i H x H' → g x σ H' fun σ2 H2 => tb { D with nx := N, ct := N, bk := D.nx } σ2 H2)
/-- the records at fp as they stand -/
noncomputable def pinsAt (fp : List Addr) (h : Heap) : List (Addr × Obj) := fp.filterMap fun b => (h.get? b).map fun o => (b, o)
theorem mem_pinsAt {fp : List Addr} {h : Heap} {b : Addr} {o : Obj} (hb : b ∈ fp) (e : h.get? b = some o) : (b, o) ∈ pinsAt fp h := List.mem_filterMap.mpr ⟨b, hb, by rw [e]; rfl⟩
theorem of_pinsAt {fp : List Addr} {h : Heap} {p : Addr × Obj} (hp : p ∈ pinsAt fp h) : p.1 ∈ fp ∧ h.get? p.1 = some p.2 := by
  obtain ⟨b, hb, e⟩ := List.mem_filterMap.mp hp
  cases q : h.get? b with
  | none => rw [q] at e; cases e
  | some o =>
    rw [q] at e
    have e' : (b, o) = p := Option.some.inj e
    subst e'
    exact ⟨hb, q⟩
theorem Inv.pinned {pins : List (Addr × Obj)} {σ : St} {H : Hp} {s : Shared} {fp : List Addr} (I : Inv X pins σ H s) (hf : ∀ b ∈ fp, FpOk X pins H b) (ho : ∀ b ∈ fp, ∃ o, s.heap.get? b = some o ∧ ∀ v, o.data ≠ .cell v) : Inv X (pins ++ pinsAt fp s.heap) σ H s :=
  I.pins_of fun p hp => (List.mem_append.mp hp).elim (fun z => I.pin p (List.mem_append_right _ z)) fun z => by
    obtain ⟨hb, e⟩ := of_pinsAt z
    obtain ⟨f0, f1, f2, _⟩ := hf p.1 hb
    obtain ⟨o, e', d⟩ := ho p.1 hb
    rw [e] at e'; cases e'
    exact ⟨e, f0, f1, f2, d⟩
theorem Inv.unpinned {pins pl : List (Addr × Obj)} {σ : St} {H : Hp} {s : Shared} (I : Inv X (pins ++ pl) σ H s) : Inv X pins σ H s := I.pins_of fun p hp => I.pin p (List.mem_append_right _ (List.mem_append_left _ hp))
theorem ps_for {iter : Expr} {body : List Stmt} {wi : TI} {g : TG} {tb : TS} {pos : Pos} (hp : PassesOwn (model X.prog X.w) X.A X.env X.xe) (hc : X.calm = true) (hi : PI X tg iter wi) (hg : PG X tg g) (hb : PSs X body tb)
    (hs : ∀ x, foldedSetIterable iter X.env x = pure x := by intro _; rfl) : PS X (.For tg iter body [] pos) (tFor wi g tb) := by
  intro pins s σ H D I h
  refine wpAny_For (thn (hi pins s σ H _ I h) fun v s1 h1 => thn h1 fun itv s2 h2 => ?_) hs
  obtain ⟨it, fp, tn, J, H2, e, I2, T, st2, f2, W, ⟨m0, w0⟩, turn⟩ := h2
  subst e
  -- what stays true of the iterator's objects through the loop
  have stat : ∀ {H' : Hp}, (∀ b ∈ fp, H' b = none) → ∀ b ∈ fp, FpOk X pins H' b := fun hn b hb => ⟨hn b hb, (f2 b hb).2⟩
  refine codeAny_forLoop_any (fun n s' => ∃ i σ' H', Inv X pins σ' H' s' ∧ tn i s'.heap ∧ (∀ b ∈ fp, H' b = none) ∧ W i n σ' H') ?_ m0 ⟨0, σ, H2, I2, st2, fun b hb => (f2 b hb).1, w0⟩
  rintro n s3 ⟨i, σ3, H3, I3, st3, fr3, w3⟩
  rcases turn i n σ3 H3 w3 with ⟨stop, qn⟩ | ⟨go, N, hN, step⟩
  · refine wpAny_passesOwn hp (thn (T.done X rfl rfl rfl hc i pins s3 σ3 H3 X.xe I3 (stat fr3) st3 stop) fun r s4 ⟨hr, I4⟩ => ?_)
    subst hr
    exact wpAny_execs_nil ⟨σ3, H3, I4, qn⟩
  · refine wpAny_passesOwn hp (thn (T.item X rfl rfl rfl hc i pins s3 σ3 H3 X.xe I3 (stat fr3) st3 go) fun r s4 ⟨u, hr, h4⟩ => ?_)
    subst hr
    refine wpAny_passesOwn hp (thn h4 fun _ s5 ⟨x, H5, I5, r5, y5, st5, fr5⟩ => ?_)
    have I5' := I5.pinned (stat fr5) (T.obj _ _ st5)
    refine wpAny_passesOwn hp (thn (hg _ s5 σ3 H5 x u _ I5' r5 (step x H5 y5)) fun _ s6 ⟨σ6, H6, I6, q6⟩ => ?_)
    refine wpAny_passesOwn hp (thn (hb _ s6 σ6 H6 _ I6 q6) fun f s7 q7 => ?_)
    have again : ∀ {σ7 : St} {H7 : Hp}, Inv X (pins ++ pinsAt fp s5.heap) σ7 H7 s7 → N σ7 H7 → ∃ m, m < n ∧ ∃ i σ' H', Inv X pins σ' H' s7 ∧ tn i s7.heap ∧ (∀ b ∈ fp, H' b = none) ∧ W i m σ' H' := fun {σ7 H7} I7 n7 => by
      obtain ⟨m', hm, w7⟩ := hN σ7 H7 n7
      refine ⟨m', hm, i + 1, σ7, H7, I7.unpinned, T.keep _ _ _ st5 fun b hb o e => (I7.pin (b, o) (List.mem_append_right _ (List.mem_append_right _ (mem_pinsAt hb e)))).1, fun b hb => ?_, w7⟩
      obtain ⟨o, e, d⟩ := T.obj _ _ st5 b hb
      exact (I7.pin (b, o) (List.mem_append_right _ (List.mem_append_right _ (mem_pinsAt hb e)))).2.1
    cases f with
    | next => obtain ⟨σ7, H7, I7, n7⟩ := q7; exact again I7 n7
    | cont => obtain ⟨σ7, H7, I7, n7⟩ := q7; exact again I7 n7
    | brk => obtain ⟨σ7, H7, I7, q7⟩ := q7; exact ⟨σ7, H7, I7.unpinned, q7⟩
    | ret v => obtain ⟨x7, σ7, H7, I7, r7, q7⟩ := q7; exact ⟨x7, σ7, H7, I7.unpinned, r7, q7⟩
end

/-! ### the forms one uses -/
/-- over a list that the body leaves as it is -/
theorem for_list {K : PySem.W.Frag} {a : Addr} {xs : List V} {g : TG} {tb : TS} {D : Ends} {σ : St} {H : Hp} (Pv : Nat → St → Hp → Prop) (h0 : Pv 0 σ H) (hl : ∀ i σ H, i ≤ xs.length → Pv i σ H → SqL K H a xs)
    (hs : ∀ i x σ H, xs[i]? = some x → Pv i σ H → g x σ H fun σ2 H2 => tb { D with nx := Pv (i + 1), ct := Pv (i + 1), bk := D.nx } σ2 H2) (hd : ∀ σ H, Pv xs.length σ H → D.nx σ H) :
    ∃ W : Nat → Nat → St → Hp → Prop, (∃ m, W 0 m σ H) ∧ ∀ i m σ H, W i m σ H →
      ((Itl K a).stop i H ∧ D.nx σ H) ∨ ((Itl K a).go i H ∧ ∃ N : St → Hp → Prop, (∀ σ' H', N σ' H' → ∃ m', m' < m ∧ W (i + 1) m' σ' H') ∧ ∀ x H', (Itl K a).yld i H x H' → g x σ H' fun σ2 H2 => tb { D with nx := N, ct := N, bk := D.nx } σ2 H2) := by
  refine ⟨fun i m σ H => m = xs.length - i ∧ i ≤ xs.length ∧ Pv i σ H, ⟨xs.length, by simp, Nat.zero_le _, h0⟩, ?_⟩
  rintro i m σ H ⟨rfl, hi, p⟩
  have q := hl i σ H hi p
  by_cases hlt : i < xs.length
  · refine .inr ⟨⟨xs, xs[i], q, by simp [hlt]⟩, Pv (i + 1), fun σ' H' p' => ⟨xs.length - (i + 1), by omega, rfl, hlt, p'⟩, fun x H' y => ?_⟩
    obtain ⟨e, y⟩ := y
    subst e
    exact hs i x σ _ (y xs q) p
  · have e : i = xs.length := by omega
    subst e
    exact .inl ⟨⟨xs, q, Nat.le_refl _⟩, hd σ H p⟩
theorem for_tup {K : PySem.W.Frag} {a : Addr} {xs : List V} {g : TG} {tb : TS} {D : Ends} {σ : St} {H : Hp} (Pv : Nat → St → Hp → Prop) (h0 : Pv 0 σ H) (hl : ∀ i σ H, i ≤ xs.length → Pv i σ H → SqT K H a xs)
    (hs : ∀ i x σ H, xs[i]? = some x → Pv i σ H → g x σ H fun σ2 H2 => tb { D with nx := Pv (i + 1), ct := Pv (i + 1), bk := D.nx } σ2 H2) (hd : ∀ σ H, Pv xs.length σ H → D.nx σ H) :
    ∃ W : Nat → Nat → St → Hp → Prop, (∃ m, W 0 m σ H) ∧ ∀ i m σ H, W i m σ H →
      ((Itt K a).stop i H ∧ D.nx σ H) ∨ ((Itt K a).go i H ∧ ∃ N : St → Hp → Prop, (∀ σ' H', N σ' H' → ∃ m', m' < m ∧ W (i + 1) m' σ' H') ∧ ∀ x H', (Itt K a).yld i H x H' → g x σ H' fun σ2 H2 => tb { D with nx := N, ct := N, bk := D.nx } σ2 H2) := by
  refine ⟨fun i m σ H => m = xs.length - i ∧ i ≤ xs.length ∧ Pv i σ H, ⟨xs.length, by simp, Nat.zero_le _, h0⟩, ?_⟩
  rintro i m σ H ⟨rfl, hi, p⟩
  have q := hl i σ H hi p
  by_cases hlt : i < xs.length
  · refine .inr ⟨⟨xs, xs[i], q, by simp [hlt]⟩, Pv (i + 1), fun σ' H' p' => ⟨xs.length - (i + 1), by omega, rfl, hlt, p'⟩, fun x H' y => ?_⟩
    obtain ⟨e, y⟩ := y
    subst e
    exact hs i x σ _ (y xs q) p
  · have e : i = xs.length := by omega
    subst e
    exact .inl ⟨⟨xs, q, Nat.le_refl _⟩, hd σ H p⟩
theorem for_range {lo : Int} {n : Nat} {g : TG} {tb : TS} {D : Ends} {σ : St} {H : Hp} (Pv : Nat → St → Hp → Prop) (h0 : Pv 0 σ H)
    (hs : ∀ i σ H, i < n → Pv i σ H → g (.int (lo + i)) σ H fun σ2 H2 => tb { D with nx := Pv (i + 1), ct := Pv (i + 1), bk := D.nx } σ2 H2) (hd : ∀ σ H, Pv n σ H → D.nx σ H) :
    ∃ W : Nat → Nat → St → Hp → Prop, (∃ m, W 0 m σ H) ∧ ∀ i m σ H, W i m σ H →
      ((Itr lo n).stop i H ∧ D.nx σ H) ∨ ((Itr lo n).go i H ∧ ∃ N : St → Hp → Prop, (∀ σ' H', N σ' H' → ∃ m', m' < m ∧ W (i + 1) m' σ' H') ∧ ∀ x H', (Itr lo n).yld i H x H' → g x σ H' fun σ2 H2 => tb { D with nx := N, ct := N, bk := D.nx } σ2 H2) := by
  refine ⟨fun i m σ H => m = n - i ∧ i ≤ n ∧ Pv i σ H, ⟨n, by simp, Nat.zero_le _, h0⟩, ?_⟩
  rintro i m σ H ⟨rfl, hi, p⟩
  by_cases hlt : i < n
  · refine .inr ⟨hlt, Pv (i + 1), fun σ' H' p' => ⟨n - (i + 1), by omega, rfl, hlt, p'⟩, fun x H' y => ?_⟩
    obtain ⟨e, y⟩ := y
    subst e y
    exact hs i σ _ hlt p
  · have e : i = n := by omega
    subst e
    exact .inl ⟨Nat.le_refl _, hd σ H p⟩
end L2

namespace L2
open PySem PySem.Spec PyProof.Rows

noncomputable abbrev R2 := V → V → Hp → VK → Prop
/-- a two-place operation on values: f is binaryOp op, inplaceOp op or compareOp op -/
noncomputable def OpR (X : Cx) (f : Value → Value → Sem Value) (r : R2) : Prop :=
  ∀ (pins : List (Addr × Obj)) (s : Shared) (σ : St) (H : Hp) (x y : V) (v u : Value) (Q : VK), Inv X pins σ H s → RelV x v → RelV y u → r x y H Q →
    wpAny (model X.prog X.w) X.A (f v u) (EP X pins σ Q) X.xe s
/-- a call of a value that is known (a builtin, a type) with values -/
noncomputable def CallR (X : Cx) (f : Value) (r : List V → Hp → VK → Prop) : Prop :=
  ∀ (pins : List (Addr × Obj)) (s : Shared) (σ : St) (H : Hp) (xs : List V) (us : List Value) (Q : VK), Inv X pins σ H s → Vals xs us → r xs H Q →
    wpAny (model X.prog X.w) X.A (call f us) (EP X pins σ Q) X.xe s
noncomputable def tOp (r : R2) (ta tb : TE) : TE := fun σ H Q => ta σ H fun x H1 => tb σ H1 fun y H2 => r x y H2 Q
/-- ints in, under C, and a value out -/
noncomputable def rI (C : Int → Int → Prop) (g : Int → Int → V) : R2 := fun x y H Q => ∃ i j, x = .int i ∧ y = .int j ∧ C i j ∧ Q (g i j) H
noncomputable def rI0 (g : Int → Int → V) : R2 := fun x y H Q => ∃ i j, x = .int i ∧ y = .int j ∧ Q (g i j) H
section
variable {X : Cx} {a b c : Expr} {ta tb tc : TE} {pos : Pos}

theorem binT (ha : PE X a ta) (hb : PE X b tb) {pins : List (Addr × Obj)} {s : Shared} {σ : St} {H : Hp} {R : V → V → Hp → Prop} (I : Inv X pins σ H s)
    (h : ta σ H fun x H1 => tb σ H1 fun y H2 => R x y H2) {Q : Value → Shared → Prop} {f : Value → Value → Sem Value}
    (hf : ∀ v u s2 x y H2, Inv X pins σ H2 s2 → RelV x v → RelV y u → R x y H2 → wpAny (model X.prog X.w) X.A (f v u) Q X.xe s2) :
    wpAny (model X.prog X.w) X.A (eval a X.env) (fun v s₁ => wpAny (model X.prog X.w) X.A (eval b X.env) (fun u s₂ => wpAny (model X.prog X.w) X.A (f v u) Q X.xe s₂) X.xe s₁) X.xe s := by
  refine thn (ha pins s σ H _ I h) fun v s1 ⟨x, H1, I1, r1, q1⟩ => ?_
  refine thn (hb pins s1 σ H1 _ I1 q1) fun u s2 ⟨y, H2, I2, r2, q2⟩ => ?_
  exact hf v u s2 x y H2 I2 r1 r2 q2

theorem pe_op {op : Operator} {r : R2} (ho : OpR X (binaryOp op) r) (ha : PE X a ta) (hb : PE X b tb) : PE X (.BinOp a op b pos) (tOp r ta tb) := by
  intro pins s σ H Q I h
  exact wpAny_BinOp (binT ha hb I h fun v u s2 x y H2 I2 rx ry q => ho pins s2 σ H2 x y v u Q I2 rx ry q)
/-! ### ints -/
theorem opI {f : Value → Value → Sem Value} {C : Int → Int → Prop} {g : Int → Int → Int}
    (rule : ∀ (i j : Int) (t u : Tok) (s : Shared) (Q : Value → Shared → Prop) (E : Value → Shared → Prop), C i j → Q (.int (g i j) s.toks) { s with toks := s.toks + 1 } → wpAny (model X.prog X.w) X.A (f (.int i t) (.int j u)) Q E s) :
    OpR X f (rI C fun i j => .int (g i j)) := by
  intro pins s σ H x y v u Q I rx ry h
  obtain ⟨i, j, rfl, rfl, hc, q⟩ := h
  obtain ⟨t, rfl⟩ := rx
  obtain ⟨t', rfl⟩ := ry
  exact rule i j t t' s _ _ hc ⟨.int (g i j), H, I.tok _, ⟨_, rfl⟩, q⟩
theorem opI0 {f : Value → Value → Sem Value} {g : Int → Int → Int}
    (rule : ∀ (i j : Int) (t u : Tok) (s : Shared) (Q : Value → Shared → Prop) (E : Value → Shared → Prop), Q (.int (g i j) s.toks) { s with toks := s.toks + 1 } → wpAny (model X.prog X.w) X.A (f (.int i t) (.int j u)) Q E s) :
    OpR X f (rI0 fun i j => .int (g i j)) := by
  intro pins s σ H x y v u Q I rx ry h
  obtain ⟨i, j, rfl, rfl, q⟩ := h
  obtain ⟨t, rfl⟩ := rx
  obtain ⟨t', rfl⟩ := ry
  exact rule i j t t' s _ _ ⟨.int (g i j), H, I.tok _, ⟨_, rfl⟩, q⟩
theorem opB0 {f : Value → Value → Sem Value} {g : Int → Int → Bool}
    (rule : ∀ (i j : Int) (t u : Tok) (s : Shared) (Q : Value → Shared → Prop) (E : Value → Shared → Prop), Q (.bool (g i j)) s → wpAny (model X.prog X.w) X.A (f (.int i t) (.int j u)) Q E s) :
    OpR X f (rI0 fun i j => .bl (g i j)) := by
  intro pins s σ H x y v u Q I rx ry h
  obtain ⟨i, j, rfl, rfl, q⟩ := h
  obtain ⟨t, rfl⟩ := rx
  obtain ⟨t', rfl⟩ := ry
  exact rule i j t t' s _ _ ⟨.bl (g i j), H, I, rfl, q⟩

noncomputable def CPow (i j : Int) : Prop := 0 ≤ j ∧ j ≤ 1000000 ∧ i.natAbs < 2 ^ 64
noncomputable def CMul (i j : Int) : Prop := (-(2 ^ 64) < i ∧ i < 2 ^ 64) ∨ (-(2 ^ 64) < j ∧ j < 2 ^ 64)
theorem CMul.ok {i j : Int} (h : CMul i j) : IntMulOk i j := by
  rcases h with ⟨h1, h2⟩ | ⟨h1, h2⟩
  · exact .of_left (intBits_le_64 h1 h2)
  · exact .of_right (intBits_le_64 h1 h2)
theorem op_add : OpR X (binaryOp .Add) (rI0 fun i j => .int (i + j)) := opI0 fun _ _ _ _ _ _ _ q => add_int q
theorem op_sub : OpR X (binaryOp .Sub) (rI0 fun i j => .int (i - j)) := opI0 fun _ _ _ _ _ _ _ q => sub_int q
theorem op_mul : OpR X (binaryOp .Mult) (rI CMul fun i j => .int (i * j)) := opI fun _ _ _ _ _ _ _ hc q => mul_int q hc.ok
/-- % by a positive divisor of any size -/
theorem op_mod : OpR X (binaryOp .Mod) (rI (fun _ j => 0 < j) fun i j => .int (i % j)) := opI fun i j _ _ _ _ _ hc q => by
  have h1 : (0 : Int) < j := hc
  exact mod_int' (by omega) (by rw [Int.fmod_eq_emod_of_nonneg i (by omega)]; exact q)
theorem op_pow : OpR X (binaryOp .Pow) (rI CPow fun i j => .int (i ^ j.toNat)) := opI fun _ _ _ _ _ _ _ hc q => pow_int_small hc.1 hc.2.1 hc.2.2 q
/-! ### bools among ints: n += (a < b) -/
end

/-! ### comparisons -/
/-- the scalars that == tells apart as data does -/
noncomputable def scal : V → V → Bool
  | .non, .non => true | .non, .int _ => true | .int _, .non => true | .non, .bl _ => true | .bl _, .non => true | .non, .str _ => true | .str _, .non => true
  | .int _, .int _ => true | .bl _, .bl _ => true | .str _, .str _ => true | .byt _, .byt _ => true
  | .int _, .str _ => true | .str _, .int _ => true | .bl _, .str _ => true | .str _, .bl _ => true
  | _, _ => false
noncomputable def rEq : R2 := fun x y H Q => scal x y = true ∧ Q (.bl (decide (x = y))) H
noncomputable def rNe : R2 := fun x y H Q => scal x y = true ∧ Q (.bl (!decide (x = y))) H

theorem dec_int {i j : Int} : decide (V.int i = V.int j) = (i == j) := by
  rw [Bool.eq_iff_iff]
  simp
theorem dec_bl {i j : Bool} : decide (V.bl i = V.bl j) = (i == j) := by
  rw [Bool.eq_iff_iff]
  simp
theorem dec_str {i j : Str} : decide (V.str i = V.str j) = (i == j) := by
  rw [Bool.eq_iff_iff]
  simp
theorem dec_byt {i j : Array UInt8} : decide (V.byt i = V.byt j) = (i.toList == j.toList) := by
  rw [Bool.eq_iff_iff]
  cases i
  cases j
  simp

section
variable {X : Cx} {a b c : Expr} {ta tb tc : TE} {pos : Pos}
theorem fin_bl {pins : List (Addr × Obj)} {σ : St} {H : Hp} {s : Shared} {Q : VK} {k k' : Bool} (I : Inv X pins σ H s) (q : Q (.bl k) H) (e : k = k') : EP X pins σ Q (.bool k') s := by
  subst e
  exact ⟨.bl k, H, I, rfl, q⟩
theorem op_eq : OpR X (compareOp .Eq) rEq := by
  intro pins s σ H x y v u Q I rx ry h
  obtain ⟨hs, q⟩ := h
  cases x with
  | non =>
    cases rx
    cases y with
    | non => cases ry; exact PySem.EqNone.eq_none_none (fin_bl I q (by simp))
    | bl j => cases ry; exact PySem.EqNone.eq_none_bool (fin_bl I q (by simp))
    | int j => obtain ⟨t', rfl⟩ := ry; exact PySem.EqNone.eq_none_int (fin_bl I q (by simp))
    | str j => obtain ⟨t', rfl⟩ := ry; exact PySem.EqNone.eq_none_str (fin_bl I q (by simp))
    | _ => exact absurd (show false = true from hs) Bool.false_ne_true
  | bl i =>
    cases rx
    cases y with
    | non => cases ry; exact PySem.EqNone.eq_bool_none (fin_bl I q (by simp))
    | bl j => cases ry; exact eq_bool (fin_bl I q dec_bl)
    | str j => obtain ⟨t', rfl⟩ := ry; exact PySem.EqMixed.eq_bool_str (fin_bl I q (by simp))
    | _ => exact absurd (show false = true from hs) Bool.false_ne_true
  | int i =>
    obtain ⟨t, rfl⟩ := rx
    cases y with
    | non => cases ry; exact PySem.EqNone.eq_int_none (fin_bl I q (by simp))
    | int j => obtain ⟨t', rfl⟩ := ry; exact eq_int (fin_bl I q dec_int)
    | str j => obtain ⟨t', rfl⟩ := ry; exact PySem.EqMixed.eq_int_str (fin_bl I q (by simp))
    | _ => exact absurd (show false = true from hs) Bool.false_ne_true
  | str i =>
    obtain ⟨t, rfl⟩ := rx
    cases y with
    | non => cases ry; exact PySem.EqNone.eq_str_none (fin_bl I q (by simp))
    | bl j => cases ry; exact PySem.EqMixed.eq_str_bool (fin_bl I q (by simp))
    | int j => obtain ⟨t', rfl⟩ := ry; exact PySem.EqMixed.eq_str_int (fin_bl I q (by simp))
    | str j => obtain ⟨t', rfl⟩ := ry; exact eq_str (fin_bl I q dec_str)
    | _ => exact absurd (show false = true from hs) Bool.false_ne_true
  | byt i =>
    obtain ⟨t, rfl⟩ := rx
    cases y with
    | byt j => obtain ⟨t', rfl⟩ := ry; exact PySem.W.eq_bytes (fin_bl I q dec_byt)
    | _ => exact absurd (show false = true from hs) Bool.false_ne_true
  | _ => cases y <;> exact absurd (show false = true from hs) Bool.false_ne_true
theorem op_ne : OpR X (compareOp .NotEq) rNe := by
  intro pins s σ H x y v u Q I rx ry h
  obtain ⟨hs, q⟩ := h
  cases x with
  | non =>
    cases rx
    cases y with
    | non => cases ry; exact PySem.EqNone.ne_none_none (fin_bl I q (by simp))
    | bl j => cases ry; exact PySem.EqNone.ne_none_bool (fin_bl I q (by simp))
    | int j => obtain ⟨t', rfl⟩ := ry; exact PySem.EqNone.ne_none_int (fin_bl I q (by simp))
    | str j => obtain ⟨t', rfl⟩ := ry; exact PySem.EqNone.ne_none_str (fin_bl I q (by simp))
    | _ => exact absurd (show false = true from hs) Bool.false_ne_true
  | bl i =>
    cases rx
    cases y with
    | non => cases ry; exact PySem.EqNone.ne_bool_none (fin_bl I q (by simp))
    | bl j => cases ry; exact ne_bool (fin_bl I q (congrArg not dec_bl))
    | str j => obtain ⟨t', rfl⟩ := ry; exact PySem.EqMixed.ne_bool_str (fin_bl I q (by simp))
    | _ => exact absurd (show false = true from hs) Bool.false_ne_true
  | int i =>
    obtain ⟨t, rfl⟩ := rx
    cases y with
    | non => cases ry; exact PySem.EqNone.ne_int_none (fin_bl I q (by simp))
    | int j => obtain ⟨t', rfl⟩ := ry; exact ne_int (fin_bl I q (congrArg not dec_int))
    | str j => obtain ⟨t', rfl⟩ := ry; exact PySem.EqMixed.ne_int_str (fin_bl I q (by simp))
    | _ => exact absurd (show false = true from hs) Bool.false_ne_true
  | str i =>
    obtain ⟨t, rfl⟩ := rx
    cases y with
    | non => cases ry; exact PySem.EqNone.ne_str_none (fin_bl I q (by simp))
    | bl j => cases ry; exact PySem.EqMixed.ne_str_bool (fin_bl I q (by simp))
    | int j => obtain ⟨t', rfl⟩ := ry; exact PySem.EqMixed.ne_str_int (fin_bl I q (by simp))
    | str j => obtain ⟨t', rfl⟩ := ry; exact ne_str (fin_bl I q (congrArg not dec_str))
    | _ => exact absurd (show false = true from hs) Bool.false_ne_true
  | byt i =>
    obtain ⟨t, rfl⟩ := rx
    cases y with
    | byt j => obtain ⟨t', rfl⟩ := ry; exact PySem.W.ne_bytes (fin_bl I q (congrArg not dec_byt))
    | _ => exact absurd (show false = true from hs) Bool.false_ne_true
  | _ => cases y <;> exact absurd (show false = true from hs) Bool.false_ne_true

theorem op_lt : OpR X (compareOp .Lt) (rI0 fun i j => .bl (decide (i < j))) := opB0 fun _ _ _ _ _ _ _ q => lt_int q
theorem op_le : OpR X (compareOp .LtE) (rI0 fun i j => .bl (decide (i ≤ j))) := opB0 fun _ _ _ _ _ _ _ q => le_int q
theorem op_gt : OpR X (compareOp .Gt) (rI0 fun i j => .bl (decide (j < i))) := opB0 fun _ _ _ _ _ _ _ q => gt_int q
theorem op_ge : OpR X (compareOp .GtE) (rI0 fun i j => .bl (decide (j ≤ i))) := opB0 fun _ _ _ _ _ _ _ q => ge_int q
theorem op_lt_str : OpR X (compareOp .Lt) (fun x y H Q => ∃ i j, x = .str i ∧ y = .str j ∧ Q (.bl (decide (i.cps.toList < j.cps.toList))) H) := by
  intro pins s σ H x y v u Q I rx ry h
  obtain ⟨i, j, rfl, rfl, q⟩ := h
  obtain ⟨t, rfl⟩ := rx
  obtain ⟨t', rfl⟩ := ry
  exact lt_str (fin_bl I q rfl)
/-- two rules for one operation: by cases -/
theorem OpR.or {f : Value → Value → Sem Value} {r r' : R2} (h : OpR X f r) (h' : OpR X f r') : OpR X f (fun x y H Q => r x y H Q ∨ r' x y H Q) := by
  intro pins s σ H x y v u Q I rx ry q
  rcases q with q | q
  · exact h pins s σ H x y v u Q I rx ry q
  · exact h' pins s σ H x y v u Q I rx ry q

theorem nomark (b : Expr) {op : CmpOp} (h : op ≠ .In := by decide) (h2 : op ≠ .NotIn := by decide) : behindInMarks op b = false := by
  have e1 : (op == CmpOp.In) = false := by cases op <;> first | rfl | exact absurd rfl h
  have e2 : (op == CmpOp.NotIn) = false := by cases op <;> first | rfl | exact absurd rfl h2
  cases b <;> simp [behindInMarks, e1, e2]
/-- a comparison as a value; hm: nomark b, or (for in, not in) by with_unfolding_all rfl -/
theorem pe_cmpR {op : CmpOp} {r : R2} (ho : OpR X (compareOp op) r) (ha : PE X a ta) (hb : PE X b tb) (hm : behindInMarks op b = false) : PE X (.Compare a [op] [b] pos) (tOp r ta tb) := by
  intro pins s σ H Q I h
  exact wpAny_Compare1 (binT ha hb I h fun v u s2 x y H2 I2 rx ry q => ho pins s2 σ H2 x y v u Q I2 rx ry q) hm
/-- a reading of a value as a test -/
noncomputable def tTest (t : TE) : TT := fun σ H Q => t σ H fun x H' => ∃ k, x = .bl k ∧ Q k H'
theorem pt_cmpR {op : CmpOp} {r : R2} (ho : OpR X (compareOp op) r) (ha : PE X a ta) (hb : PE X b tb) (hm : behindInMarks op b = false) : PT X (.Compare a [op] [b] pos) (tTest (tOp r ta tb)) := by
  intro pins s σ H Q I h
  refine wpAny_isTrue_Compare1 (thn (ha pins s σ H _ I h) fun v s1 ⟨x, H1, I1, r1, q1⟩ => thn (hb pins s1 σ H1 _ I1 q1) fun u s2 ⟨y, H2, I2, r2, q2⟩ =>
    thn (ho pins s2 σ H2 x y v u _ I2 r1 r2 q2) fun c s3 ⟨z, H3, I3, r3, k, e, q3⟩ => ?_) hm
  subst e
  cases r3
  exact wpAny_truthy_bool ⟨H3, I3, q3⟩
/-- a op1 b op2 c -/
noncomputable def tChain (r r' : R2) (ta tb tc : TE) : TE := fun σ H Q => ta σ H fun x H1 => tb σ H1 fun y H2 => r x y H2 fun z H3 => ∃ k, z = .bl k ∧
  (if k = true then tc σ H3 fun w' H4 => r' y w' H4 Q else Q (.bl false) H3)
theorem pe_chain {op op' : CmpOp} {r r' : R2} (ho : OpR X (compareOp op) r) (ho' : OpR X (compareOp op') r') (ha : PE X a ta) (hb : PE X b tb) (hc : PE X c tc)
    (hm : lastMarks [op, op'] [b, c] = false := by with_unfolding_all rfl) : PE X (.Compare a [op, op'] [b, c] pos) (tChain r r' ta tb tc) := by
  intro pins s σ H Q I h
  refine Compare_chain (thn (ha pins s σ H _ I h) fun v s1 ⟨x, H1, I1, r1, q1⟩ => chain_link (thn (hb pins s1 σ H1 _ I1 q1) fun u s2 ⟨y, H2, I2, r2, q2⟩ =>
    thn (ho pins s2 σ H2 x y v u _ I2 r1 r2 q2) fun d s3 ⟨z, H3, I3, r3, k, e, q3⟩ => ?_)) hm
  subst e
  cases r3
  refine wpAny_truthy_bool ?_
  cases k with
  | false => exact ite_ff ⟨.bl false, H3, I3, rfl, q3⟩
  | true => exact ite_tt (chain_last (thn (hc pins s3 σ H3 _ I3 q3) fun w' s4 ⟨z', H4, I4, r4, q4⟩ => ho' pins s4 σ H4 y z' u w' Q I4 r2 r4 q4))
/-! ### truth -/
theorem line63 : (sizeLine : Nat) < 2 ^ 63 := by rw [sizeLine_eq]; decide
/-! ### strs and bytes -/
theorem op_add_str : OpR X (binaryOp .Add) (fun x y H Q => ∃ i j, x = .str i ∧ y = .str j ∧ i.length + j.length ≤ sizeLine ∧ Q (.str (i ++ j)) H) := by
  intro pins s σ H x y v u Q I rx ry h
  obtain ⟨i, j, rfl, rfl, hz, q⟩ := h
  obtain ⟨t, rfl⟩ := rx
  obtain ⟨t', rfl⟩ := ry
  exact add_str (fun t' tk => ⟨.str (i ++ j), H, I.tok _, ⟨_, rfl⟩, q⟩) hz
/-! ### scalar builtins, by CallR -/
theorem vals1 {x : V} {us : List Value} (r : Vals [x] us) : ∃ u, us = [u] ∧ RelV x u := by
  cases r with
  | cons r1 r2 => cases r2; exact ⟨_, rfl, r1⟩
theorem vals2 {x y : V} {us : List Value} (r : Vals [x, y] us) : ∃ u w', us = [u, w'] ∧ RelV x u ∧ RelV y w' := by
  cases r with
  | cons r1 r2 =>
    cases r2 with
    | cons r3 r4 => cases r4; exact ⟨_, _, rfl, r1, r3⟩
theorem call_max2 (hc : X.calm = true) : CallR X (.builtin "max") (fun xs H Q => ∃ i j, xs = [.int i, .int j] ∧ Q (.int (if j > i then j else i)) H) := by
  intro pins s σ H xs us Q I r h
  obtain ⟨i, j, rfl, q⟩ := h
  obtain ⟨u, w', rfl, ⟨t, rfl⟩, ⟨t', rfl⟩⟩ := vals2 r
  refine max_two_ints (I.ok.hd hc) fun h' tk k => ⟨_, H, I.kept k, ?_, q⟩
  by_cases hj : j > i
  · rw [if_pos hj, if_pos hj]; exact ⟨_, rfl⟩
  · rw [if_neg hj, if_neg hj]; exact ⟨_, rfl⟩
theorem call_min2 (hc : X.calm = true) : CallR X (.builtin "min") (fun xs H Q => ∃ i j, xs = [.int i, .int j] ∧ Q (.int (if j < i then j else i)) H) := by
  intro pins s σ H xs us Q I r h
  obtain ⟨i, j, rfl, q⟩ := h
  obtain ⟨u, w', rfl, ⟨t, rfl⟩, ⟨t', rfl⟩⟩ := vals2 r
  refine min_two_ints (I.ok.hd hc) fun h' tk k => ⟨_, H, I.kept k, ?_, q⟩
  by_cases hj : j < i
  · rw [if_pos hj, if_pos hj]; exact ⟨_, rfl⟩
  · rw [if_neg hj, if_neg hj]; exact ⟨_, rfl⟩
theorem call_int1 : CallR X (.type "int") (fun xs H Q => (∃ i, xs = [.int i] ∧ Q (.int i) H) ∨ ∃ k, xs = [.bl k] ∧ Q (.int (if k then 1 else 0)) H) := by
  intro pins s σ H xs us Q I r h
  rcases h with ⟨i, rfl, q⟩ | ⟨k, rfl, q⟩
  · obtain ⟨u, rfl, t, rfl⟩ := vals1 r
    exact call_int_int ⟨.int i, H, I, ⟨_, rfl⟩, q⟩
  · obtain ⟨u, rfl, r1⟩ := vals1 r
    cases r1
    exact call_int_bool ⟨.int (if k then 1 else 0), H, I.tok _, ⟨_, rfl⟩, q⟩
theorem call_ord : CallR X (.builtin "ord") (fun xs H Q => ∃ x, xs = [.str x] ∧ x.length = 1 ∧ Q (.int (x.cps.getD 0 0 : Nat)) H) := by
  intro pins s σ H xs us Q I r h
  obtain ⟨x, rfl, hz, q⟩ := h
  obtain ⟨u, rfl, t, rfl⟩ := vals1 r
  exact ord_of_one hz ⟨.int _, H, I.tok _, ⟨_, rfl⟩, q⟩
end
end L2

namespace L2
open PySem PySem.Spec PyProof.Rows

/-! ### an instance, its attributes a map -/
structure ObjM (h : Heap) (x dx C : Addr) (mA : Str → Option Value) : Prop where
  obj : h.get? x = some (PySem.W.instObj C dx)
  ns : h.Ns1 dx mA
  ne : dx ≠ x

theorem lookIn_ns {h : Heap} {dx : Addr} {mA : Str → Option Value} (n : h.Ns1 dx mA) : ∃ od, h.get? dx = some od ∧ ∀ name, PySem.W.lookIn name od = some (mA name) := by
  obtain ⟨o, es, ep, ho, hd, hk, _, hm⟩ := n
  refine ⟨o, ho, fun name => ?_⟩
  have e := hm name
  unfold nsFind findBy at e
  rw [← Array.find?_toList] at e
  unfold PySem.W.lookIn
  rw [hd]
  dsimp only
  split
  · rename_i y q
    rw [q] at e
    exact congrArg some e
  · rename_i q
    rw [q] at e
    have a : es.toList.any (·.refKey) = false := by
      rw [List.any_eq_false]
      intro y hy
      obtain ⟨z, t, hkey⟩ := hk y (Array.mem_toList_iff.mp hy)
      simp [DictEntry.refKey, hkey]
    have a' : ¬ es.toList.any (·.refKey) = true := by rw [a]; exact Bool.false_ne_true
    rw [if_neg a']
    exact congrArg some e

theorem ObjM.look {h : Heap} {x dx C : Addr} {mA : Str → Option Value} (I : ObjM h x dx C mA) : ∃ od, PySem.W.InstAt h x (PySem.W.instObj C dx) C (some od) ∧ ∀ name, PySem.W.lookIn name od = some (mA name) :=
  let ⟨od, ho, hl⟩ := lookIn_ns I.ns
  ⟨od, ⟨I.obj, rfl, rfl, ho⟩, hl⟩

section
variable {prog : Program} {w : World} {A : Around} {E : Value → Shared → Prop} {s : Shared} {K : PySem.W.Frag} {x dx C f : Addr} {mA : Str → Option Value} {name : Str} {v : Value}

end

/-! ### the attributes as a list of pairs -/
theorem RelO.some_of {v : V} {o : Option Value} (r : RelO (some v) o) : ∃ u, o = some u ∧ RelV v u := by
  cases o with
  | none => exact (show False from r).elim
  | some u => exact ⟨u, rfl, r⟩
section
variable {P : Program} {w : World} {H H' : Hp} {h h' : Heap} {a C dx : Addr} {fs fs' : List (Str × V)}
end

/-! ### what of the text a class must have -/
structure Cls (K : PySem.W.Frag) (C : Addr) : Prop where
  pg : PySem.W.plainGet K C Str.empty = true
  hd : PySem.W.hasDictIn K C = true
  po : PySem.W.plainOver K C = true
  sa : PySem.W.findIn K (.ref C) "__setattr__" = some (some (.builtin "object.__setattr__"))
theorem Cls.get {K : PySem.W.Frag} {C : Addr} (c : Cls K C) (f : Str) : PySem.W.plainGet K C f = true := c.pg
section
variable {X : Cx} {pins : List (Addr × Obj)} {σ : St} {H : Hp} {s : Shared} {a C dx : Addr} {fs : List (Str × V)} {f : Str} {v : V} {A : Around} {E : Value → Shared → Prop}

end

/-! ### readings and rules -/
section
variable {X : Cx} {o e value : Expr} {f : Str} {pos pos' tpos : Pos} {ta tv : TE}
end

/-! ### isinstance -/
section
variable {X : Cx} {pins : List (Addr × Obj)} {σ : St} {H : Hp} {s : Shared} {A : Around} {E : Value → Shared → Prop} {Q : Value → Shared → Prop} {c : Value} {b : Bool}
end
end L2

namespace L2
open PySem PySem.Spec PyProof.Rows

/-! ### room -/
structure Room (k : Nat) (A : Around) : Prop where
  hd : A.handled = none
  dp : A.depth + 3 * k + 5 < recursionLimit
  un : A.units + 16 * k + 200 < cLine
theorem Room.mono {j k : Nat} {A : Around} (r : Room k A) (h : j ≤ k) : Room j A := ⟨r.hd, by have := r.dp; omega, by have := r.un; omega⟩
theorem Room.deeper {k : Nat} {A : Around} (r : Room (k + 1) A) (env : Env) : Room k (A.deeper env) :=
  ⟨r.hd, by have := r.dp; show A.depth + 1 + 3 * k + 5 < _; omega, by have := r.un; show A.units + 3 + 16 * k + 200 < _; omega⟩
theorem Room.in1 {k : Nat} {A : Around} (r : Room (k + 1) A) : Room k A.in1 :=
  ⟨r.hd, by have := r.dp; show A.depth + 3 * k + 5 < _; omega, by have := r.un; show A.units + 1 + 16 * k + 200 < _; omega⟩
theorem Room.depth {k : Nat} {A : Around} (r : Room k A) : A.depth < recursionLimit := by have := r.dp; omega
theorem Room.units {k : Nat} {A : Around} (r : Room k A) : A.units + 64 < cLine := by have := r.un; omega
/-! ### argument lists and displays -/
noncomputable def tNil : TA := fun _ H Q => Q [] H
noncomputable def tCons (ta : TE) (tr : TA) : TA := fun σ H Q => ta σ H fun x H1 => tr σ H1 fun xs H2 => Q (x :: xs) H2
section
variable {X : Cx} {e : Expr} {es : List Expr} {te : TE} {t : TA} {pos : Pos}
theorem pa_nil : PA X [] tNil := fun _ _ _ _ H Q I h => Calls.spliced_nil ⟨[], H, I, .nil, h⟩
theorem pa_cons (ha : PE X e te) (hr : PA X es t) (hs : starEach (e :: es) X.env = (false, eval e X.env) :: starEach es X.env := by rfl) : PA X (e :: es) (tCons te t) := by
  intro pos pins s σ H Q I h
  rw [hs]
  show wpAny _ _ (spliced ((false, eval e X.env) :: backTo pos (starEach es X.env))) _ _ s
  refine Calls.spliced_cons (thn (ha pins s σ H _ I h) fun u s1 ⟨x, H1, I1, r1, q1⟩ => ?_)
  exact thn (hr pos pins s1 σ H1 _ I1 q1) fun us s2 ⟨xs, H2, I2, r2, q2⟩ => ⟨x :: xs, H2, I2, .cons r1 r2, q2⟩

noncomputable def tLst (t : TA) : TE := fun σ H Q => t σ H fun xs H1 => xs.length ≤ sizeLine ∧ ∀ p, H1 p = none → Q (.ref p) (upd H1 p (.lst xs))
theorem pe_lst (h : PA X es t) : PE X (.List es pos) (tLst t) := by
  intro pins s σ H Q I hq
  refine wpAny_List_spliced (thn (h pos pins s σ H _ I hq) fun us s1 ⟨xs, H1, I1, r, z, q⟩ => ⟨by rw [← r.length]; exact z, ?_⟩)
  have hf : H1 s1.heap.objs.size = none := I1.hok.fresh (Nat.le_refl _)
  refine ⟨.ref s1.heap.objs.size, upd H1 s1.heap.objs.size (.lst xs), I1.laid (t' := s1.toks) (fun b u e => Heap.get?_push_of_some _ e) (Nat.le_refl _) ?_, rfl, q _ hf⟩
  exact ⟨z, us, 0, r, Heap.get?_push_size _ rfl⟩
end

/-! ### what a def promises -/
/-- a def's promise: the bound arguments in the parameters' order, the heap, the wanted end, the wanted exception -/
noncomputable abbrev Sp := List V → Hp → VK → XK → Prop
/-- how an exception lies behind a call (file 08 gives it): the callers' frames, abstract heap and state ahead of the call, the wish, the exception, the state -/
noncomputable abbrev CXT := List Env → Hp → Shared → XK → Value → Shared → Prop

/-- the state at a call -/
structure Env0 (P : Program) (w : World) (K : PySem.W.Frag) (mg : Str → Option Value) (base : Heap) (A : Around) (outer : List Env) (s : Shared) (H : Hp) : Prop where
  frames : A.frames = some outer
  mod : Mod K mg base
  bs : ∀ b o, base.get? b = some o → s.heap.get? b = some o ∧ H b = none
  bsz : base.objs.size ≤ s.heap.objs.size
  funs : s.heap.FunFrames base outer
  frf : ∀ b ∈ frs outer, H b = none
  hok : HOk P w H s.heap
  bare : AllBare s.gens
/-- a call's end -/
noncomputable def CE (outer : List Env) (P : Program) (w : World) (H : Hp) (s : Shared) (Q : VK) (u : Value) (s' : Shared) : Prop :=
  ∃ v H', s'.os = s.os ∧ AllBare s'.gens ∧ Un (frs outer) [] H H' s.heap s'.heap ∧ HOk P w H' s'.heap ∧ RelV v u ∧ Q v H'
noncomputable def CR (CX : CXT) (outer : List Env) (P : Program) (w : World) (H : Hp) (s : Shared) (Q : VK) (E : XK) (r : Result) (s' : Shared) : Prop :=
  match r with
  | .ok (.ret u) => CE outer P w H s Q u s'
  | .ok _ => False
  | .error e => CX outer H s E e s'
structure FnOk (P : Program) (w : World) (K : PySem.W.Frag) (mg : Str → Option Value) (base : Heap) (CX : CXT) (k : Nat) (f : Addr) (fd : FuncData) (ps : List Str) (sp : Sp) : Prop where
  len : ∀ vs H Q E, sp vs H Q E → vs.length = ps.length
  run : ∀ (A : Around) (outer : List Env) (s : Shared) (H : Hp) (args : Args) (us : List Value) (vs : List V) (Q : VK) (E : XK), Room k A → Env0 P w K mg base A outer s H → BindsTo s fd args (ps.zip us) → Vals vs us → sp vs H Q E →
    codeAny (model P w) A (.call (.ref f) args) (CR CX outer P w H s Q E) s
theorem FnOk.mono {P : Program} {w : World} {K : PySem.W.Frag} {mg : Str → Option Value} {base : Heap} {CX : CXT} {j k : Nat} {f : Addr} {fd : FuncData} {ps : List Str} {sp : Sp} (F : FnOk P w K mg base CX j f fd ps sp) (h : j ≤ k) :
    FnOk P w K mg base CX k f fd ps sp := ⟨F.len, fun A outer s H args us vs Q E hr => F.run A outer s H args us vs Q E (hr.mono h)⟩
/-- a weaker promise -/
theorem FnOk.imp {P : Program} {w : World} {K : PySem.W.Frag} {mg : Str → Option Value} {base : Heap} {CX : CXT} {k : Nat} {f : Addr} {fd : FuncData} {ps : List Str} {sp sp' : Sp} (F : FnOk P w K mg base CX k f fd ps sp)
    (h : ∀ vs H Q E, sp' vs H Q E → sp vs H Q E) : FnOk P w K mg base CX k f fd ps sp' :=
  ⟨fun vs H Q E q => F.len vs H Q E (h _ _ _ _ q), fun A outer s H args us vs Q E hr he hb hv hs => F.run A outer s H args us vs Q E hr he hb hv (h _ _ _ _ hs)⟩

theorem Env0.in1 {P : Program} {w : World} {K : PySem.W.Frag} {mg : Str → Option Value} {base : Heap} {A : Around} {outer : List Env} {s : Shared} {H : Hp} (e : Env0 P w K mg base A outer s H) :
    Env0 P w K mg base A.in1 outer s H := ⟨e.frames, e.mod, e.bs, e.bsz, e.funs, e.frf, e.hok, e.bare⟩

section
variable {X : Cx} {pins : List (Addr × Obj)} {σ : St} {H : Hp} {s s' : Shared}
/-- from a body: what a callee wants -/
theorem Inv.env0 (I : Inv X pins σ H s) : Env0 X.prog X.w X.K X.mg X.base X.A X.stack s H :=
  ⟨I.ok.frames, I.ok.mod, I.bs, Nat.le_trans I.ok.bsz I.sz, I.stack, I.stkFree, I.hok, I.bare⟩
/-- behind a call -/
theorem Inv.after {Q : VK} {u : Value} (I : Inv X pins σ H s) (h : CE X.stack X.prog X.w H s Q u s') : EP X pins σ Q u s' := by
  obtain ⟨v, H', os, bare, un, hok, r, q⟩ := h
  obtain ⟨hh, g, d, t, os'⟩ := s'
  obtain rfl : os' = s.os := os
  exact ⟨v, H', I.call (h' := hh) (g' := g) (d' := d) (t' := t) (ch := []) un hok bare (fun b z => absurd z (by simp)), r, q⟩
end

/-! ### calls -/
/-- f(..): the written arguments, then the defaults dvs; E: what is wanted of an exception -/
noncomputable def tCall (sp : Sp) (dvs : List V) (E : XK) (t : TA) : TE := fun σ H Q => t σ H fun vs H1 => sp (vs ++ dvs) H1 Q E
/-- how the parameters are bound: us the positional arguments, kw the keywords' values by name, ds the defaults that fill up -/
noncomputable def Binds (K : PySem.W.Frag) (fd : FuncData) (ps : List Str) (ds : List Value) : Prop :=
  ∀ (s : Shared) (us : List Value), K.In s.heap → (us ++ ds).length = ps.length → BindsTo s fd ⟨us, []⟩ (ps.zip (us ++ ds))
/-- every parameter is given -/
theorem Binds.all {K : PySem.W.Frag} {fd : FuncData} {ps : List Str} (h : ∀ us : List Value, us.length = ps.length → bindArgs fd ⟨us, []⟩ = pure (ps.zip us)) : Binds K fd ps [] := fun s us _ hl => by
  rw [List.append_nil] at hl ⊢
  exact .of_eq (h us hl)

/-- an exception of a callee reaches what this body wants of exceptions -/
noncomputable def Passes (CX : CXT) (X : Cx) (E : XK) : Prop := ∀ (pins : List (Addr × Obj)) (σ : St) (H : Hp) (s : Shared) (e : Value) (s' : Shared), Inv X pins σ H s → CX X.stack H s E e s' → X.xe e s'

section
variable {X : Cx} {CX : CXT} {k : Nat} {f C : Addr} {fd : FuncData} {ps : List Str} {sp : Sp} {dvs : List V} {ds : List Value} {E : XK} {x m : Str} {p pos apos : Pos} {e o : Expr} {es : List Expr} {ta : TE} {t : TA}

/-- the callee runs -/
theorem run_fn {pins : List (Addr × Obj)} {σ : St} {H : Hp} {s : Shared} {Q : VK} {us : List Value} {vs : List V} (F : FnOk X.prog X.w X.K X.mg X.base CX k f fd ps sp) (hr : Room k X.A) (hb : Binds X.K fd ps ds) (hd : Vals dvs ds) (hx : Passes CX X E)
    (I : Inv X pins σ H s) (r : Vals vs us) (h : sp (vs ++ dvs) H Q E) : wpAny (model X.prog X.w) X.A (call (.ref f) us) (EP X pins σ Q) X.xe s := by
  have r2 : Vals (vs ++ dvs) (us ++ ds) := r.append hd
  have hl : (us ++ ds).length = ps.length := by rw [← r2.length]; exact F.len _ _ _ _ h
  refine wpAny_call (codeAny_mono (F.run X.A X.stack s H ⟨us, []⟩ (us ++ ds) (vs ++ dvs) Q E hr I.env0 (hb s us I.kIn hl) r2 h) fun r s' hq => ?_)
  cases r with
  | error e => exact hx pins σ H s e s' I hq
  | ok fl =>
    cases fl with
    | ret u => exact I.after hq
    | next => exact False.elim hq
    | brk => exact False.elim hq
    | cont => exact False.elim hq

theorem pe_call (F : FnOk X.prog X.w X.K X.mg X.base CX k f fd ps sp) (hr : Room k X.A) (hg : Gl X x) (hm : X.mg x = some (.ref f)) (hk : PySem.W.keepIn X.K (.ref f) = true) (hb : Binds X.K fd ps ds) (hd : Vals dvs ds) (hx : Passes CX X E)
    (ha : PA X (e :: es) t) (hdb : (x == ("__debug__" : Str)) = false := by decide) (he : starEach (e :: es) X.env = (false, eval e X.env) :: starEach es X.env := by rfl) (hpl : (backTo pos (starEach es X.env)).any (·.1) = false := by rfl) :
    PE X (.Call (.Name x p) (e :: es) [] pos) (tCall sp dvs E t) := by
  intro pins s σ H Q I h
  refine wpAny_Call_Name_kw (ld_glob I hg hm ?_ hdb)
  refine PySem.W.callWith_K (h₀ := X.base) I.ok.mod.kin hk (thn (ha pos pins s σ H _ I h) fun us s1 ⟨vs, H1, I1, r, q⟩ => ⟨I1.kIn, ?_⟩) he hpl
  exact run_fn F hr hb hd hx I1 r q
end

/-! ### keywords -/
section
variable {X : Cx} {CX : CXT} {k : Nat} {f C : Addr} {fd : FuncData} {ps ks : List Str} {sp : Sp} {E : XK} {x m : Str} {p pos apos kpos : Pos} {e o : Expr} {es : List Expr} {kws : List Keyword} {te ta : TE} {t tk : TA} {nm : Option Str}
variable {g : List Value → List Value → List Value} {gV : List V → List V → List V}
end

/-! ### a def's body keeps its promise -/
/-- names: the parameters first -/
structure FnScope (N P : List Str) (sc : Scope) : Prop where
  kind : sc.kind = .function
  co : sc.isCoroutine = false
  gen : sc.isGenerator = false
  nd : N.Nodup
  pre : N.take P.length = P
  par : ∀ x ∈ P, sc.names.lookup x = some .local ∨ sc.names.lookup x = some .cell
  nofree : ∀ y ∈ sc.names, y.2 ≠ .free

theorem bindL_out {kindOf : Str → Option NameKind} {x : Str} : ∀ {binds : List (Str × Value)} {m : Str → Option Value}, (∀ v, (x, v) ∉ binds) → bindL kindOf binds m x = m x
  | [], _, _ => rfl
  | (n, v) :: r, m, h => by
    unfold bindL
    rw [bindL_out fun w hw => h w (List.mem_cons_of_mem _ hw)]
    split
    · have : x ≠ n := by rintro rfl; exact h v List.mem_cons_self
      simp [this]
    · rfl
theorem bindC_out {kindOf : Str → Option NameKind} {x : Str} : ∀ {binds : List (Str × Value)} {m : Str → Option Value}, (∀ v, (x, v) ∉ binds) → bindC kindOf binds m x = m x
  | [], _, _ => rfl
  | (n, v) :: r, m, h => by
    unfold bindC
    rw [bindC_out fun w hw => h w (List.mem_cons_of_mem _ hw)]
    split
    · rfl
    · have : x ≠ n := by rintro rfl; exact h v List.mem_cons_self
      simp [this]
theorem bindL_get {kindOf : Str → Option NameKind} {x : Str} {v : Value} : ∀ {P : List Str} {vs : List Value} {i : Nat} {m : Str → Option Value}, P.Nodup → P[i]? = some x → vs[i]? = some v → kindOf x = some .local →
    bindL kindOf (P.zip vs) m x = some v
  | [], _, _, _, _, h, _, _ => by simp at h
  | _ :: _, [], _, _, _, _, h, _ => by simp at h
  | p :: P, w :: vs, 0, m, nd, h1, h2, hk => by
    simp at h1 h2; subst h1; subst h2
    show bindL kindOf ((p, w) :: P.zip vs) m p = _
    unfold bindL
    rw [bindL_out fun v hv => (List.nodup_cons.mp nd).1 (List.of_mem_zip hv).1, if_pos hk]
    simp
  | p :: P, w :: vs, i + 1, m, nd, h1, h2, hk => by
    show bindL kindOf ((p, w) :: P.zip vs) m x = _
    unfold bindL
    exact bindL_get (i := i) (List.nodup_cons.mp nd).2 (by simpa using h1) (by simpa using h2) hk
theorem bindC_get {kindOf : Str → Option NameKind} {x : Str} {v : Value} : ∀ {P : List Str} {vs : List Value} {i : Nat} {m : Str → Option Value}, P.Nodup → P[i]? = some x → vs[i]? = some v → kindOf x ≠ some .local →
    bindC kindOf (P.zip vs) m x = some v
  | [], _, _, _, _, h, _, _ => by simp at h
  | _ :: _, [], _, _, _, _, h, _ => by simp at h
  | p :: P, w :: vs, 0, m, nd, h1, h2, hk => by
    simp at h1 h2; subst h1; subst h2
    show bindC kindOf ((p, w) :: P.zip vs) m p = _
    unfold bindC
    rw [bindC_out fun v hv => (List.nodup_cons.mp nd).1 (List.of_mem_zip hv).1, if_neg hk]
    simp
  | p :: P, w :: vs, i + 1, m, nd, h1, h2, hk => by
    show bindC kindOf ((p, w) :: P.zip vs) m x = _
    unfold bindC
    exact bindC_get (i := i) (List.nodup_cons.mp nd).2 (by simpa using h1) (by simpa using h2) hk

/-- the names' values at the entry -/
noncomputable def start (N : List Str) (vs : List V) : St := vs.map some ++ List.replicate (N.length - vs.length) none

/-- the context of a def's body, at its entry; an exception leaves the frame, then lies as CX says -/
noncomputable def cxOf (CX : CXT) (P : Program) (w : World) (K : PySem.W.Frag) (mg : Str → Option Value) (base : Heap) (N : List Str) (qual : Str) (scope : Scope) (f : Addr) (cd : Value) (A : Around) (outer : List Env) (s : Shared) (H : Hp) (E : XK) : Cx where
  prog := P
  w := w
  K := K
  mg := mg
  base := base
  A := A.deeper (envOfC qual scope s.heap.objs.size f cd)
  N := N
  s₀ := s
  H₀ := H
  env := envOfC qual scope s.heap.objs.size f cd
  outer := outer
  stack := envOfC qual scope s.heap.objs.size f cd :: outer
  ex := []
  calm := true
  fn := fun _ => true
  pn := []
  xe := fun e s' => wpAny (model P w) (A.deeper (envOfC qual scope s.heap.objs.size f cd)) (leaving (envOfC qual scope s.heap.objs.size f cd) e) (fun _ s'' => CX outer H s E e s'') (fun e' s'' => CX outer H s E e' s'') s'

theorem cell_has {sc : Scope} {n : Nat} {x : Str} (h : sc.names.lookup x = some .cell) : ∃ c, (cellsFrom n sc.names []).lookup x = some c := by
  have q := PySem.W.cellsFrom_some sc.names n [] (.inl h)
  exact Option.isSome_iff_exists.mp q

theorem inv_start {CX : CXT} {P : Program} {w : World} {K : PySem.W.Frag} {mg : Str → Option Value} {base : Heap} {N ps : List Str} {qual : Str} {scope : Scope} {f : Addr} {cd : Value} {A : Around} {outer : List Env} {s s1 : Shared} {H : Hp} {E : XK} {us : List Value} {vs : List V}
    (S : FnScope N ps scope) (hd : A.handled = none) (e0 : Env0 P w K mg base A outer s H) (hl : vs.length = ps.length) (r : Vals vs us)
    (x : InCallC s s.heap.objs.size (bindL (envOfC qual scope s.heap.objs.size f cd).kindOf (ps.zip us) fun _ => none) (cellsFrom (s.heap.objs.size + 1) scope.names []) (bindC (envOfC qual scope s.heap.objs.size f cd).kindOf (ps.zip us) fun _ => none) s1) :
    Inv (cxOf CX P w K mg base N qual scope f cd A outer s H E) [] (start N vs) H s1 := by
  have hpl : ps.length ≤ N.length := by have := congrArg List.length S.pre; rw [List.length_take] at this; omega
  obtain ⟨h1, tk, rfl, hk⟩ := x.done
  have noA : ∀ b : Addr, b ∉ (cxOf CX P w K mg base N qual scope f cd A outer s H E).ex := fun b z => absurd (show b ∈ ([] : List Addr) from z) (by simp)
  refine ⟨⟨e0.mod, S.kind, rfl, rfl, Nat.le_refl _, fun y z c h1 h2 => ?_, fun y hy => ?_, fun y c _ h => ?_, fun _ => hd, Around.frames_deeper e0.frames, .inr ⟨rfl, rfl⟩, fun b z => absurd z (noA b), e0.bs, e0.bsz, fun b _ _ => noA b, fun b z => absurd z (noA b), e0.funs, e0.frf⟩,
    rfl, e0.bare, Un.kept hk, ⟨_, x.toInCall.ns, fun i y v h1 h2 h3 => ?_⟩, fun y c h => ⟨_, x.cell y c h⟩, e0.hok.fresh (Nat.le_refl _), fun y c h => ?_, fun p hp => absurd (show p ∈ ([] : List (Addr × Obj)) from hp) (by simp), e0.hok.kept hk, ?_⟩
  · exact name_of_addr x.apart (PySem.mem_of_lookup h1) (PySem.mem_of_lookup h2)
  · have hy : scope.names.lookup y = some .cell ∨ scope.names.lookup y = some .free := hy
    rcases hy with hy | hy
    · exact cell_has hy
    · exact absurd rfl (S.nofree _ (PySem.mem_of_lookup hy))
  · exact Nat.le_of_lt (x.above y c (PySem.mem_of_lookup h))
  · have hi : i < vs.length := by
      unfold start at h2
      by_cases hi : i < vs.length
      · exact hi
      · rw [List.getElem?_append_right (by simpa using hi)] at h2
        rw [List.getElem?_replicate] at h2
        split at h2 <;> cases h2
    have ha : vs[i]? = some v := by
      unfold start at h2
      rw [List.getElem?_append_left (by simpa using hi), List.getElem?_map] at h2
      cases e : vs[i]? with
      | none => rw [e] at h2; cases h2
      | some a => rw [e] at h2; cases h2; rfl
    obtain ⟨u, hu, rv⟩ := r.get ha
    have hp : ps[i]? = some y := by
      rw [← S.pre, List.getElem?_take_of_lt (by omega)]; exact h1
    have ndP : ps.Nodup := by rw [← S.pre]; exact S.nd.sublist (List.take_sublist _ _)
    refine ⟨u, rv, ?_⟩
    rcases S.par y (List.mem_of_getElem? hp) with k | k
    · exact .inl ⟨k, bindL_get ndP hp hu k⟩
    · obtain ⟨c, e⟩ := cell_has (n := s.heap.objs.size + 1) k
      refine .inr ⟨.inl k, c, e, ?_⟩
      have q := x.cell y c e
      rw [bindC_get ndP hp hu (by show scope.names.lookup y ≠ _; rw [k]; decide)] at q
      exact q
  · exact e0.hok.fresh (Nat.le_of_lt (x.above y c (PySem.mem_of_lookup h)))
  · unfold start
    show _ = N.length
    rw [List.length_append, List.length_map, List.length_replicate]
    omega

/-- THE RULE: a def (or a method) of the text, by its body. The body's reading t is chosen for each entry; it is run at the parameters' values -/
theorem fn_of {CX : CXT} {P : Program} {w : World} {K : PySem.W.Frag} {mg : Str → Option Value} {base : Heap} {k : Nat} {f : Addr} {name qual : Str} {params : Arguments} {body : List Stmt} {scope : Scope} {dV kV doc pm cdv ct oc : Value} {an od : Option Addr}
    {osl : Array (Option Value)} {N ps : List Str} {sp : Sp} (lk : K.lookup f = some ⟨oc, od, .func (PySem.W.fnOf name qual params body scope dV kV doc pm an cdv ct), osl⟩) (hcd : PySem.W.codeIn K cdv qual = true) (S : FnScope N ps scope)
    (len : ∀ vs H Q E, sp vs H Q E → vs.length = ps.length)
    (hbody : ∀ (A : Around) (outer : List Env) (s : Shared) (H : Hp) (vs : List V) (Q : VK) (E : XK), Room k (A.deeper (envOfC qual scope s.heap.objs.size f cdv)) → sp vs H Q E →
      ∃ t, PSs (cxOf CX P w K mg base N qual scope f cdv A outer s H E) body t ∧ t { nx := fun _ H' => Q .non H', rt := Q } (start N vs) H) :
    FnOk P w K mg base CX (k + 1) f (PySem.W.fnOf name qual params body scope dV kV doc pm an cdv ct) ps sp := by
  refine ⟨len, fun A outer s H args us vs Q E hr e0 hb r hsp => ?_⟩
  have hl := len _ _ _ _ hsp
  have KX : K.In s.heap := e0.mod.kin.keeps fun b o e => (e0.bs b o e).1
  have lim : s.heap.NoLimit := e0.mod.nolimit.keeps fun b o e => (e0.bs b o e).1
  have hkind : ∀ y ∈ ps.zip us, scope.names.lookup y.1 = some .local ∨ (scope.names.lookup y.1 = some .cell ∧ ((cellsFrom (s.heap.objs.size + 1) scope.names []).lookup y.1).isSome = true) := fun ⟨n, v⟩ hy => by
    rcases S.par n (List.of_mem_zip hy).1 with q | q
    · exact .inl q
    · exact .inr ⟨q, PySem.W.cellsFrom_some _ _ _ (.inl q)⟩
  refine codeAny_call_function hr.depth (KX _ _ lk) rfl S.co S.gen rfl (PySem.W.codeRec_of KX hcd) (hb _ _ _ _ ?_)
  refine wpAny_newFunctionEnv_cells S.kind hkind fun env he s1 x => ?_
  subst he
  refine ⟨lim.keeps x.toInCall.keep, codeAny_func ?_⟩
  obtain ⟨t, ht, hq⟩ := hbody A outer s H vs Q E (hr.deeper _) hsp
  have I : Inv (cxOf CX P w K mg base N qual scope f cdv A outer s H E) [] (start N vs) H s1 := inv_start S hr.hd e0 hl r x
  refine wpAny_mono (ht [] s1 (start N vs) H _ I hq) (fun fl s' hs => ?_) fun e s' hs => hs
  have fin : ∀ {σ' : St} {H' : Hp} {v : V} {u : Value}, Inv (cxOf CX P w K mg base N qual scope f cdv A outer s H E) [] σ' H' s' → RelV v u → Q v H' → CE outer P w H s Q u s' :=
    fun {σ' H' v u} J rv q => ⟨v, H', J.os, J.bare, J.base, J.hok, rv, q⟩
  cases fl with
  | ret u =>
    obtain ⟨v, σ', H', J, rv, q⟩ := hs
    exact fin J rv q
  | next =>
    obtain ⟨σ', H', J, q⟩ := hs
    exact fin (v := V.non) (u := Value.none) J rfl q
  | brk =>
    obtain ⟨_, _, _, q⟩ := hs
    exact False.elim q
  | cont =>
    obtain ⟨_, _, _, q⟩ := hs
    exact False.elim q
end L2

namespace L2
open PySem PySem.Spec PyProof.Rows
section
variable {X : Cx} {x : Str} {p pos : Pos} {e : Expr} {es : List Expr} {t : TA} {id T : String} {r : List V → Hp → VK → Prop}

noncomputable def tCB (r : List V → Hp → VK → Prop) (t : TA) : TE := fun σ H Q => t σ H fun vs H1 => r vs H1 Q
/-- f(e, ..), f a built-in function -/
theorem pe_callB (hc : CallR X (.builtin id) r) (hg : Gl X x) (hm : X.mg x = none) (hv : bootBuiltins x = some (.builtin id)) (ha : PA X (e :: es) t) (hn : x ≠ "__name__" := by decide) (hdb : (x == ("__debug__" : Str)) = false := by decide)
    (he : starEach (e :: es) X.env = (false, eval e X.env) :: starEach es X.env := by rfl) (hpl : (backTo pos (starEach es X.env)).any (·.1) = false := by rfl) : PE X (.Call (.Name x p) (e :: es) [] pos) (tCB r t) := by
  intro pins s σ H Q I h
  refine wpAny_Call_Name_kw (ld_blt I hg hm hv ?_ hn hdb)
  exact PyProof.Rows.callWith_builtin1 (thn (ha pos pins s σ H _ I h) fun us s1 ⟨vs, H1, I1, r1, q1⟩ => hc pins s1 σ H1 vs us Q I1 r1 q1) he hpl
/-- T(e, ..), T a built-in type -/
theorem pe_callTy (hc : CallR X (.type T) r) (hg : Gl X x) (hm : X.mg x = none) (hv : bootBuiltins x = some (.type T)) (ha : PA X (e :: es) t) (hn : x ≠ "__name__" := by decide) (hdb : (x == ("__debug__" : Str)) = false := by decide)
    (he : starEach (e :: es) X.env = (false, eval e X.env) :: starEach es X.env := by rfl) (hpl : (backTo pos (starEach es X.env)).any (·.1) = false := by rfl) : PE X (.Call (.Name x p) (e :: es) [] pos) (tCB r t) := by
  intro pins s σ H Q I h
  refine wpAny_Call_Name_kw (ld_blt I hg hm hv ?_ hn hdb)
  exact PyProof.Rows.callWith_type1 (thn (ha pos pins s σ H _ I h) fun us s1 ⟨vs, H1, I1, r1, q1⟩ => hc pins s1 σ H1 vs us Q I1 r1 q1) he hpl
end
end L2

namespace HT
open PySem PyProof.Rows

section
open PySem.SeqAt
open PySem.AutoSeq1 (wpAny_loadPart')
open PySem.MeetsSeq PySem.MeetsSeq2 PySem.MeetsSeq3

end

section
variable {prog : Program} {w : World} {A : Around} {E : Value → Shared → Prop} {s : Shared}

/-! ### t[a:b], not the whole -/
/-- a slice's bound as a place among n (d where it is left out) -/
noncomputable def sIx (n d : Nat) : Option Int → Nat
  | none => d
  | some v => if v < 0 then (v + (n : Int)).toNat else min v.toNat n
theorem sIx_none (n d : Nat) : sIx n d none = d := rfl
theorem sIx_nat (n d k : Nat) : sIx n d (some (k : Int)) = min k n := by
  show (if (k : Int) < 0 then ((k : Int) + (n : Int)).toNat else min (k : Int).toNat n) = min k n
  rw [if_neg (by omega), Int.toNat_natCast]
end
end HT

namespace L2
open PySem PySem.Spec PyProof.Rows

/-! ### the parts of a slice -/
noncomputable abbrev TO := St → Hp → (Option Int → Hp → Prop) → Prop
/-- a slice's part (left out, or an int) -/
noncomputable def PO (X : Cx) (e : Option Expr) (t : TO) : Prop :=
  ∀ (pins : List (Addr × Obj)) (s : Shared) (σ : St) (H : Hp) (Q : Option Int → Hp → Prop), Inv X pins σ H s → t σ H Q →
    wpAny (model X.prog X.w) X.A (evalPart e X.env) (fun u s' => ∃ o H', Inv X pins σ H' s' ∧ IsPart u o ∧ Q o H') X.xe s
noncomputable def tNoPart : TO := fun _ H Q => Q none H
noncomputable def tPart (t : TE) : TO := fun σ H Q => t σ H fun x H1 => ∃ i, x = .int i ∧ Q (some i) H1

section
variable {X : Cx} {e : Expr} {te : TE} {lo hi : Option Expr} {tl th : TO} {pos p2 : Pos}

theorem po_none : PO X none tNoPart := by
  intro pins s σ H Q I h
  rw [evalPart_none]
  exact wpAny_pure ⟨none, H, I, .none, h⟩
theorem po_some (h : PE X e te) : PO X (some e) (tPart te) := by
  intro pins s σ H Q I hw
  rw [evalPart_some]
  refine thn (h pins s σ H _ I hw) fun u s1 ⟨x, H1, I1, r1, q1⟩ => ?_
  obtain ⟨i, rfl, q⟩ := q1
  obtain ⟨t, rfl⟩ := r1
  exact ⟨some i, H1, I1, .int i t, q⟩

/-- what a slice of a value is, by values: the slice object stands at sl -/
noncomputable def SlR (X : Cx) (r : V → Option Int → Option Int → Hp → VK → Prop) : Prop :=
  ∀ (pins : List (Addr × Obj)) (s : Shared) (σ : St) (H : Hp) (x : V) (v vl vu : Value) (lo hi : Option Int) (sl : Addr) (Q : VK), Inv X pins σ H s → RelV x v → s.heap.IsSliceOf sl vl vu .none → IsPart vl lo → IsPart vu hi → r x lo hi H Q →
    ∃ T id, typeLookup (.type T) "__getitem__" = pure (some (.builtin id)) ∧ s.TypeIs v T ∧ wpAny (model X.prog X.w) X.A (getItem v (.ref sl)) (EP X pins σ Q) X.xe s
theorem SlR.or {r r' : V → Option Int → Option Int → Hp → VK → Prop} (h : SlR X r) (h' : SlR X r') : SlR X (fun x lo hi H Q => r x lo hi H Q ∨ r' x lo hi H Q) := by
  intro pins s σ H x v vl vu lo hi sl Q I rx hs pl pu q
  rcases q with q | q
  · exact h pins s σ H x v vl vu lo hi sl Q I rx hs pl pu q
  · exact h' pins s σ H x v vl vu lo hi sl Q I rx hs pl pu q
noncomputable def tSl (r : V → Option Int → Option Int → Hp → VK → Prop) (te : TE) (tl th : TO) : TE := fun σ H Q => te σ H fun x H1 => tl σ H1 fun l H2 => th σ H2 fun u H3 => r x l u H3 Q
/-- a[lo:hi], any a -/
theorem pe_slice {r : V → Option Int → Option Int → Hp → VK → Prop} (hr : SlR X r) (he : PE X e te) (hl : PO X lo tl) (hu : PO X hi th) : PE X (.Subscript e (.Slice lo hi none p2) pos) (tSl r te tl th) := by
  intro pins s σ H Q I h
  refine Subscript_ (thn (he pins s σ H _ I h) fun v s1 ⟨x, H1, I1, r1, q1⟩ => ?_)
  refine wpAny_Slice (thn (hl pins s1 σ H1 _ I1 q1) fun vl s2 ⟨l, H2, I2, pl, q2⟩ => thn (hu pins s2 σ H2 _ I2 q2) fun vu s3 ⟨u, H3, I3, pu, q3⟩ => ?_)
  rw [evalPart_none]
  refine wpAny_pure ?_
  have I4 : Inv X pins σ H3 { s3 with heap := s3.heap.push { cls := .type "slice", data := .fields #[vl, vu, .none] } } := I3.kept (t' := s3.toks) fun b ob q => Heap.get?_push_of_some _ q
  obtain ⟨T, id, hT, ht, hg⟩ := hr pins { s3 with heap := s3.heap.push { cls := .type "slice", data := .fields #[vl, vu, .none] } } σ H3 x v vl vu l u s3.heap.objs.size Q I4 r1 (Heap.IsSliceOf.new ..) pl pu q3
  show wpAny (model X.prog X.w) X.A (subscriptTail e (.Slice lo hi none p2) v (.ref s3.heap.objs.size)) (EP X pins σ Q) X.xe { s3 with heap := s3.heap.push { cls := .type "slice", data := .fields #[vl, vu, .none] } }
  exact tail_any (ops := [.ref s3.heap.objs.size, v]) ht hT hg (by with_unfolding_all rfl)

/-- the items of xs[lo:hi] -/
noncomputable def cutV (xs : List V) (lo hi : Option Int) : List V := (xs.drop (HT.sIx xs.length 0 lo)).take (HT.sIx xs.length xs.length hi - HT.sIx xs.length 0 lo)
theorem cutV_length (xs : List V) (lo hi : Option Int) : (cutV xs lo hi).length ≤ xs.length := by
  unfold cutV
  rw [List.length_take, List.length_drop]
  omega
/-! ### t < u, t + u -/
end
end L2

namespace L2
open PySem PySem.Spec PyProof.Rows

/-! ### places -/
/-- the place that an index of any sign means -/
noncomputable def ixN (n : Nat) (i : Int) : Option Nat := if 0 ≤ i then (if i < n then some i.toNat else none) else if -(n : Int) ≤ i then some (i + n).toNat else none
noncomputable def atI {α : Type} (xs : List α) (i : Int) : Option α := (ixN xs.length i).bind fun j => xs[j]?
theorem ixN_seq {n : Nat} {i : Int} {j : Nat} (h : ixN n i = some j) : seqIndex? i n = some j ∧ j < n ∧ -(n : Int) ≤ i ∧ i < n := by
  unfold ixN at h
  by_cases h0 : 0 ≤ i
  · rw [if_pos h0] at h
    by_cases h1 : i < n
    · rw [if_pos h1] at h
      have e : i.toNat = j := Option.some.inj h
      exact ⟨by rw [seqIndex_of h0 h1, e], by omega, by omega, h1⟩
    · rw [if_neg h1] at h; cases h
  · rw [if_neg h0] at h
    by_cases h1 : -(n : Int) ≤ i
    · rw [if_pos h1] at h
      have e : (i + n).toNat = j := Option.some.inj h
      exact ⟨by rw [seqIndex_neg (by omega) h1, e], by omega, h1, by omega⟩
    · rw [if_neg h1] at h; cases h
theorem atI_get {α : Type} {xs : List α} {i : Int} {v : α} (h : atI xs i = some v) : ∃ j, seqIndex? i xs.length = some j ∧ xs[j]? = some v ∧ j < xs.length ∧ -(xs.length : Int) ≤ i ∧ i < xs.length := by
  unfold atI at h
  cases e : ixN xs.length i with
  | none => rw [e] at h; cases h
  | some j =>
    rw [e] at h
    obtain ⟨h1, h2, h3, h4⟩ := ixN_seq e
    exact ⟨j, h1, h, h2, h3, h4⟩
theorem atI_nat {α : Type} {xs : List α} {j : Nat} {v : α} (h : xs[j]? = some v) : atI xs (j : Int) = some v := by
  have hj : j < xs.length := (List.getElem?_eq_some_iff.mp h).1
  have e : ixN xs.length (j : Int) = some j := by
    unfold ixN
    rw [if_pos (by omega), if_pos (by omega)]; simp
  unfold atI; rw [e]; exact h
/-! ### what may be subscripted -/
/-- what stands as an index of a plain subscript -/
noncomputable def PlainIx (b : Expr) : Prop := ∀ o i, subscripted b false o i = operate [o, i] (getItem o i)
/-- a subscript by values -/
noncomputable def IxR (X : Cx) (r : R2) : Prop :=
  ∀ (value slice : Expr) (pins : List (Addr × Obj)) (s : Shared) (σ : St) (H : Hp) (x y : V) (v u : Value) (Q : VK), Inv X pins σ H s → RelV x v → RelV y u → r x y H Q →
    subscripted slice false v u = operate [v, u] (getItem v u) → wpAny (model X.prog X.w) X.A (subscriptTail value slice v u) (EP X pins σ Q) X.xe s
/-- a call of a builtin's method by values: the receiver, the arguments -/
noncomputable def MtR (X : Cx) (id : String) (r : V → List V → Hp → VK → Prop) : Prop :=
  ∀ (pins : List (Addr × Obj)) (s : Shared) (σ : St) (H : Hp) (x : V) (xs : List V) (v : Value) (us : List Value) (Q : VK), Inv X pins σ H s → RelV x v → Vals xs us → r x xs H Q →
    wpAny (model X.prog X.w) X.A (call (.builtin id) (v :: us)) (EP X pins σ Q) X.xe s
section
variable {X : Cx} {a b : Expr} {ta tb : TE} {pos : Pos}
theorem IxR.or {r r' : R2} (h : IxR X r) (h' : IxR X r') : IxR X (fun x y H Q => r x y H Q ∨ r' x y H Q) := by
  intro value slice pins s σ H x y v u Q I rx ry q hs
  rcases q with q | q
  · exact h value slice pins s σ H x y v u Q I rx ry q hs
  · exact h' value slice pins s σ H x y v u Q I rx ry q hs
theorem MtR.or {id : String} {r r' : V → List V → Hp → VK → Prop} (h : MtR X id r) (h' : MtR X id r') : MtR X id (fun x xs H Q => r x xs H Q ∨ r' x xs H Q) := by
  intro pins s σ H x xs v us Q I rx rs q
  rcases q with q | q
  · exact h pins s σ H x xs v us Q I rx rs q
  · exact h' pins s σ H x xs v us Q I rx rs q
/-- a[b] -/
theorem pe_ix {r : R2} (hr : IxR X r) (ha : PE X a ta) (hb : PE X b tb) (hs : PlainIx b) : PE X (.Subscript a b pos) (tOp r ta tb) := by
  intro pins s σ H Q I h
  exact Subscript_ (binT ha hb I h fun v u s2 x y H2 I2 rx ry q => hr a b pins s2 σ H2 x y v u Q I2 rx ry q (hs _ _))

noncomputable def rIxL (K : PySem.W.Frag) : R2 := fun x y H Q => ∃ p xs i v, x = .ref p ∧ y = .int i ∧ SqL K H p xs ∧ atI xs i = some v ∧ Q v H
noncomputable def rIxT (K : PySem.W.Frag) : R2 := fun x y H Q => ∃ p xs i v, x = .ref p ∧ y = .int i ∧ SqT K H p xs ∧ atI xs i = some v ∧ Q v H
noncomputable def rIxS : R2 := fun x y H Q => ∃ z i c, x = .str z ∧ y = .int i ∧ z.length ≤ sizeLine ∧ atI z.cps.toList i = some c ∧ Q (.str ⟨#[c]⟩) H
theorem ix_list : IxR X (rIxL X.K) := by
  intro value slice pins s σ H x y v u Q I rx ry h hs
  obtain ⟨p, xs, i, z, rfl, rfl, hq, he, q⟩ := h
  cases rx
  obtain ⟨t, rfl⟩ := ry
  obtain ⟨its, r, pl, hz⟩ := I.list hq
  obtain ⟨j, h1, h2, h3, h4, h5⟩ := atI_get he
  obtain ⟨w, ew, rw'⟩ := r.get h2
  have hl := r.length
  have hn := line63
  have fin : EP X pins σ Q w s := ⟨z, H, I, rw', q⟩
  by_cases h0 : 0 ≤ i
  · have hj : i.toNat = j := by
      rw [seqIndex_of h0 h5] at h1
      exact Option.some.inj h1
    exact item_listR pl.isList h0 (by omega) (by rw [hj]; simpa using ew) fin hs
  · have hj : (i + (its.toArray.size : Int)).toNat = j := by
      rw [seqIndex_neg (by omega) h4] at h1
      rw [List.size_toArray, ← hl]
      exact Option.some.inj h1
    exact subscriptTail_builtinR (x := w) pl.isList.typeIs slot_list_getitem.lookup
      (wpAny_getItem_list_neg (Q := fun r s' => r = w ∧ EP X pins σ Q r s') pl.isList (by omega) (by rw [List.size_toArray] <;> omega) (by omega) (by rw [hj]; simpa using ew) ⟨rfl, fin⟩) hs
theorem ix_tup : IxR X (rIxT X.K) := by
  intro value slice pins s σ H x y v u Q I rx ry h hs
  obtain ⟨p, xs, i, z, rfl, rfl, hq, he, q⟩ := h
  cases rx
  obtain ⟨t, rfl⟩ := ry
  obtain ⟨its, r, pl, hz⟩ := I.tuple hq
  obtain ⟨j, h1, h2, h3, h4, h5⟩ := atI_get he
  obtain ⟨w, ew, rw'⟩ := r.get h2
  have hl := r.length
  have hn := line63
  have fin : EP X pins σ Q w s := ⟨z, H, I, rw', q⟩
  exact subscriptTail_builtinR (x := w) pl.typeIs slot_tuple_getitem.lookup
    (getItem_tuple (j := j) (Q := fun r s' => r = w ∧ EP X pins σ Q r s') pl (by omega) (by omega) (by rw [List.size_toArray, ← hl]; exact h1) (by simpa using ew) ⟨rfl, fin⟩) hs
theorem ix_str : IxR X rIxS := by
  intro value slice pins s σ H x y v u Q I rx ry h hs
  obtain ⟨z, i, c, rfl, rfl, hz, he, q⟩ := h
  obtain ⟨t, rfl⟩ := rx
  obtain ⟨t', rfl⟩ := ry
  obtain ⟨j, h1, h2, h3, h4, h5⟩ := atI_get he
  have hl : z.cps.toList.length = z.length := by simp [Str.length]
  rw [hl] at h1 h4 h5
  have hn := line63
  exact tail_any (typeIs_str s z t) slot_str_getitem.lookup (getItem_str (c := c) (by
    have e1 : decide (i < -(2 ^ 63 : Int)) = false := decide_eq_false (by omega)
    have e2 : decide (i ≥ 2 ^ 63) = false := decide_eq_false (by omega)
    rw [e1, e2, Bool.or_false]) (by rw [h1]; simpa using h2) ⟨.str ⟨#[c]⟩, H, I.tok _, ⟨_, rfl⟩, q⟩) hs
/-! ### xs[i] = v, any sign -/
/-- the list's object behind a store -/
theorem mapSeq_set (its : List Value) (n j : Nat) (u : Value) : Obj.mapSeq (·.setIfInBounds j u) { cls := .type "list", data := .seq its.toArray n } = { cls := .type "list", data := .seq (its.set j u).toArray n } := by
  simp [Obj.mapSeq]
theorem Inv.lst {pins : List (Addr × Obj)} {σ : St} {H : Hp} {s : Shared} {p : Addr} {xs : List V} (I : Inv X pins σ H s) (h : H p = some (.lst xs)) :
    ∃ (its : List Value) (n : Nat), Vals xs its ∧ s.heap.get? p = some { cls := .type "list", data := .seq its.toArray n } ∧ xs.length ≤ sizeLine := by
  obtain ⟨z, its, n, r, e⟩ := I.hok p _ h
  exact ⟨its, n, r, e, z⟩
/-- the list at p is written by an update of its object -/
theorem Inv.lstUpd {pins : List (Addr × Obj)} {σ : St} {H : Hp} {s : Shared} {p : Addr} {xs ys : List V} {its its' : List Value} {n n' : Nat} {f : Obj → Obj} (I : Inv X pins σ H s) (h : H p = some (.lst xs))
    (ho : s.heap.get? p = some { cls := .type "list", data := .seq its.toArray n }) (hf : f { cls := .type "list", data := .seq its.toArray n } = { cls := .type "list", data := .seq its'.toArray n' }) (r : Vals ys its') (hz : ys.length ≤ sizeLine) (t : Nat) :
    Inv X pins σ (upd H p (.lst ys)) { s with heap := s.heap.update p f, toks := t } := by
  have e : (s.heap.update p f).get? p = some { cls := .type "list", data := .seq its'.toArray n' } := by
    rw [Heap.get?_update_self f ho (by rw [hf] <;> rfl), hf]
  refine I.write (x := p) (e := p) (by rw [h]; trivial) (.inl rfl) (fun b u hb q => (Heap.get?_update_other _ _ (Ne.symm hb)).trans q) ⟨_, e⟩ ?_
  exact ⟨hz, its', n', r, e⟩
noncomputable def rSetL : V → V → V → Hp → (Hp → Prop) → Prop := fun o i v H Q => ∃ p xs k j, o = .ref p ∧ i = .int k ∧ H p = some (.lst xs) ∧ ixN xs.length k = some j ∧ Q (upd H p (.lst (xs.set j v)))
theorem set_list : PSet X rSetL := by
  intro pins s σ H o i v ov iv u Q I ro ri rv h
  obtain ⟨p, xs, k, j, rfl, rfl, hp, hj, q⟩ := h
  cases ro
  obtain ⟨t, rfl⟩ := ri
  obtain ⟨its, n, r, ho, hz⟩ := I.lst hp
  obtain ⟨h1, h2, h3, h4⟩ := ixN_seq hj
  have hl := r.length
  have hn := line63
  have I' : Inv X pins σ (upd H p (.lst (xs.set j v))) { s with heap := s.heap.update p (Obj.mapSeq (·.setIfInBounds j u)) } :=
    I.lstUpd hp ho (mapSeq_set its n j u) (r.set rv j) (by rw [List.length_set]; exact hz) s.toks
  by_cases h0 : 0 ≤ k
  · have hk : k.toNat = j := by
      rw [seqIndex_of h0 h4] at h1
      exact Option.some.inj h1
    exact PySem.W.ki_setAt ho h0 (by omega) (by rw [List.size_toArray, ← hl]; exact h4) (by rw [hk]; exact ⟨_, I', q⟩)
  · have hk : (k + (its.toArray.size : Int)).toNat = j := by
      rw [seqIndex_neg (by omega) h3] at h1
      rw [List.size_toArray, ← hl]
      exact Option.some.inj h1
    exact PySem.W.ki_setBack ho (by omega) (by rw [List.size_toArray, ← hl]; exact h3) (by omega) (by rw [hk]; exact ⟨_, I', q⟩)

/-! ### slices -/
theorem slice_bounds (lo hi : Option Int) (n : Nat) : (sliceBounds lo hi none n).1 = ((HT.sIx n 0 lo : Nat) : Int) ∧ (sliceBounds lo hi none n).2.1 = ((HT.sIx n n hi : Nat) : Int) ∧ (sliceBounds lo hi none n).2.2 = 1 := by
  refine ⟨?_, ?_, rfl⟩
  · cases lo with
    | none => simp [sliceBounds, HT.sIx]
    | some i =>
      simp only [sliceBounds, HT.sIx, Option.getD_none, show (1 : Int) > 0 by decide, if_true]
      by_cases h : i < 0
      · simp only [h, if_true] <;> omega
      · simp only [h, if_false] <;> omega
  · cases hi with
    | none => simp [sliceBounds, HT.sIx]
    | some i =>
      simp only [sliceBounds, HT.sIx, Option.getD_none, show (1 : Int) > 0 by decide, if_true]
      by_cases h : i < 0
      · simp only [h, if_true] <;> omega
      · simp only [h, if_false] <;> omega
theorem slicePick_cut (its : List Value) (lo hi : Option Int) : slicePick its.toArray lo hi none = ((its.drop (HT.sIx its.length 0 lo)).take (HT.sIx its.length its.length hi - HT.sIx its.length 0 lo)).toArray := by
  obtain ⟨h1, h2, h3⟩ := slice_bounds lo hi its.toArray.size
  unfold slicePick
  rw [h1, h2, h3]
  simp only [sliceRange_one, pick_run, List.size_toArray] <;> rfl
/-- xs[lo:hi] of a list: a new list -/
noncomputable def rSlL (K : PySem.W.Frag) : V → Option Int → Option Int → Hp → VK → Prop := fun x lo hi H Q => ∃ a xs, x = .ref a ∧ SqL K H a xs ∧ ∀ p, H p = none → Q (.ref p) (upd H p (.lst (cutV xs lo hi)))
theorem sl_list : SlR X (rSlL X.K) := by
  intro pins s σ H x v vl vu lo hi sl Q I rx hs pl pu h
  obtain ⟨a, xs, rfl, hx, q⟩ := h
  cases rx
  obtain ⟨its, r, ht, hz⟩ := I.list hx
  have hlen := r.length
  refine ⟨"list", _, slot_list_getitem.lookup, ht.isList.typeIs, ?_⟩
  refine wpAny_getItem_list_slice ht.isList hs pl pu .none (by simp) ?_ (by rw [List.size_toArray] <;> omega)
  rw [slicePick_cut, ← hlen]
  refine ⟨.ref s.heap.objs.size, _, I.laid (t' := s.toks) (o := .lst (cutV xs lo hi)) (fun b ob q => Heap.get?_push_of_some _ q) (Nat.le_refl _) ?_, rfl, q _ (I.hok.fresh (Nat.le_refl _))⟩
  exact ⟨Nat.le_trans (cutV_length xs lo hi) hz, _, 0, (r.drop (HT.sIx xs.length 0 lo)).take (HT.sIx xs.length xs.length hi - HT.sIx xs.length 0 lo), Heap.get?_push_size _ rfl⟩

/-! ### in, not in: flat items -/
noncomputable def flatV : V → Bool
  | .non => true
  | .bl _ => true
  | .int _ => true
  | .str _ => true
  | _ => false
/-- == of flat values -/
noncomputable def eqV : V → V → Bool
  | .non, .non => true
  | .bl a, .bl b => a == b
  | .bl a, .int b => (if a then 1 else 0) == b
  | .int a, .bl b => a == (if b then 1 else 0)
  | .int a, .int b => a == b
  | .str a, .str b => a == b
  | _, _ => false
theorem eqAt_V {A : Around} {s : Shared} {y x : V} {u v : Value} (ry : RelV y u) (rx : RelV x v) (fy : flatV y = true) (fx : flatV x = true) : SeqAt.EqAt A s u v (eqV y x) := by
  cases y with
  | non =>
    cases ry
    cases x with
    | non => cases rx; exact SeqAt.EqAt.same _
    | bl b => cases rx; exact SeqAt.EqAt.none_bool b
    | int b => obtain ⟨t, rfl⟩ := rx; exact SeqAt.EqAt.none_int b t
    | str b => obtain ⟨t, rfl⟩ := rx; exact SeqAt.EqAt.none_str b t
    | _ => exact absurd (show false = true from fx) Bool.false_ne_true
  | bl a =>
    cases ry
    cases x with
    | non => cases rx; exact SeqAt.EqAt.bool_none a
    | bl b => cases rx; exact SeqAt.EqAt.bool_bool a b
    | int b => obtain ⟨t, rfl⟩ := rx; exact SeqAt.EqAt.bool_int a b t
    | str b => obtain ⟨t, rfl⟩ := rx; exact SeqAt.EqAt.bool_str a b t
    | _ => exact absurd (show false = true from fx) Bool.false_ne_true
  | int a =>
    obtain ⟨t', rfl⟩ := ry
    cases x with
    | non => cases rx; exact SeqAt.EqAt.int_none a t'
    | bl b => cases rx; exact SeqAt.EqAt.int_bool a t' b
    | int b => obtain ⟨t, rfl⟩ := rx; exact SeqAt.EqAt.int_int a t' b t
    | str b => obtain ⟨t, rfl⟩ := rx; exact SeqAt.EqAt.int_str a t' b t
    | _ => exact absurd (show false = true from fx) Bool.false_ne_true
  | str a =>
    obtain ⟨t', rfl⟩ := ry
    cases x with
    | non => cases rx; exact SeqAt.EqAt.str_none a t'
    | bl b => cases rx; exact SeqAt.EqAt.str_bool a t' b
    | int b => obtain ⟨t, rfl⟩ := rx; exact SeqAt.EqAt.str_int a t' b t
    | str b => obtain ⟨t, rfl⟩ := rx; exact SeqAt.EqAt.str_str a t' b t
    | _ => exact absurd (show false = true from fx) Bool.false_ne_true
  | _ => exact absurd (show false = true from fy) Bool.false_ne_true
/-- the items' answers, read off the values (a value's own answer does not lean on its token) -/
noncomputable def eqU (x : V) (u : Value) : Bool := match u with
  | .none => eqV .non x
  | .bool b => eqV (.bl b) x
  | .int i _ => eqV (.int i) x
  | .str z _ => eqV (.str z) x
  | _ => false
theorem eqU_of {x y : V} {u : Value} (r : RelV y u) (f : flatV y = true) : eqU x u = eqV y x := by
  cases y with
  | non => cases r; rfl
  | bl b => cases r; rfl
  | int i => obtain ⟨t, rfl⟩ := r; rfl
  | str z => obtain ⟨t, rfl⟩ := r; rfl
  | _ => exact absurd (show false = true from f) Bool.false_ne_true
theorem any_eqU {x : V} : ∀ {xs : List V} {us : List Value}, Vals xs us → xs.all flatV = true → us.any (eqU x) = xs.any fun y => eqV y x
  | _, _, .nil, _ => rfl
  | y :: xs, u :: us, .cons r t, f => by
    rw [List.all_cons, Bool.and_eq_true] at f
    rw [List.any_cons, List.any_cons, eqU_of r f.1, any_eqU t f.2]
theorem mem_eqAt {A : Around} {s : Shared} {x : V} {v : Value} (rx : RelV x v) (fx : flatV x = true) : ∀ {xs : List V} {us : List Value}, Vals xs us → xs.all flatV = true → ∀ u ∈ us, SeqAt.EqAt A s u v (eqU x u)
  | _, _, .nil, _ => fun u hu => by cases hu
  | y :: xs, u :: us, .cons r t, f => fun u' hu => by
    rw [List.all_cons, Bool.and_eq_true] at f
    rcases List.mem_cons.mp hu with rfl | hu
    · rw [eqU_of r f.1]; exact eqAt_V r rx f.1 fx
    · exact mem_eqAt rx fx t f.2 u' hu
noncomputable def inV (x : V) (xs : List V) : Bool := xs.any fun y => eqV y x
/-- x in a list or tuple of flat items -/
noncomputable def rIn (K : PySem.W.Frag) (neg : Bool) : R2 := fun x y H Q => ∃ p xs, y = .ref p ∧ (SqL K H p xs ∨ SqT K H p xs) ∧ flatV x = true ∧ xs.all flatV = true ∧ Q (.bl (if neg then !inV x xs else inV x xs)) H
theorem op_in_seq : OpR X (compareOp .In) (rIn X.K false) := by
  intro pins s σ H x y v u Q I rx ry h
  obtain ⟨p, xs, rfl, hq, fx, fs, q⟩ := h
  cases ry
  rcases hq with hq | hq
  · obtain ⟨its, r, pl, hz⟩ := I.list hq
    refine SeqAt.in_listAt (eqU x) pl.isList (fun w hw => mem_eqAt rx fx r fs w (by simpa using hw)) ⟨.bl _, H, I, rfl, ?_⟩
    rw [show its.toArray.any (eqU x) = its.any (eqU x) by simp, any_eqU r fs]
    exact q
  · obtain ⟨its, r, pl, hz⟩ := I.tuple hq
    refine SeqAt.in_tupleAt (eqU x) pl (fun w hw => mem_eqAt rx fx r fs w (by simpa using hw)) ⟨.bl _, H, I, rfl, ?_⟩
    rw [show its.toArray.any (eqU x) = its.any (eqU x) by simp, any_eqU r fs]
    exact q
/-! ### len, list(x), tuple(x) of any list or tuple that is read -/
theorem call_len_seq : CallR X (.builtin "len") (fun xs H Q => ∃ p ys, xs = [.ref p] ∧ (SqL X.K H p ys ∨ SqT X.K H p ys) ∧ Q (.int ys.length) H) := by
  intro pins s σ H xs us Q I r h
  obtain ⟨p, ys, rfl, hq, q⟩ := h
  obtain ⟨u, rfl, rx⟩ := vals1 r
  cases rx
  have hn := line63
  rcases hq with hq | hq
  · obtain ⟨its, r', pl, hz⟩ := I.list hq
    have hlen := r'.length
    exact Calls.call_len_list pl.isList (by simp only [List.size_toArray] <;> omega) ⟨.int ys.length, H, I.tok _, ⟨s.toks + 1, by rw [List.size_toArray, hlen]⟩, q⟩
  · obtain ⟨its, r', pl, hz⟩ := I.tuple hq
    have hlen := r'.length
    exact len_tuple pl (by simp only [List.size_toArray] <;> omega) ⟨.int ys.length, H, I.tok _, ⟨s.toks + 1, by rw [List.size_toArray, hlen]⟩, q⟩
theorem call_len_str : CallR X (.builtin "len") (fun xs H Q => ∃ z, xs = [.str z] ∧ z.length ≤ sizeLine ∧ Q (.int z.length) H) := by
  intro pins s σ H xs us Q I r h
  obtain ⟨z, rfl, hz, q⟩ := h
  obtain ⟨u, rfl, t, rfl⟩ := vals1 r
  have hn := line63
  exact len_str (by omega) ⟨.int z.length, H, I.tok _, ⟨_, rfl⟩, q⟩
theorem CallR.or {f : Value} {r r' : List V → Hp → VK → Prop} (h : CallR X f r) (h' : CallR X f r') : CallR X f (fun xs H Q => r xs H Q ∨ r' xs H Q) := by
  intro pins s σ H xs us Q I rs q
  rcases q with q | q
  · exact h pins s σ H xs us Q I rs q
  · exact h' pins s σ H xs us Q I rs q
/-! ### the call of a builtin's method: o.m(..) -/
/-- the value is of that builtin type -/
noncomputable def tyV (K : PySem.W.Frag) (T : String) (x : V) (H : Hp) : Prop := match x with
  | .str _ => T = "str"
  | .int _ => T = "int"
  | .ref p => (T = "list" ∧ ∃ xs, SqL K H p xs) ∨ (T = "tuple" ∧ ∃ o, K.lookup p = some o ∧ o.cls = .type "tuple" ∧ o.dict = none) ∨
      (T = "dict" ∧ ((∃ kvs, H p = some (.dK kvs)) ∨ ∃ kvs, H p = some (.dT kvs))) ∨ (T = "set" ∧ ∃ S n, H p = some (.set S n))
  | _ => False
theorem tyV_is {pins : List (Addr × Obj)} {σ : St} {H : Hp} {s : Shared} {T : String} {x : V} {v : Value} (I : Inv X pins σ H s) (r : RelV x v) (ty : tyV X.K T x H) :
    s.TypeIs v T ∧ ∀ a, v = .ref a → ∃ ob, s.heap.get? a = some ob ∧ ob.dict = none := by
  cases x with
  | str z =>
    obtain ⟨t, rfl⟩ := r
    cases (show T = "str" from ty)
    exact ⟨typeIs_str s z t, fun _ e => nomatch e⟩
  | int i =>
    obtain ⟨t, rfl⟩ := r
    cases (show T = "int" from ty)
    exact ⟨typeIs_int s i t, fun _ e => nomatch e⟩
  | ref p =>
    cases r
    rcases ty with ⟨rfl, xs, hq⟩ | ⟨rfl, o, hk, hc, hd⟩ | ⟨rfl, hk⟩ | ⟨rfl, S, n, hk⟩
    · obtain ⟨its, _, pl, _⟩ := I.list hq
      refine ⟨pl.isList.typeIs, fun a e => ?_⟩
      cases e
      obtain ⟨o, n, e, c, hd, _⟩ := pl
      exact ⟨o, e, hd⟩
    · refine ⟨⟨o, I.kIn p o hk, hc⟩, fun a e => ?_⟩
      cases e
      exact ⟨o, I.kIn _ o hk, hd⟩
    · have z : ∃ o, s.heap.get? p = some o ∧ o.ExactDict := by
        rcases hk with ⟨kvs, hk⟩ | ⟨kvs, hk⟩
        · obtain ⟨_, _, _, _, o, _, _, e, ex, _⟩ := I.hok p _ hk
          exact ⟨o, e, ex⟩
        · obtain ⟨_, _, _, _, o, _, _, e, ex, _⟩ := I.hok p _ hk
          exact ⟨o, e, ex⟩
      obtain ⟨o, e, ex⟩ := z
      refine ⟨⟨o, e, ex.1⟩, fun a e2 => ?_⟩
      cases e2
      exact ⟨o, e, ex.2.1⟩
    · obtain ⟨o, _, _, _, e, ex, _⟩ := I.hok p _ hk
      refine ⟨⟨o, e, ex.1⟩, fun a e2 => ?_⟩
      cases e2
      exact ⟨o, e, ex.2.1⟩
  | _ => exact False.elim ty
noncomputable def tBM0 (K : PySem.W.Frag) (T : String) (r : V → List V → Hp → VK → Prop) (to : TE) : TE := fun σ H Q => to σ H fun x H1 => tyV K T x H1 ∧ r x [] H1 Q
noncomputable def tBM (K : PySem.W.Frag) (T : String) (r : V → List V → Hp → VK → Prop) (to : TE) (t : TA) : TE := fun σ H Q => to σ H fun x H1 => tyV K T x H1 ∧ t σ H1 fun xs H2 => r x xs H2 Q
variable {o e : Expr} {es : List Expr} {to : TE} {t : TA} {name : Str} {apos cpos : Pos} {T id : String} {r : V → List V → Hp → VK → Prop}
theorem pe_bm0 (pa : PlainAttrs T) (slot : Slot T name id) (hty : typeOf (.builtin id) = pure (.type "method_descriptor")) (hm : MtR X id r) (ho : PE X o to)
    (hbase : attributeBase o name X.env (eval o X.env) = eval o X.env := by rfl) (hline : (apos.endLine == cpos.line) = true := by rfl) : PE X (.Call (.Attribute o name apos) [] [] cpos) (tBM0 X.K T r to) := by
  intro pins s σ H Q I h
  refine wpAny_Call_method0_late hbase hline (thn (ho pins s σ H _ I h) fun v s1 ⟨x, H1, I1, r1, ty, q1⟩ => ?_)
  obtain ⟨h1, h2⟩ := tyV_is I1 r1 ty
  exact ⟨T, id, pa, slot, hty, h1, h2, Calls.callWith_builtin rfl (PySem.evalArgs_none (hm pins s1 σ H1 x [] v [] Q I1 r1 .nil q1))⟩
theorem pe_bm (pa : PlainAttrs T) (slot : Slot T name id) (hty : typeOf (.builtin id) = pure (.type "method_descriptor")) (hm : MtR X id r) (ho : PE X o to) (ha : PA X (e :: es) t)
    (hbase : attributeBase o name X.env (eval o X.env) = eval o X.env := by rfl)
    (hfew : ((backTo cpos (starEach (e :: es) X.env)).all (fun x => !x.1) && (backToKw cpos (keywordEach [] X.env)).all (fun x => x.1.isSome)
      && decide ((e :: es).length + ([] : List Keyword).length + (if ([] : List Keyword).isEmpty then 0 else 1) < 30)) = true := by rfl)
    (hline : (apos.endLine == cpos.line) = true := by rfl) (hs : starEach (e :: es) X.env = (false, eval e X.env) :: starEach es X.env := by rfl) (hplain : (backTo cpos (starEach es X.env)).any (·.1) = false := by rfl) :
    PE X (.Call (.Attribute o name apos) (e :: es) [] cpos) (tBM X.K T r to t) := by
  intro pins s σ H Q I h
  refine wpAny_Call_method_late hbase hfew hline rfl (thn (ho pins s σ H _ I h) fun v s1 ⟨x, H1, I1, r1, ty, q1⟩ => ?_)
  obtain ⟨h1, h2⟩ := tyV_is I1 r1 ty
  refine ⟨T, id, pa, slot, hty, h1, h2, ?_⟩
  have hA := ha cpos pins s1 σ H1 _ I1 q1
  rw [hs] at hA ⊢
  refine Calls.callWith_builtin (by show (false || (backTo cpos (starEach es X.env)).any (·.1)) = false; rw [hplain] <;> rfl) (Calls.evalArgs_plain ?_)
  exact thn hA fun us s2 ⟨vs, H2, I2, r2, q2⟩ => hm pins s2 σ H2 x vs v us Q I2 r1 r2 q2
/- xs.append(e), list.index on a module's tuple .. are MtR facts of 06m -/
end
end L2

namespace L2
open PySem PySem.Spec PyProof.Rows

noncomputable def MtM (X : Cx) (id : String) (r : V → List V → Hp → VK → Prop) : Prop :=
  ∀ (pins : List (Addr × Obj)) (s : Shared) (σ : St) (H : Hp) (x : V) (xs : List V) (v : Value) (us : List Value) (Q : VK), Inv X pins σ H s → RelV x v → Vals xs us → r x xs H Q →
    wpAny (model X.prog X.w) X.A (call (.builtin id) (v :: us)) (EP X pins σ Q) X.xe s

/-! ### lists of values -/
theorem Vals.one : ∀ {x : V} {us : List Value}, Vals [x] us → ∃ u, us = [u] ∧ RelV x u := by
  intro x us h
  cases h with
  | cons r t =>
    cases t
    exact ⟨_, rfl, r⟩
theorem Vals.two : ∀ {x y : V} {us : List Value}, Vals [x, y] us → ∃ u v, us = [u, v] ∧ RelV x u ∧ RelV y v := by
  intro x y us h
  cases h with
  | cons r t =>
    cases t with
    | cons q t =>
      cases t
      exact ⟨_, _, rfl, r, q⟩
theorem Vals.zero : ∀ {us : List Value}, Vals [] us → us = []
  | _, .nil => rfl
theorem Vals.reverse {xs : List V} {us : List Value} (h : Vals xs us) : Vals xs.reverse us.reverse := by
  induction h with
  | nil => exact .nil
  | cons r t ih => rw [List.reverse_cons, List.reverse_cons]; exact Vals.append ih (.cons r .nil)
section
variable {X : Cx} {pins : List (Addr × Obj)} {σ : St} {H : Hp} {s : Shared} {l b : Addr} {xs ys zs : List V}

/-! ### the two steps: a tracked list is rewritten, a new list is laid -/
theorem Inv.lset {its its' : List Value} {n : Nat} {f : Array Value → Array Value} {t' : Nat} (I : Inv X pins σ H s) (hH : H l = some (.lst xs))
    (e : s.heap.get? l = some { cls := .type "list", data := .seq its.toArray n }) (hf : f its.toArray = its'.toArray) (hv : Vals ys its') (hz : ys.length ≤ sizeLine) :
    Inv X pins σ (upd H l (.lst ys)) { s with heap := s.heap.update l (Obj.mapSeq f), toks := t' } := by
  have q := PySem.IsL.update e f
  rw [hf] at q
  refine I.write (x := l) (e := l) (by rw [hH]; exact trivial) (.inl rfl) (fun b' u hb hu => (Heap.get?_update_other s.heap (Obj.mapSeq f) (Ne.symm hb)).trans hu) ⟨_, q⟩ ?_
  exact ⟨hz, its', _, hv, q⟩
theorem Inv.fresh (I : Inv X pins σ H s) : H s.heap.objs.size = none := I.hok.fresh (Nat.le_refl _)
theorem Inv.lstM (I : Inv X pins σ H s) (hH : H l = some (.lst xs)) : xs.length ≤ sizeLine ∧ ∃ (its : List Value) (n : Nat), Vals xs its ∧ xs.length = its.length ∧ s.heap.get? l = some { cls := .type "list", data := .seq its.toArray n } := by
  obtain ⟨z, its, n, r, e⟩ := I.hok l _ hH
  exact ⟨z, its, n, r, r.length, e⟩

end

section
variable {X : Cx}

/-! ### methods -/
noncomputable def rAppend : V → List V → Hp → VK → Prop := fun x vs H Q => ∃ l xs y, x = .ref l ∧ vs = [y] ∧ H l = some (.lst xs) ∧ xs.length < sizeLine ∧ Q .non (upd H l (.lst (xs ++ [y])))
theorem mt_append : MtM X "list.append" rAppend := by
  intro pins s σ H x vs v us Q I rx rv h
  obtain ⟨l, xs, y, rfl, rfl, hH, hz, q⟩ := h
  cases rx
  obtain ⟨u, rfl, ru⟩ := rv.one
  obtain ⟨z, its, n, r, hl, e⟩ := I.lstM hH
  refine call_meets F.slot_list_append ⟨_, e, rfl⟩ F.entry_list_append (F.args_list_append_2 _ _) (PySem.list_append l its.toArray n u (by rw [List.size_toArray]; omega)) ⟨e, ?_⟩
  refine ⟨.non, _, I.lset (its' := its ++ [u]) hH e (by simp) (r.append (.cons ru .nil)) ?_, rfl, q⟩
  rw [List.length_append, List.length_singleton]
  omega

noncomputable def rReverse : V → List V → Hp → VK → Prop := fun x vs H Q => ∃ l xs, x = .ref l ∧ vs = [] ∧ H l = some (.lst xs) ∧ Q .non (upd H l (.lst xs.reverse))
theorem mt_reverse : MtM X "list.reverse" rReverse := by
  intro pins s σ H x vs v us Q I rx rv h
  obtain ⟨l, xs, rfl, rfl, hH, q⟩ := h
  cases rx
  have hus := rv.zero
  subst hus
  obtain ⟨z, its, n, r, hl, e⟩ := I.lstM hH
  refine call_meets F.slot_list_reverse ⟨_, e, rfl⟩ F.entry_list_reverse (F.args_list_reverse_1 _) (AutoSeq1.list_reverse_list_0 l its.toArray n (by rw [List.size_toArray]; omega)) ⟨e, ?_⟩
  refine ⟨.non, _, I.lset (its' := its.reverse) hH e (by simp) r.reverse ?_, rfl, q⟩
  rw [List.length_reverse]
  omega

/-! ### list + list, list += list, list * int -/
/-! ### del xs[i] -/
end

/-! ### xs[a:b] = ys -/
section
variable {prog : Program} {w : World} {A : Around} {E : Value → Shared → Prop} {s : Shared}
end

section
variable {X : Cx}
end
end L2

namespace Att
open PySem PySem.W PySem.Calls PyProof.Rows

/-! ### the script -/
theorem ints_of_wellAll {P : Params} {h : Heap} : ∀ (ns : List Int) (vs : List Value), WellAll P h vs (ns.map WData.int) → IntsAre vs ns := by
  intro ns
  induction ns with
  | nil =>
    intro vs w
    rw [List.map_nil] at w
    cases w
    exact .nil
  | cons n ns ih =>
    intro vs w
    rw [List.map_cons] at w
    cases w with
    | cons a b =>
      cases a
      exact .cons _ _ (ih _ b)

theorem script_of {l : OpenLaw} {n : Nat} (hn : l.most = some n) {P : Params} {h : Heap} {args : List WData} {vals : List Value}
    (hpre : l.row.toRowW.claim.pre args = true) (hwl : WellAll P h vals args) :
    ∃ a vs ns, vals = [Value.ref a] ∧ args = [WData.list (ns.map WData.int)] ∧ h.get? a = some { cls := .type "list", data := .seq vs.toArray } ∧ IntsAre vs ns ∧ ns.length ≤ n := by
  have hsh : WShape.hasAll [] args [.list .int] = true := (pre_splitW hpre).1
  have hc : l.pre.holds [] { args := args } = true := (pre_splitW hpre).2
  obtain ⟨d, r, rfl, h1, h2⟩ := hasAllW_cons hsh
  obtain rfl := hasAllW_nil h2
  obtain ⟨xs, rfl, h3⟩ := hasW_list h1
  obtain ⟨ns, rfl⟩ := items_int h3
  have hlen : ns.length ≤ n := by
    unfold OpenLaw.pre at hc
    have h4 : (WTm.not (.lt (.lit (.int (n : Int))) (.len (.arg 0)))).holds [] { args := [.list (ns.map .int)] } = true := by
      have h4 := (holds_andW hc).1
      rw [hn] at h4
      exact h4
    have h5 := condW_of h4 (w_not (w_lt w_lit (w_len_list (w_arg rfl))))
    rw [List.length_map] at h5
    refine Nat.le_of_not_lt fun q => ?_
    have q' : (n : Int) < ((ns.length : Nat) : Int) := by omega
    first
      | (rw [decide_eq_true q'] at h5; exact absurd h5 (by decide))
      | (simp at h5; omega)
  cases hwl with
  | cons w1 w2 =>
    cases w2
    cases w1 with
    | list ho hall => exact ⟨_, _, ns, rfl, rfl, ho, ints_of_wellAll ns _ hall, hlen⟩

theorem post_true (l : OpenLaw) (args : List WData) : l.row.toRowW.claim.post args (.bool true) args = true :=
  postW_of (r := l.row.toRowW) (X := (true == true))
    (show WShape.has [] (.bool true) .bool = true by first | rfl | decide | simp [WShape.has, WShape.arms, WShape.armsAll])
    (show (WTm.eq .res (.lit (.bool true))).value [] { args := args, res := some (.bool true), after := args } = some (.bool (true == true)) from w_eq_bool (w_res rfl) w_lit) rfl

/-! ### the attachment: holds_open's last premise (the goal 'hc' behind k_head) from a wpAny of the law's body -/
/-- the same from a codeAny of the CALL (for a layer whose function contracts speak of calls) -/
theorem attach_call {l : OpenLaw} {n : Nat} {q : Program} {loose : List Str} {XP : (Str → Option Value) → Heap → Prop} {YP : World → Heap → Prop} {d : DefRec}
    (hn : l.most = some n) (hdf : d.params.defaults = [])
    (call : ∀ (w : World) (s₀ s₁ : Shared) (mg mb : Str → Option Value) (fa : Addr) (o : Obj) (pm cd doc : Value) (a : Addr) (vs : List Value) (ns : List Int),
      Ground q loose [] XP w s₀ mg mb s₁.heap → YP w s₁.heap →
      s₁.heap.get? fa = some o → o.data = .func (docDef d.name d.params d.body d.scope pm cd doc) → s₁.heap.CodeRec cd d.name → mg d.name = some (.ref fa) →
      s₁.heap.get? a = some { cls := .type "list", data := .seq vs.toArray } → IntsAre vs ns → ns.length ≤ n → s₁.gens = #[] →
      codeAny (model l.prog w) callerA (.call (.ref fa) ⟨[.ref a], []⟩) (fun r s' => r = .ok (.ret (.bool true)) ∧ OldK s₁.heap s'.heap ∧ s'.os = s₁.os ∧ AllBare s'.gens) s₁) :
    WalkO q loose XP YP l.row.toRowW d [] (fun f vs => PySem.call f vs) := by
  intro w s₀ s₁ mg mb G Y fa o pm cd doc dV kV ho hd hcd hD hmg hg args vals as hpre hlay hrd hwl hlo
  obtain rfl : dV = .none := Dflts.none hD hdf
  obtain rfl : kV = .none := Dflts.noKw hD
  obtain ⟨a, vs, ns, rfl, rfl, hobj, hints, hlen⟩ := script_of hn hpre hwl
  refine enter_call (codeAny_mono (call w s₀ s₁ mg mb fa o pm cd doc a vs ns G Y ho (fd_plain hd) hcd hmg hobj hints hlen hg) fun r s' hq => ?_)
  obtain ⟨rfl, h2, h3, h4⟩ := hq
  exact ⟨.inl ⟨.bool true, .bool true, [], rfl, fun _ => rfl, .bool true, post_true l _, fun _ => ⟨List.Pairwise.nil, fun _ hm => (nomatch hm)⟩⟩, h2, h3, h4⟩

/-! ### rules over ANY heap (no ledger) from facts about the written part K: the library's own take a ledger (News) for what they write -/
section
variable {prog : Program} {w : World} {A : Around} {E : Value → Shared → Prop} {s : Shared} {K : Frag}

/-! the whole heap as the ledger: makes every rule that writes through a ledger a rule over any heap -/
end
end Att

namespace L2
open PySem PySem.Spec PyProof.Rows

theorem vals_ints : ∀ {vs : List Value} {ns : List Int}, IntsAre vs ns → Vals (ns.map V.int) vs
  | _, _, .nil => .nil
  | _, _, .cons n t h => .cons ⟨t, rfl⟩ (vals_ints h)

/-- nothing is tracked but the script, known to the object (or it is an object of the module) -/
noncomputable def Only (H : Hp) : Prop := ∀ b, H b = none ∨ ∃ o xs, H b = some (.frz o (.lst xs))

/-- THE HEAD: the law's promise, at the heap behind the top. F, the promise of the law's def, may use that base is part of the heap (so K.In base, base.Ns mainGlobals mg stand in Mod) -/
theorem law_call {P : Program} {w : World} {K : PySem.W.Frag} {mg mb : Str → Option Value} {CX : CXT} {k : Nat} {fa a : Addr} {fd : FuncData} {x : Str} {sp : Sp} {s₁ : Shared} {vs : List Value} {ns : List Int}
    (KX : K.In s₁.heap) (hns : s₁.heap.Ns mainGlobals mg) (hb : s₁.heap.Ns builtinsNs mb) (hbb : ∀ x : Str, x ≠ "__name__" → mb x = bootBuiltins x) (hlim : s₁.heap.NoLimit) (hg : s₁.gens = #[])
    (ha : s₁.heap.get? a = some { cls := .type "list", data := .seq vs.toArray }) (hi : IntsAre vs ns) (hl : ns.length ≤ sizeLine) (hr : Room k callerA)
    (F : ∀ base : Heap, K.In base → base.Ns mainGlobals mg → FnOk P w K mg base CX k fa fd [x] sp) (hbind : ∀ (s : Shared) (u : Value), BindsTo s fd ⟨[u], []⟩ [(x, u)])
    (hsp : ∀ H : Hp, Only H → SqL K H a (ns.map V.int) → sp [.ref a] H (fun v _ => v = .bl true) fun _ _ _ => False)
    (hCX : ∀ H e s', CX [] H s₁ (fun _ _ _ => False) e s' → False) :
    codeAny (model P w) callerA (.call (.ref fa) ⟨[.ref a], []⟩) (fun r s' => r = .ok (.ret (.bool true)) ∧ OldK s₁.heap s'.heap ∧ s'.os = s₁.os ∧ AllBare s'.gens) s₁ := by
  have rv := vals_ints hi
  have lenV := hi.length
  -- from an abstract heap in which nothing but the script may be tracked
  have core : ∀ H : Hp, Only H → SqL K H a (ns.map V.int) → HOk P w H s₁.heap → (∀ b, H b ≠ none → b = a) → (H a ≠ none → K.lookup a = none) →
      codeAny (model P w) callerA (.call (.ref fa) ⟨[.ref a], []⟩) (fun r s' => r = .ok (.ret (.bool true)) ∧ OldK s₁.heap s'.heap ∧ s'.os = s₁.os ∧ AllBare s'.gens) s₁ := by
    intro H hO hS hok hA hK
    have base_of : ∀ {b : Addr} {o : Obj}, s₁.heap.get? b = some o → H b = none → (hidT s₁.heap H).get? b = some o := fun e n => hidT_get e n
    have noA : ∀ {b : Addr} {o : Obj} {es : Array DictEntry} {ep : Nat}, s₁.heap.get? b = some o → o.data = .dict es ep → H b = none := fun {b o es ep} e d => by
      cases q : H b with
      | none => rfl
      | some u =>
        have e' : b = a := hA b (by rw [q]; simp)
        subst e'
        rw [ha] at e; cases e
        have d' : Data.seq vs.toArray _ = Data.dict es ep := d
        cases d'
    have nsK : ∀ {b : Addr} {m : Str → Option Value}, s₁.heap.Ns b m → (hidT s₁.heap H).Ns b m := fun {b m} ⟨o, es, ep, e, d, r⟩ => ⟨o, es, ep, base_of e (noA e d), d, r⟩
    have hKb : K.In (hidT s₁.heap H) := fun b o e => base_of (KX b o e) (by
      cases q : H b with
      | none => rfl
      | some u =>
        have e' : b = a := hA b (by rw [q]; simp)
        subst e'
        rw [hK (by rw [q]; simp)] at e; cases e)
    have hM : Mod K mg (hidT s₁.heap H) := ⟨hKb, nsK hns, ⟨mb, nsK hb, hbb⟩, let ⟨mc, h1, h2⟩ := hlim; ⟨mc, nsK h1, h2⟩⟩
    have e0 : Env0 P w K mg (hidT s₁.heap H) callerA [] s₁ H := ⟨rfl, hM, fun b o e => of_hidT e, Nat.le_of_eq (hidT_size _ _), trivial, fun b hb => absurd (show b ∈ ([] : List Addr) from hb) (by simp), hok, .of_eq hg⟩
    refine codeAny_mono ((F _ hKb (nsK hns)).run callerA [] s₁ H ⟨[.ref a], []⟩ [.ref a] [.ref a] _ _ hr e0 (hbind s₁ (.ref a)) (.cons rfl .nil) (hsp H hO hS)) fun r s' h => ?_
    cases r with
    | error e => exact (hCX H e s' h).elim
    | ok fl =>
      cases fl with
      | next => exact False.elim h
      | brk => exact False.elim h
      | cont => exact False.elim h
      | ret u =>
        obtain ⟨v, H', os, bare, un, hok', r', q⟩ := h
        have q' : v = .bl true := q
        subst q'
        obtain rfl : u = Value.bool true := r'
        refine ⟨rfl, OldK.of_keep fun b o e => ?_, os, bare⟩
        cases q : H b with
        | none => exact un.keep b o e q (by intro z; exact absurd (show b ∈ ([] : List Addr) from z) (by simp)) (by simp)
        | some u =>
          rcases hO b with z | ⟨ob, xs, z⟩
          · rw [q] at z; cases z
          · have z2 := un.frzs b ob _ z
            obtain ⟨e1, _⟩ := hok b _ z
            obtain ⟨e2, _⟩ := hok' b _ z2
            rw [e] at e1; cases e1
            exact e2
  cases hk : K.lookup a with
  | some o =>
    -- the script is one of the module's own objects
    have e := KX a o hk
    rw [ha] at e
    cases e
    refine core (fun _ => none) (fun _ => .inl rfl) (.inr ⟨_, vs.toArray, _, hk, rfl, rfl, rfl, by rw [List.size_toArray, lenV]; exact hl, by simpa using rv⟩) (fun b u z => by have z' : (none : Option HO) = some u := z; cases z') (fun b z => absurd rfl z) fun z => absurd rfl z
  | none =>
    refine core (fun b => if b = a then some (.frz { cls := .type "list", data := .seq vs.toArray } (.lst (ns.map V.int))) else none) (fun b => ?_) (.inl (.inr ⟨{ cls := .type "list", data := .seq vs.toArray }, if_pos rfl⟩)) (fun b u z => ?_) (fun b z => ?_) fun _ => hk
    · by_cases hb : b = a
      · exact .inr ⟨_, _, if_pos hb⟩
      · exact .inl (if_neg hb)
    · by_cases hb : b = a
      · have z' := (if_pos hb).symm.trans z
        cases z'
        subst hb
        exact ⟨ha, by rw [List.length_map]; exact hl, vs, _, rv, ha⟩
      · have z' := (if_neg hb).symm.trans z
        cases z'
    · by_cases hb : b = a
      · exact hb
      · exact absurd (if_neg hb) z
end L2

namespace L2
open PySem PySem.Spec PyProof.Rows

noncomputable abbrev KOf {K : PySem.W.Frag} {h : Heap} (_ : K.In h) : PySem.W.Frag := K

/-- the goal that k_head leaves (case hc), from the law's promise. F gives the function object fd (K's own) once, then the promise over every base -/
theorem walk_of {l : PySem.W.OpenLaw} {n k : Nat} {q : Program} {loose : List Str} {XP : (Str → Option Value) → Heap → Prop} {YP : World → Heap → Prop} {d : DefRec} {K : Params → PySem.W.Frag} {CX : World → CXT} {sp : World → Sp} {x : Str}
    (hn : l.most = some n) (hn2 : n ≤ sizeLine) (hdf : d.params.defaults = []) (hr : Room k callerA)
    (hY : ∀ (w : World) (h : Heap), YP w h → (K w.params).In h)
    (F : ∀ (w : World) (mg : Str → Option Value) (fa : Addr) (h : Heap), (K w.params).In h → h.Ns mainGlobals mg → mg d.name = some (.ref fa) →
      ∃ fd : FuncData, (∀ (s : Shared) (u : Value), BindsTo s fd ⟨[u], []⟩ [(x, u)]) ∧
        ∀ base : Heap, (K w.params).In base → base.Ns mainGlobals mg → FnOk l.prog w (K w.params) mg base (CX w) k fa fd [x] (sp w))
    (hsp : ∀ (w : World) (H : Hp) (a : Addr) (ns : List Int), ns.length ≤ n → Only H → SqL (K w.params) H a (ns.map V.int) → sp w [.ref a] H (fun v _ => v = .bl true) fun _ _ _ => False)
    (hCX : ∀ (w : World) (H : Hp) (s : Shared) (e : Value) (s' : Shared), CX w [] H s (fun _ _ _ => False) e s' → False) :
    PySem.W.WalkO q loose XP YP l.row.toRowW d [] (fun f vs => PySem.call f vs) := by
  refine Att.attach_call hn hdf fun w s₀ s₁ mg mb fa o pm cd doc a vs ns G Y ho hd hcd hmg hobj hints hlen hg => ?_
  have KX := hY w _ Y
  obtain ⟨fd, hb, hF⟩ := F w mg fa _ KX G.T.g hmg
  exact law_call KX G.T.g G.T.b G.T.builtins G.T.nolimit hg hobj hints (Nat.le_trans hlen hn2) hr hF hb (fun H hO hS => hsp w H a ns hlen hO hS) fun H e s' => hCX w H s₁ e s'
/-- the same where the promise hangs on the written part alone: (sp := My.sp_law), no hole under a binder -/
theorem walk_ofK {l : PySem.W.OpenLaw} {n k : Nat} {q : Program} {loose : List Str} {XP : (Str → Option Value) → Heap → Prop} {YP : World → Heap → Prop} {d : DefRec} {K : Params → PySem.W.Frag} {CX : CXT} {sp : PySem.W.Frag → Sp} {x : Str}
    (hn : l.most = some n) (hn2 : n ≤ sizeLine) (hdf : d.params.defaults = []) (hr : Room k callerA)
    (hY : ∀ (w : World) (h : Heap), YP w h → (K w.params).In h)
    (F : ∀ (w : World) (mg : Str → Option Value) (fa : Addr) (h : Heap), (K w.params).In h → h.Ns mainGlobals mg → mg d.name = some (.ref fa) →
      ∃ fd : FuncData, (∀ (s : Shared) (u : Value), BindsTo s fd ⟨[u], []⟩ [(x, u)]) ∧
        ∀ base : Heap, (K w.params).In base → base.Ns mainGlobals mg → FnOk l.prog w (K w.params) mg base CX k fa fd [x] (sp (K w.params)))
    (hsp : ∀ (K : PySem.W.Frag) (H : Hp) (a : Addr) (ns : List Int), ns.length ≤ n → Only H → SqL K H a (ns.map V.int) → sp K [.ref a] H (fun v _ => v = .bl true) fun _ _ _ => False)
    (hCX : ∀ (H : Hp) (s : Shared) (e : Value) (s' : Shared), CX [] H s (fun _ _ _ => False) e s' → False) :
    PySem.W.WalkO q loose XP YP l.row.toRowW d [] (fun f vs => PySem.call f vs) :=
  walk_of (K := K) (CX := fun _ => CX) (sp := fun w => sp (K w.params)) hn hn2 hdf hr hY F (fun w H a ns h1 h2 h3 => hsp (K w.params) H a ns h1 h2 h3) fun _ H s e s' => hCX H s e s'
end L2

/-! SHORT WORDS over the layer: a def of the text, its body, what a loop and a test want. -/
namespace L2
open PySem PySem.Spec PyProof.Rows

/-! ### the text by places -/
noncomputable def defArgs (s : Stmt) : Arguments := match s with
  | .FunctionDef _ a _ _ _ _ _ _ _ _ => a
  | _ => { posonlyargs := [], args := [], vararg := none, kwonlyargs := [], kw_defaults := [], kwarg := none, defaults := [] }
noncomputable def defBody (s : Stmt) : List Stmt := match s with
  | .FunctionDef _ _ b _ _ _ _ _ _ _ => b
  | _ => []
noncomputable def defScope (s : Stmt) : Scope := match s with
  | .FunctionDef _ _ _ _ _ _ sc _ _ _ => sc
  | _ => { kind := .function, names := [], isGenerator := false, isCoroutine := false }

/-! ### no exception leaves a def -/
noncomputable abbrev CX0 : CXT := fun _ _ _ _ _ _ => False
noncomputable abbrev E0 : XK := fun _ _ _ => False
theorem pass0 {X : Cx} : Passes CX0 X E0 := fun _ _ _ _ _ _ _ h => h.elim

/-! ### a def (or method) of the text as it stands behind the top -/
structure Fun (K : PySem.W.Frag) (x qual : Str) (st : Stmt) (f : Addr) (fd : FuncData) : Prop where
  ex : ∃ (oc : Value) (od : Option Addr) (kV doc pm : Value) (an : Option Addr) (cdv ct : Value) (osl : Array (Option Value)),
    fd = PySem.W.fnOf x qual (defArgs st) (defBody st) (defScope st) .none kV doc pm an cdv ct ∧ K.lookup f = some ⟨oc, od, .func fd, osl⟩ ∧ PySem.W.codeIn K cdv qual = true
  kp : PySem.W.keepIn K (.ref f) = true
section
variable {P : Program} {w : World} {K : PySem.W.Frag} {mg : Str → Option Value} {base : Heap}
/-- THE RULE for a def: its body as a term of rules, and the reading of that term -/
theorem Fun.ok {x qual : Str} {st : Stmt} {f : Addr} {fd : FuncData} {N ps : List Str} {k : Nat} {sp : Sp} (F : Fun K x qual st f fd) (S : FnScope N ps (defScope st)) (len : ∀ vs H Q E, sp vs H Q E → vs.length = ps.length)
    (hbody : ∀ (cdv : Value) (A : Around) (outer : List Env) (s : Shared) (H : Hp) (vs : List V) (Q : VK) (E : XK), Room k (A.deeper (envOfC qual (defScope st) s.heap.objs.size f cdv)) → sp vs H Q E →
      ∃ t, PSs (cxOf CX0 P w K mg base N qual (defScope st) f cdv A outer s H E).nox (defBody st) t ∧ t { nx := fun _ H' => Q .non H', rt := Q } (start N vs) H) : FnOk P w K mg base CX0 (k + 1) f fd ps sp := by
  obtain ⟨oc, od, kV, doc, pm, an, cdv, ct, osl, rfl, lk, hcd⟩ := F.ex
  refine fn_of lk hcd S len fun A outer s H vs Q E hr hsp => ?_
  obtain ⟨t, h, q⟩ := hbody cdv A outer s H vs Q E hr hsp
  exact ⟨t, h.nox, q⟩
/-- how its arguments bind (no defaults): h is «fun _ _ _ _ _ _ us hl => match us, hl with | [_, _], _ => rfl», one _ a parameter -/
theorem Fun.binds {x qual : Str} {st : Stmt} {f : Addr} {fd : FuncData} {ps : List Str} (F : Fun K x qual st f fd)
    (h : ∀ (kV doc pm : Value) (an : Option Addr) (cdv ct : Value) (us : List Value), us.length = ps.length → bindArgs (PySem.W.fnOf x qual (defArgs st) (defBody st) (defScope st) .none kV doc pm an cdv ct) ⟨us, []⟩ = pure (ps.zip us)) : Binds K fd ps [] := by
  obtain ⟨oc, od, kV, doc, pm, an, cdv, ct, osl, rfl, lk, hcd⟩ := F.ex
  exact .all (h kV doc pm an cdv ct)
theorem fun_mk {x qual : Str} {st : Stmt} {f : Addr} {oc : Value} {od an : Option Addr} {osl : Array (Option Value)} {kV doc pm cdv ct : Value} (l : K.lookup f = some ⟨oc, od, .func (PySem.W.fnOf x qual (defArgs st) (defBody st) (defScope st) .none kV doc pm an cdv ct), osl⟩)
    (c : PySem.W.codeIn K cdv qual = true) (k : PySem.W.keepIn K (.ref f) = true) : Fun K x qual st f (PySem.W.fnOf x qual (defArgs st) (defBody st) (defScope st) .none kV doc pm an cdv ct) := ⟨⟨oc, od, kV, doc, pm, an, cdv, ct, osl, rfl, l, c⟩, k⟩
end
theorem small1000 {n : Nat} (h : n ≤ 1000) : n < sizeLine := Nat.lt_of_le_of_lt h (by decide)

/-! ### expressions in short: the name that stands in the i-th slot -/
section
variable {X : Cx}
theorem pv (i : Nat) {x : Str} {pos : Pos} (hN : X.N[i]? = some x := by rfl) (hv : Vis X.env.scope x := by first | exact Or.inl rfl | exact Or.inr (Or.inl rfl) | exact Or.inr (Or.inr rfl)) (hd : (x == ("__debug__" : Str)) = false := by decide)
    (hcd : (x == ("__classdict__" : Str)) = false := by decide) : PE X (.Name x pos) (tVar i) := pe_var hN hv hd hcd
end

/-! ### tests -/
theorem iteF {A B : Prop} (h : B) : if false = true then A else B := by
  rw [if_neg Bool.false_ne_true]
  exact h
theorem iteT {A B : Prop} (h : A) : if true = true then A else B := by
  rw [if_pos rfl]
  exact h
theorem ite2 {c A B : Prop} [Decidable c] (h1 : c → A) (h2 : ¬ c → B) : if c then A else B := by
  by_cases h : c
  · rw [if_pos h]
    exact h1 h
  · rw [if_neg h]
    exact h2 h
/-! ### heaps -/
/-- all that was tracked is as it was -/
noncomputable def Same (H H' : Hp) : Prop := ∀ b o, H b = some o → H' b = some o
theorem Same.refl (H : Hp) : Same H H := fun _ _ h => h
theorem Same.trans {H H1 H2 : Hp} (a : Same H H1) (b : Same H1 H2) : Same H H2 := fun c o h => b c o (a c o h)
theorem Same.free {H H' : Hp} (e : Same H H') {l : Addr} (h : H' l = Option.none) : H l = Option.none := by
  cases q : H l with
  | none => rfl
  | some o =>
    rw [e l o q] at h
    cases h
theorem Same.seq {K : PySem.W.Frag} {H H' : Hp} {a : Addr} {xs : List V} (e : Same H H') (h : SqL K H a xs) : SqL K H' a xs := by
  rcases h with (h | ⟨o, h⟩) | h
  · exact .inl (.inl (e _ _ h))
  · exact .inl (.inr ⟨o, e _ _ h⟩)
  · exact .inr h

end L2

set_option Elab.async false
set_option linter.all false
set_option maxRecDepth 100000
set_option maxHeartbeats 4000000
namespace L2
open PySem PySem.Spec PyProof.Rows

/-! ### list comprehensions, one clause -/
/-- the cells that a block takes from around it -/
noncomputable def cloOf (env : Env) : List (Str × NameKind) → List (Str × Addr) → List (Str × Addr)
  | [], cs => cs
  | (n, k) :: r, cs => cloOf env r (if k == .free then (n, (env.cells.lookup n).getD 0) :: cs else cs)
theorem closure_is {env : Env} {scope : Scope} (h : ∀ x ∈ scope.names, x.2 = .free → ∃ c, env.cells.lookup x.1 = some c) : closureFor scope env = pure (cloOf env scope.names []) := by
  simp only [closureFor]
  have go : ∀ (l : List (Str × NameKind)) (cs : List (Str × Addr)), (∀ x ∈ l, x.2 = .free → ∃ c, env.cells.lookup x.1 = some c) →
      (forIn l cs fun (x : Str × NameKind) (r : List (Str × Addr)) => (do
        let (name, kind) := x
        if kind == .free then
          let a ← cellOf env name
          pure (ForInStep.yield ((name, a) :: r))
        else pure (ForInStep.yield r) : Sem (ForInStep (List (Str × Addr))))) = pure (cloOf env l cs) := by
    intro l
    induction l with
    | nil => intro cs _; rfl
    | cons x r ih =>
      intro cs hx
      obtain ⟨n, k⟩ := x
      rw [List.forIn_cons]
      by_cases hk : k = .free
      · obtain ⟨c, hc⟩ := hx (n, k) List.mem_cons_self hk
        subst hk
        have e : cellOf env n = pure c := by unfold cellOf; rw [hc]
        simp only [beq_self_eq_true, if_true, e, pure_bind]
        rw [ih _ fun y hy => hx y (List.mem_cons_of_mem _ hy)]
        simp only [cloOf, beq_self_eq_true, if_true, hc, Option.getD_some]
      · have hb : (k == NameKind.free) = false := by simpa using hk
        simp only [hb, Bool.false_eq_true, if_false, pure_bind]
        rw [ih _ fun y hy => hx y (List.mem_cons_of_mem _ hy)]
        simp only [cloOf, hb, Bool.false_eq_true, if_false]
  have g := go scope.names [] h
  first
    | exact (by rw [g] : _ = _)
    | (rw [← bind_pure (pure (cloOf env scope.names []))]; rw [← g]; rfl)
    | (simp only [g, pure_bind])
theorem cloOf_sub {env : Env} : ∀ (l : List (Str × NameKind)) (cs : List (Str × Addr)), (∀ x ∈ l, x.2 = .free → ∃ c, env.cells.lookup x.1 = some c) → (∀ x c, cs.lookup x = some c → env.cells.lookup x = some c) →
    ∀ x c, (cloOf env l cs).lookup x = some c → env.cells.lookup x = some c
  | [], _, _, h => h
  | (n, k) :: r, cs, hx, h => by
    refine cloOf_sub r _ (fun y hy => hx y (List.mem_cons_of_mem _ hy)) ?_
    intro x c e
    by_cases hk : k = .free
    · obtain ⟨c', hc⟩ := hx (n, k) List.mem_cons_self hk
      subst hk
      simp only [beq_self_eq_true, if_true, hc, Option.getD_some] at e
      rw [List.lookup_cons] at e
      cases q : x == n with
      | true =>
        rw [q] at e
        have q' : x = n := by simpa using q
        cases e
        rw [q']; exact hc
      | false => rw [q] at e; exact h x c e
    · have hb : (k == NameKind.free) = false := by simpa using hk
      simp only [hb, Bool.false_eq_true, if_false] at e
      exact h x c e
theorem cloOf_keeps {env : Env} : ∀ (l : List (Str × NameKind)) (cs : List (Str × Addr)) (x : Str), (∃ c, cs.lookup x = some c) → ∃ c, (cloOf env l cs).lookup x = some c
  | [], _, _, h => h
  | (n, k) :: r, cs, x, h => by
    refine cloOf_keeps r _ x ?_
    split
    · rw [List.lookup_cons]
      cases q : x == n with
      | true => exact ⟨_, rfl⟩
      | false => exact h
    · exact h
theorem cloOf_has {env : Env} : ∀ (l : List (Str × NameKind)) (cs : List (Str × Addr)) (x : Str), l.lookup x = some .free → ∃ c, (cloOf env l cs).lookup x = some c
  | [], _, _, h => by simp at h
  | (n, k) :: r, cs, x, h => by
    rw [List.lookup_cons] at h
    cases q : x == n with
    | true =>
      rw [q] at h
      cases h
      refine cloOf_keeps r _ x ?_
      simp only [beq_self_eq_true, if_true]
      rw [List.lookup_cons, q]
      exact ⟨_, rfl⟩
    | false => rw [q] at h; exact cloOf_has r _ x h
theorem relabel_look {env : Env} : ∀ {names : List (Str × NameKind)} {x : Str} {k' : NameKind},
    (names.map fun (n, k) => if (k == NameKind.free && env.scope.kind == .function && env.kindOf n == some .cell) then (n, NameKind.cell) else (n, k)).lookup x = some k' →
    ∃ k, names.lookup x = some k ∧ (k' = k ∨ (k = .free ∧ k' = .cell))
  | [], _, _, h => by simp at h
  | (n, k) :: r, x, k', h => by
    have ih := @relabel_look env r x k'
    rw [List.map_cons] at h
    by_cases hc : (k == NameKind.free && env.scope.kind == .function && env.kindOf n == some .cell) = true
    · have h2 : List.lookup x ((n, NameKind.cell) :: r.map fun (n, k) => if (k == NameKind.free && env.scope.kind == .function && env.kindOf n == some .cell) then (n, NameKind.cell) else (n, k)) = some k' := by
        simpa [hc] using h
      rw [List.lookup_cons] at h2
      rw [List.lookup_cons]
      cases q : x == n with
      | true =>
        rw [q] at h2
        cases h2
        have hk : k = .free := by
          simp only [Bool.and_eq_true] at hc
          simpa using hc.1.1
        exact ⟨k, rfl, .inr ⟨hk, rfl⟩⟩
      | false => rw [q] at h2; exact ih h2
    · have h2 : List.lookup x ((n, k) :: r.map fun (n, k) => if (k == NameKind.free && env.scope.kind == .function && env.kindOf n == some .cell) then (n, NameKind.cell) else (n, k)) = some k' := by
        simpa [hc] using h
      rw [List.lookup_cons] at h2
      rw [List.lookup_cons]
      cases q : x == n with
      | true => rw [q] at h2; cases h2; exact ⟨_, rfl, .inl rfl⟩
      | false => rw [q] at h2; exact ih h2

/-- the block's context: NL its own names, OUT names of the def around it that it reads -/
noncomputable def ccx (X : Cx) (scope : Scope) (C : Addr) (N' : List Str) (s₀ : Shared) (H₀ : Hp) (fp : List Addr) : Cx :=
  { X with N := N', s₀ := s₀, H₀ := H₀, env := compEnvC scope (cloOf X.env scope.names []) C X.env, outer := X.stack, stack := X.stack, ex := fp, fn := fun _ => false, pn := [], xe := fun _ _ => False }
/-- the block's slots at its start -/
noncomputable def cst (k : Nat) (ρ : List Nat) (σ : St) : St := List.replicate k none ++ ρ.map fun j => (σ[j]?).join
/-- what a scope must be: decided for a written one -/
structure CScope (X : Cx) (scope : Scope) (NL : List Str) (ρ : List Nat) (N' : List Str) : Prop where
  kind : scope.kind = .function
  nocell : ∀ x ∈ scope.names, x.2 ≠ .cell
  locs : ∀ x ∈ scope.names, x.2 = .local → scope.names.lookup x.1 = some .local
  frees : ∀ x ∈ scope.names, x.2 = .free → X.env.kindOf x.1 = some .cell ∨ X.env.kindOf x.1 = some .free
  names : N' = NL ++ ρ.map fun j => X.N.getD j ""
  outs : ∀ j ∈ ρ, ∃ x, X.N[j]? = some x ∧ scope.names.lookup x = some .free ∧ (X.env.scope.names.lookup x = some .cell ∨ X.env.scope.names.lookup x = some .free)
section
variable {X : Cx}
theorem cx_comp {scope : Scope} {NL N' : List Str} {ρ : List Nat} (S : CScope X scope NL ρ N') {pins : List (Addr × Obj)} {σ : St} {H : Hp} {s : Shared} {fp : List Addr} {C : Addr} (I : Inv X pins σ H s) (hf : ∀ b ∈ fp, FpOk X pins H b)
    (hfo : ∀ b ∈ fp, ∃ o, s.heap.get? b = some o) (hC : s.heap.objs.size ≤ C) : (ccx X scope C N' s H fp).Ok := by
  have free_in : ∀ x ∈ scope.names, x.2 = .free → ∃ c, X.env.cells.lookup x.1 = some c := fun x hx hk => I.ok.has x.1 (S.frees x hx hk)
  have sub := cloOf_sub (env := X.env) scope.names [] free_in (fun x c e => by simp at e)
  refine ⟨I.ok.mod, S.kind, I.ok.glob, I.ok.blt, hC, ?_, ?_, ?_, I.ok.hd, I.ok.frames, .inl rfl, ?_, I.bs, ?_, ?_, ?_, I.stack, I.stkFree⟩
  · exact fun x y c e1 e2 => I.ok.inj x y c (sub x c e1) (sub y c e2)
  · intro x hx
    have hx' : (relabel scope X.env).names.lookup x = some .cell ∨ (relabel scope X.env).names.lookup x = some .free := hx
    have look : ∀ k', (relabel scope X.env).names.lookup x = some k' → (k' = .cell ∨ k' = .free) → scope.names.lookup x = some .free := fun k' e hk => by
      obtain ⟨k, e1, z⟩ := relabel_look e
      rcases z with z | ⟨z, _⟩
      · subst z
        rcases hk with z | z
        · subst z
          have hm : (x, NameKind.cell) ∈ scope.names := mem_of_lookup e1
          exact absurd rfl (S.nocell _ hm)
        · subst z; exact e1
      · subst z; exact e1
    rcases hx' with e | e
    · exact cloOf_has scope.names [] x (look _ e (.inl rfl))
    · exact cloOf_has scope.names [] x (look _ e (.inr rfl))
  · intro x c e; exact absurd e (by show ¬ (false = true); decide)
  · intro b hb
    obtain ⟨f0, f1, f2, f3, f4, f5⟩ := hf b hb
    refine ⟨?_, fun x c e => f4 x c (sub x c e)⟩
    obtain ⟨o, ho⟩ := hfo b hb
    exact Nat.ne_of_lt (Nat.lt_of_lt_of_le (Heap.lt_size ho) hC)
  · exact Nat.le_trans I.ok.bsz I.sz
  · intro b o e hb
    obtain ⟨f0, f1, f2, f3, f4, f5⟩ := hf b hb
    rcases f3 with z | z
    · exact I.ok.noex b o e z
    · exact absurd (Nat.lt_of_lt_of_le (Heap.lt_size e) (Nat.le_trans I.ok.bsz z)) (Nat.lt_irrefl _)
  · intro b hb z
    obtain ⟨f0, f1, f2, f3, f4, f5⟩ := hf b hb
    rcases List.mem_cons.mp (I.stkSub b z) with e | e
    · exact f1 e
    · exact f2 e
end
end L2

set_option Elab.async false
set_option linter.all false
set_option maxRecDepth 100000
set_option maxHeartbeats 4000000
namespace L2
open PySem PySem.Spec PyProof.Rows
section
variable {X : Cx}
/-- the block begins: its frame at C, its list at D -/
theorem Inv.comp {scope : Scope} {NL N' : List Str} {ρ : List Nat} (S : CScope X scope NL ρ N') {pins : List (Addr × Obj)} {σ : St} {H : Hp} {s : Shared} {fp : List Addr} {C D : Addr} {h' : Heap} {t' : Nat} (I : Inv X pins σ H s) (hf : ∀ b ∈ fp, FpOk X pins H b)
    (hfo : ∀ b ∈ fp, ∃ o, s.heap.get? b = some o) (hC : s.heap.objs.size ≤ C) (hD : s.heap.objs.size ≤ D) (hDC : D ≠ C) (k : ∀ b u, s.heap.get? b = some u → h'.get? b = some u)
    (hd : h'.get? D = some { cls := .type "list", data := .seq #[] 0 }) (hn : h'.Ns C fun _ => none) :
    Inv (ccx X scope C N' s H fp) (X.pn ++ pins) (cst NL.length ρ σ) (upd H D (.lst [])) { s with heap := h', toks := t' } := by
  have ok := cx_comp S I hf hfo hC
  have free_in : ∀ x ∈ scope.names, x.2 = .free → ∃ c, X.env.cells.lookup x.1 = some c := fun x hx hk => I.ok.has x.1 (S.frees x hx hk)
  have sub := cloOf_sub (env := X.env) scope.names [] free_in (fun x c e => by simp at e)
  have fresh : ∀ b, s.heap.objs.size ≤ b → H b = none := fun b hb => I.hok.fresh hb
  have neD : ∀ b o, s.heap.get? b = some o → b ≠ D := fun b o e => Nat.ne_of_lt (Nat.lt_of_lt_of_le (Heap.lt_size e) hD)
  have neH : ∀ b u, H b = some u → b ≠ D := fun b u e => ne_of_none e (fresh D hD)
  refine ⟨ok, rfl, I.bare, ⟨fun b o e _ _ _ => k b o e, fun b o e _ _ _ => ⟨o.slots, k b o e⟩, fun b o e n _ => ?_, fun b o e _ => ⟨o, k b o e⟩, fun b xs e => ?_, fun b o u e => ?_, fun b ps e => ⟨#[], ?_⟩⟩, ⟨_, hn, ?_⟩, ?_, ?_, ?_, ?_, ?_, ?_⟩
  · show upd H D _ b = none
    rw [upd_ne (neD b o e)]; exact n
  · show upd H D _ b = _
    rw [upd_ne (neH b _ e)]; exact e
  · show upd H D _ b = _
    rw [upd_ne (neH b _ e)]; exact e
  · show upd H D _ b = _
    rw [upd_ne (neH b _ e)]
    have e' : H b = some (.tbl ps) := e
    rw [e']; simp
  · -- the names around
    intro i x v e1 e2 hv
    obtain ⟨m, hm, hl⟩ := I.loc
    have eN : (NL ++ ρ.map fun j => X.N.getD j "")[i]? = some x := by
      have e1' : N'[i]? = some x := e1
      rw [S.names] at e1'; exact e1'
    have eσ : (List.replicate NL.length (none : Option V) ++ ρ.map fun j => (σ[j]?).join)[i]? = some (some v) := e2
    by_cases hi : i < NL.length
    · rw [List.getElem?_append_left (by simpa using hi)] at eσ
      rw [List.getElem?_replicate] at eσ
      split at eσ <;> cases eσ
    · have hi' : NL.length ≤ i := Nat.le_of_not_lt hi
      rw [List.getElem?_append_right (by simpa using hi'), List.length_replicate, List.getElem?_map] at eσ
      rw [List.getElem?_append_right hi', List.getElem?_map] at eN
      cases q : ρ[i - NL.length]? with
      | none => rw [q] at eN; cases eN
      | some j =>
        rw [q] at eN eσ
        obtain ⟨y, ey, f1, f2⟩ := S.outs j (List.mem_of_getElem? q)
        have exy : X.N.getD j "" = y := by rw [List.getD_eq_getElem?_getD, ey]; rfl
        have exx : X.N.getD j "" = x := Option.some.inj eN
        have xy : x = y := exx.symm.trans exy
        subst xy
        have eσ' : (σ[j]?).join = some v := Option.some.inj eσ
        have eσ2 : σ[j]? = some (some v) := by
          cases z : σ[j]? with
          | none => rw [z] at eσ'; cases eσ'
          | some w => rw [z] at eσ'; exact congrArg some eσ'
        have vis : Vis X.env.scope x := by
          rcases f2 with z | z
          · exact .inr (.inl z)
          · exact .inr (.inr z)
        obtain ⟨u, r, l⟩ := hl j x v ey eσ2 vis
        refine ⟨u, r, ?_⟩
        obtain ⟨c, hc⟩ := cloOf_has (env := X.env) scope.names [] x f1
        rcases l with ⟨kl, _⟩ | ⟨_, c', hc', z⟩
        · have kl' : X.env.scope.names.lookup x = some .local := kl
          rcases f2 with z | z
          · rw [z] at kl'; cases kl'
          · rw [z] at kl'; cases kl'
        · have e3 := sub x c hc
          rw [hc'] at e3
          obtain rfl := Option.some.inj e3
          obtain ⟨oc, hoc, hcd⟩ := z
          have hv' : (relabel scope X.env).names.lookup x = some .local ∨ (relabel scope X.env).names.lookup x = some .cell ∨ (relabel scope X.env).names.lookup x = some .free := hv
          refine .inr ⟨?_, c', hc, oc, k _ _ hoc, hcd⟩
          rcases hv' with z | z | z
          · obtain ⟨k0, e4, z2⟩ := relabel_look z
            rw [f1] at e4
            cases e4
            rcases z2 with z2 | ⟨_, z2⟩ <;> cases z2
          · exact .inl z
          · exact .inr z
  · intro x c e
    obtain ⟨v, oc, hoc, hcd⟩ := I.cell x c (sub x c e)
    exact ⟨v, oc, k _ _ hoc, hcd⟩
  · show upd H D _ C = none
    rw [upd_ne (Ne.symm hDC)]; exact fresh C hC
  · intro x c e
    obtain ⟨v, oc, hoc, hcd⟩ := I.cell x c (sub x c e)
    rw [upd_ne (neD c oc hoc)]
    exact I.freeC x c (sub x c e)
  · intro p hp
    have hp' : p ∈ X.pn ++ pins := hp
    obtain ⟨e, n, ne, nf, d⟩ := I.pin p hp'
    refine ⟨k _ _ e, ?_, ?_, ?_, d⟩
    · rw [upd_ne (neD p.1 p.2 e)]; exact n
    · exact Nat.ne_of_lt (Nat.lt_of_lt_of_le (Heap.lt_size e) hC)
    · intro z
      rcases List.mem_cons.mp (I.stkSub p.1 z) with q | q
      · exact ne q
      · exact nf q
  · exact I.hok.laid k hD ⟨Nat.zero_le _, [], 0, .nil, hd⟩
  · show (List.replicate NL.length (none : Option V) ++ ρ.map fun j => (σ[j]?).join).length = N'.length
    rw [S.names]; simp
/-- the block has ended: only its frame may still turn -/
theorem Inv.compEnd {scope : Scope} {N' : List Str} {pins : List (Addr × Obj)} {σ σ' : St} {H H' : Hp} {s s' : Shared} {fp : List Addr} {C : Addr} {h' : Heap} {pins' : List (Addr × Obj)} (I : Inv X pins σ H s) (hf : ∀ b ∈ fp, FpOk X pins H b) (hC : s.heap.objs.size ≤ C)
    (J : Inv (ccx X scope C N' s H fp) pins' σ' H' s') (hs : Heap.SameBut C s'.heap h') : Inv X pins σ H' { s' with heap := h' } := by
  have hn : H' C = none := J.free
  have nC : ∀ b o, s.heap.get? b = some o → b ≠ C := fun b o e => Nat.ne_of_lt (Nat.lt_of_lt_of_le (Heap.lt_size e) hC)
  have B : Un (frs X.stack) fp H H' s.heap s'.heap := J.base
  have U : Un (frs X.stack) fp H H' s.heap h' := ⟨fun b o e n hb hx => (hs.2 b (nC b o e)).trans (B.keep b o e n hb hx), fun b o e n hb hx => by
      obtain ⟨sl, q⟩ := B.slot b o e n hb hx
      exact ⟨sl, (hs.2 b (nC b o e)).trans q⟩, B.free, fun b o e hx => by
      obtain ⟨o', q⟩ := B.there b o e hx
      exact ⟨o', (hs.2 b (nC b o e)).trans q⟩, B.tups, B.frzs, B.tbls⟩
  have hok : HOk X.prog X.w H' h' := fun b u e => by
    refine (J.hok b u e).stay (fun c v hc q => (hs.2 c ?_).trans q) (fun _ q => q) fun _ _ q => q
    rintro rfl
    rcases hc with rfl | hc
    · rw [hn] at e; cases e
    · rw [hn] at hc; cases hc
  refine Inv.call' (s' := { s' with heap := h' }) I J.os U hok J.bare fun b hb => ?_
  obtain ⟨f0, f1, f2, f3, f4, f5⟩ := hf b hb
  exact ⟨f3, f1, f4, f5⟩

/-- the reading. k: how many names of its own; ρ: the slots around that it reads; behind the first source: for each new list l an invariant W by the turn, a measure, what is collected -/
noncomputable def tComp (k : Nat) (ρ : List Nat) (wi : TI) (g : TG) (tb : List V → Addr → St → Hp → (List V → St → Hp → Prop) → Prop) : TE := fun σ H Q =>
  wi σ H fun J H1 => ∀ l, H1 l = none → ∃ W : Nat → Nat → List V → St → Hp → Prop, (∃ m, W 0 m [] (cst k ρ σ) (upd H1 l (.lst []))) ∧
    ∀ i m ys σ' H', W i m ys σ' H' → (J.stop i H' ∧ Q (.ref l) H') ∨ (J.go i H' ∧ ∀ x H'', J.yld i H' x H'' → g x σ' H'' fun σ2 H2 => tb ys l σ2 H2 fun ys' σ3 H3 => ∃ m', m' < m ∧ W (i + 1) m' ys' σ3 H3)
/-- the element appended -/
noncomputable def cEl (te : TE) : List V → Addr → St → Hp → (List V → St → Hp → Prop) → Prop := fun ys l σ H N => te σ H fun y H1 => H1 l = some (.lst ys) ∧ ys.length < sizeLine ∧ N (ys ++ [y]) σ (upd H1 l (.lst (ys ++ [y])))
/-- .. where a test says so -/
noncomputable def cIf (tc : TT) (te : TE) : List V → Addr → St → Hp → (List V → St → Hp → Prop) → Prop := fun ys l σ H N => tc σ H fun b H1 => if b = true then cEl te ys l σ H1 N else N ys σ H1
/-- a block's turn behind the store -/
noncomputable def PB (X : Cx) (body : Value → Sem Unit) (tb : List V → Addr → St → Hp → (List V → St → Hp → Prop) → Prop) : Prop :=
  ∀ (pins : List (Addr × Obj)) (s : Shared) (σ : St) (H : Hp) (l : Addr) (ys : List V) (N : List V → St → Hp → Prop), Inv X pins σ H s → tb ys l σ H N →
    wpAny (model X.prog X.w) X.A (body (.ref l)) (fun _ s' => ∃ ys' σ' H', Inv X pins σ' H' s' ∧ N ys' σ' H') X.xe s
theorem pb_el {elt : Expr} {te : TE} (he : PE X elt te) : PB X (fun acc => do let x ← eval elt X.env; let _ ← call (.builtin "list.append") [acc, x]; pure ()) (cEl te) := by
  intro pins s σ H l ys N I h
  refine wpAny_bind (thn (he pins s σ H _ I h) fun u s1 ⟨y, H1, I1, r1, q0, q1, q2⟩ => wpAny_bind ?_)
  refine thn (mt_append pins s1 σ H1 (.ref l) [y] (.ref l) [u] (fun v H' => v = .non ∧ N (ys ++ [y]) σ H') I1 rfl (.cons r1 .nil) ⟨l, ys, y, rfl, rfl, q0, q1, rfl, q2⟩) fun _ s2 ⟨v, H2, I2, _, _, n2⟩ => wpAny_pure ⟨_, σ, H2, I2, n2⟩
theorem pb_if {c elt : Expr} {tc : TT} {te : TE} (hc : PT X c tc) (he : PE X elt te) : PB X (fun acc => do
    let b ← isTrue c X.env (eval c X.env)
    if b then (do let x ← eval elt X.env; let _ ← call (.builtin "list.append") [acc, x]; pure ()) else pure ()) (cIf tc te) := by
  intro pins s σ H l ys N I h
  refine wpAny_bind (thn (hc pins s σ H _ I h) fun b s1 ⟨H1, I1, q1⟩ => ?_)
  cases b with
  | true => exact pb_el he pins s1 σ H1 l ys N I1 q1
  | false => exact wpAny_pure ⟨ys, σ, H1, I1, q1⟩
theorem turn_eq0 (elt target iter : Expr) (scope : Scope) (pos : Pos) (it acc : Value) (env : Env) :
    compTurn (.ListComp elt [⟨target, iter, [], 0⟩] scope pos) 0 it acc env = (standAt iter.pos >>= fun _ => pyNext it >>= fun r => match r with
      | none => pure (.done .next)
      | some v => letOwnedTupleGo target it v >>= fun _ => assign target env v >>= fun _ =>
        (do let x ← eval elt env; let _ ← call (.builtin "list.append") [acc, x]; pure () : Sem Unit) >>= fun _ => again (.compLoop (.ListComp elt [⟨target, iter, [], 0⟩] scope pos) 0 it acc env)) := by rfl
theorem turn_eq1 (elt target iter c : Expr) (scope : Scope) (pos : Pos) (it acc : Value) (env : Env) :
    compTurn (.ListComp elt [⟨target, iter, [c], 0⟩] scope pos) 0 it acc env = (standAt iter.pos >>= fun _ => pyNext it >>= fun r => match r with
      | none => pure (.done .next)
      | some v => letOwnedTupleGo target it v >>= fun _ => assign target env v >>= fun _ =>
        (do
          let b ← isTrue c env (eval c env)
          if b then (do let x ← eval elt env; let _ ← call (.builtin "list.append") [acc, x]; pure ()) else pure () : Sem Unit) >>= fun _ => again (.compLoop (.ListComp elt [⟨target, iter, [c], 0⟩] scope pos) 0 it acc env)) := by
  rw [compTurn_list]
  congr 1
  funext _
  congr 1
  funext r
  cases r with
  | none => rfl
  | some v =>
    refine congrArg (letOwnedTupleGo target it v >>= ·) (funext fun _ => ?_)
    refine congrArg (assign target env v >>= ·) (funext fun _ => ?_)
    dsimp only
    rw [List.forIn_cons]
    simp only [if_true, bind_assoc, pure_bind, List.forIn_nil]
    refine congrArg (PySem.isTrue c env (eval c env) >>= ·) (funext fun b => ?_)
    cases b
    · simp
    · simp
end
end L2

set_option Elab.async false
set_option linter.all false
set_option maxRecDepth 100000
set_option maxHeartbeats 4000000
namespace L2
open PySem PySem.Spec PyProof.Rows
section
variable {X : Cx}
theorem pe_compG {elt tgt iter : Expr} {ifs : List Expr} {scope : Scope} {pos : Pos} {NL N' : List Str} {ρ : List Nat} {wi : TI} {g : TG} {tb : List V → Addr → St → Hp → (List V → St → Hp → Prop) → Prop} {body : Value → Env → Sem Unit}
    (hc : X.calm = true) (S : CScope X scope NL ρ N') (hi : PI X tgt iter wi)
    (hg : ∀ C s₀ H₀ fp, PG (ccx X scope C N' s₀ H₀ fp) tgt g) (hb : ∀ C s₀ H₀ fp, PB (ccx X scope C N' s₀ H₀ fp) (fun acc => body acc (ccx X scope C N' s₀ H₀ fp).env) tb)
    (he : ∀ (it acc : Value) (env : Env), compTurn (.ListComp elt [⟨tgt, iter, ifs, 0⟩] scope pos) 0 it acc env = (standAt iter.pos >>= fun _ => pyNext it >>= fun r => match r with
      | none => pure (.done .next)
      | some v => letOwnedTupleGo tgt it v >>= fun _ => assign tgt env v >>= fun _ => body acc env >>= fun _ => again (.compLoop (.ListComp elt [⟨tgt, iter, ifs, 0⟩] scope pos) 0 it acc env)))
    (hs : ∀ x, foldedSetIterable iter X.env x = pure x := by intro _; rfl) : PE X (.ListComp elt [⟨tgt, iter, ifs, 0⟩] scope pos) (tComp NL.length ρ wi g tb) := by
  intro pins s σ H Q I h
  have free_in : ∀ x ∈ scope.names, x.2 = .free → ∃ c, X.env.cells.lookup x.1 = some c := fun x hx hk => I.ok.has x.1 (S.frees x hx hk)
  rw [eval_ListComp]
  refine wpAny_comprehension_free (use := none) rfl hs (closure_is free_in) S.kind S.locs ?_
  refine thn (hi pins s σ H _ I h) fun v s1 h1 => thn h1 fun itv s2 h2 => ?_
  obtain ⟨it, fp, tn, J, H2, e, I2, T, st2, f2, w⟩ := h2
  subst e
  refine wpAny_newObj_type (wpAny_newFunctionEnv S.nocell (by intro y hy; simp at hy) (fun h₁ hns₁ hsb₁ => ?_) S.kind)
  dsimp only at hns₁ hsb₁ ⊢
  generalize hH2 : s2.heap.push { cls := .type "list", dict := none, data := .seq ([] : List Value).toArray } = h2' at hns₁ hsb₁ ⊢
  have hCs : h2'.objs.size = s2.heap.objs.size + 1 := by rw [← hH2, Heap.size_push]
  have hDC : s2.heap.objs.size ≠ h2'.objs.size := by rw [hCs]; exact Nat.ne_of_lt (Nat.lt_succ_self _)
  have hC : s2.heap.objs.size ≤ h2'.objs.size := by rw [hCs]; exact Nat.le_succ _
  have old : ∀ b o, s2.heap.get? b = some o → h₁.get? b = some o := fun b o e => hsb₁.extBut b o (Nat.ne_of_lt (Nat.lt_of_lt_of_le (Heap.lt_size e) hC)) (Heap.get?_push_of_some _ (hH2 ▸ Heap.get?_push_of_some _ e))
  have hd : h₁.get? s2.heap.objs.size = some { cls := .type "list", data := .seq #[] 0 } := hsb₁.extBut _ _ hDC (Heap.get?_push_of_some _ (hH2 ▸ Heap.get?_push_size _ rfl))
  have hfo : ∀ b ∈ fp, ∃ o, s2.heap.get? b = some o := fun b hb => let ⟨o, e, _⟩ := T.obj _ _ st2 b hb; ⟨o, e⟩
  have I4 : Inv (ccx X scope h2'.objs.size N' s2 H2 fp) (X.pn ++ pins) (cst NL.length ρ σ) (upd H2 s2.heap.objs.size (.lst [])) { s2 with heap := h₁, toks := s2.toks + ([] : List (Str × Value)).length } :=
    Inv.comp S I2 f2 hfo hC (Nat.le_refl _) hDC old hd (by simpa using hns₁)
  have hD0 : H2 s2.heap.objs.size = none := I2.hok.fresh (Nat.le_refl _)
  have nfp : s2.heap.objs.size ∉ fp := fun z => by
    obtain ⟨o, e⟩ := hfo _ z
    exact absurd (Heap.lt_size e) (Nat.lt_irrefl _)
  obtain ⟨W, ⟨m0, w0⟩, turn⟩ := w s2.heap.objs.size hD0
  -- the iterator's objects
  have stat : ∀ {H' : Hp}, (∀ b ∈ fp, H' b = none) → ∀ b ∈ fp, FpOk (ccx X scope h2'.objs.size N' s2 H2 fp) (X.pn ++ pins) H' b := fun {H'} hn b hb => by
    obtain ⟨f0, f1, f2', f3, f4, f5⟩ := f2 b hb
    have ok := I4.ok
    refine ⟨hn b hb, (ok.exf b hb).1, ok.exfs b hb, .inl hb, (ok.exf b hb).2, fun p hp => f5 p hp⟩
  have loop : ∀ s₃ : Shared, s₃ = { s2 with heap := h₁, toks := s2.toks + ([] : List (Str × Value)).length } →
      codeAny (model X.prog X.w) X.A (.compLoop (.ListComp elt [⟨tgt, iter, ifs, 0⟩] scope pos) 0 (.ref it) (.ref s2.heap.objs.size) (compEnvC scope (cloOf X.env scope.names []) h2'.objs.size X.env))
        (compPost (model X.prog X.w) X.A X.xe none (EP X pins σ Q) (.ref s2.heap.objs.size) h2'.objs.size) s₃ := by
    rintro s₃ rfl
    refine codeAny_loop rfl (fun n s' => ∃ i ys σ' H', Inv (ccx X scope h2'.objs.size N' s2 H2 fp) (X.pn ++ pins) σ' H' s' ∧ tn i s'.heap ∧ (∀ b ∈ fp, H' b = none) ∧ W i n ys σ' H') (fun n s3 hI => ?_) m0
      ⟨0, [], _, _, I4, T.keep _ _ _ st2 (fun b _ o e => old b o e), fun b hb => ?_, w0⟩
    · obtain ⟨i, ys, σ3, H3, I3, st3, fr3, w3⟩ := hI
      show wpAny _ _ ((compTurn (.ListComp elt [⟨tgt, iter, ifs, 0⟩] scope pos) 0 (.ref it) (.ref s2.heap.objs.size) (compEnvC scope (cloOf X.env scope.names []) h2'.objs.size X.env)).onRaise (fun x => do noteFrame x _; theTreesLotGoes x)) _ _ s3
      refine wpAny_noted ?_
      rw [he]
      refine wpAny_bind (wpAny_standAt (wpAny_bind ?_))
      rcases turn i n ys σ3 H3 w3 with ⟨stop, qn⟩ | ⟨go, step⟩
      · refine thn (T.done (ccx X scope h2'.objs.size N' s2 H2 fp) rfl rfl rfl hc i _ s3 σ3 H3 _ I3 (stat fr3) st3 stop) fun r s4 ⟨hr, I5⟩ => ?_
        subst hr
        refine wpAny_pure ?_
        obtain ⟨m, hm, _⟩ := id I5.loc
        exact ⟨m, hm, fun h' hs' => ⟨.ref s2.heap.objs.size, H3, Inv.compEnd I2 f2 hC I5 hs', rfl, qn⟩⟩
      · refine thn (T.item (ccx X scope h2'.objs.size N' s2 H2 fp) rfl rfl rfl hc i _ s3 σ3 H3 _ I3 (stat fr3) st3 go) fun r s4 ⟨u, hr, h4⟩ => ?_
        subst hr
        refine wpAny_bind (thn h4 fun _ s5 ⟨x, H5, I5, r5, y5, st5, fr5⟩ => ?_)
        have I5' := I5.pinned (stat fr5) (T.obj _ _ st5)
        refine wpAny_bind (wpAny_mono (hg h2'.objs.size s2 H2 fp _ s5 σ3 H5 x u _ I5' r5 (step x H5 y5)) (fun _ s6 ⟨σ6, H6, I6, q6⟩ => ?_) fun _ _ z => z.elim)
        refine wpAny_bind (wpAny_mono (hb h2'.objs.size s2 H2 fp _ s6 σ6 H6 s2.heap.objs.size ys _ I6 q6) (fun _ s7 ⟨ys7, σ7, H7, I7, m', hm, w7⟩ => ?_) fun _ _ z => z.elim)
        refine wpAny_pure ⟨rfl, m', hm, i + 1, ys7, σ7, H7, I7.unpinned, T.keep _ _ _ st5 fun b hb o e => (I7.pin (b, o) (List.mem_append_right _ (List.mem_append_right _ (mem_pinsAt hb e)))).1, fun b hb => ?_, w7⟩
        obtain ⟨o, e, d⟩ := T.obj _ _ st5 b hb
        exact (I7.pin (b, o) (List.mem_append_right _ (List.mem_append_right _ (mem_pinsAt hb e)))).2.1
    · rw [upd_ne (show b ≠ s2.heap.objs.size from fun z => nfp (by rw [← z]; exact hb))]
      exact (f2 b hb).1
  refine codeAny_compStart_list (loop _ rfl) (T.self _ 0 _ _ _ ?_ (loop _ rfl))
  exact T.keep _ _ _ st2 fun b _ o e => old b o e
/-- [elt for tgt in iter] -/
theorem pe_comp {elt tgt iter : Expr} {scope : Scope} {pos : Pos} {NL N' : List Str} {ρ : List Nat} {wi : TI} {g : TG} {te : TE} (hc : X.calm = true) (S : CScope X scope NL ρ N') (hi : PI X tgt iter wi)
    (hg : ∀ C s₀ H₀ fp, PG (ccx X scope C N' s₀ H₀ fp) tgt g) (he : ∀ C s₀ H₀ fp, PE (ccx X scope C N' s₀ H₀ fp) elt te)
    (hs : ∀ x, foldedSetIterable iter X.env x = pure x := by intro _; rfl) : PE X (.ListComp elt [⟨tgt, iter, [], 0⟩] scope pos) (tComp NL.length ρ wi g (cEl te)) :=
  pe_compG (body := fun acc env => do let x ← eval elt env; let _ ← call (.builtin "list.append") [acc, x]; pure ()) hc S hi hg (fun C s₀ H₀ fp => pb_el (he C s₀ H₀ fp)) (fun it acc env => turn_eq0 elt tgt iter scope pos it acc env) hs
/-- [elt for tgt in iter if c] -/
theorem pe_compIf {elt tgt iter c : Expr} {scope : Scope} {pos : Pos} {NL N' : List Str} {ρ : List Nat} {wi : TI} {g : TG} {tc : TT} {te : TE} (hc : X.calm = true) (S : CScope X scope NL ρ N') (hi : PI X tgt iter wi)
    (hg : ∀ C s₀ H₀ fp, PG (ccx X scope C N' s₀ H₀ fp) tgt g) (ht : ∀ C s₀ H₀ fp, PT (ccx X scope C N' s₀ H₀ fp) c tc) (he : ∀ C s₀ H₀ fp, PE (ccx X scope C N' s₀ H₀ fp) elt te)
    (hs : ∀ x, foldedSetIterable iter X.env x = pure x := by intro _; rfl) : PE X (.ListComp elt [⟨tgt, iter, [c], 0⟩] scope pos) (tComp NL.length ρ wi g (cIf tc te)) :=
  pe_compG (body := fun acc env => do
    let b ← PySem.isTrue c env (eval c env)
    if b then (do let x ← eval elt env; let _ ← call (.builtin "list.append") [acc, x]; pure ()) else pure ()) hc S hi hg (fun C s₀ H₀ fp => pb_if (ht C s₀ H₀ fp) (he C s₀ H₀ fp)) (fun it acc env => turn_eq1 elt tgt iter c scope pos it acc env) hs
end
end L2

set_option Elab.async false
set_option linter.all false
set_option maxRecDepth 100000
set_option maxHeartbeats 4000000
namespace L2
open PySem PySem.Spec PyProof.Rows
section
variable {X : Cx}
/-! ### isinstance of a value and a type of Python's own -/
/-- what isinstance tells -/
inductive IsiB (K : PySem.W.Frag) (H : Hp) : V → String → Bool → Prop
  | int_int {i} : IsiB K H (.int i) "int" true
  | int_str {i} : IsiB K H (.int i) "str" false
  | int_bool {i} : IsiB K H (.int i) "bool" false
  | int_tuple {i} : IsiB K H (.int i) "tuple" false
  | int_list {i} : IsiB K H (.int i) "list" false
  | str_int {x} : IsiB K H (.str x) "int" false
  | str_str {x} : IsiB K H (.str x) "str" true
  | str_bool {x} : IsiB K H (.str x) "bool" false
  | str_tuple {x} : IsiB K H (.str x) "tuple" false
  | str_list {x} : IsiB K H (.str x) "list" false
  | bl_int {b} : IsiB K H (.bl b) "int" true
  | bl_bool {b} : IsiB K H (.bl b) "bool" true
  | bl_str {b} : IsiB K H (.bl b) "str" false
  | bl_tuple {b} : IsiB K H (.bl b) "tuple" false
  | tup_int {a xs} : SqT K H a xs → IsiB K H (.ref a) "int" false
  | tup_str {a xs} : SqT K H a xs → IsiB K H (.ref a) "str" false
  | tup_bool {a xs} : SqT K H a xs → IsiB K H (.ref a) "bool" false
  | tup_tuple {a xs} : SqT K H a xs → IsiB K H (.ref a) "tuple" true
  | tup_list {a xs} : SqT K H a xs → IsiB K H (.ref a) "list" false
  | lst_int {a xs} : SqL K H a xs → IsiB K H (.ref a) "int" false
  | lst_str {a xs} : SqL K H a xs → IsiB K H (.ref a) "str" false
  | lst_tuple {a xs} : SqL K H a xs → IsiB K H (.ref a) "tuple" false
  | lst_list {a xs} : SqL K H a xs → IsiB K H (.ref a) "list" true
theorem nsub (a b : String) (h : isSubtype (.type a) (.type b) = pure false := by rw [isSubtype_type]; kernel_rfl) : isSubtype (.type a) (.type b) = pure false := h
theorem ysub (a b : String) (h : isSubtype (.type a) (.type b) = pure true := by rw [isSubtype_type]; kernel_rfl) : isSubtype (.type a) (.type b) = pure true := h
theorem n_int_str : isSubtype (.type "int") (.type "str") = pure false := nsub _ _
theorem n_int_bool : isSubtype (.type "int") (.type "bool") = pure false := nsub _ _
theorem n_int_tuple : isSubtype (.type "int") (.type "tuple") = pure false := nsub _ _
theorem n_int_list : isSubtype (.type "int") (.type "list") = pure false := nsub _ _
theorem n_str_int : isSubtype (.type "str") (.type "int") = pure false := nsub _ _
theorem n_str_bool : isSubtype (.type "str") (.type "bool") = pure false := nsub _ _
theorem n_str_tuple : isSubtype (.type "str") (.type "tuple") = pure false := nsub _ _
theorem n_str_list : isSubtype (.type "str") (.type "list") = pure false := nsub _ _
theorem n_bool_str : isSubtype (.type "bool") (.type "str") = pure false := nsub _ _
theorem n_bool_tuple : isSubtype (.type "bool") (.type "tuple") = pure false := nsub _ _
theorem n_tuple_int : isSubtype (.type "tuple") (.type "int") = pure false := nsub _ _
theorem n_tuple_str : isSubtype (.type "tuple") (.type "str") = pure false := nsub _ _
theorem n_tuple_bool : isSubtype (.type "tuple") (.type "bool") = pure false := nsub _ _
theorem n_tuple_list : isSubtype (.type "tuple") (.type "list") = pure false := nsub _ _
theorem n_list_int : isSubtype (.type "list") (.type "int") = pure false := nsub _ _
theorem n_list_str : isSubtype (.type "list") (.type "str") = pure false := nsub _ _
theorem n_list_tuple : isSubtype (.type "list") (.type "tuple") = pure false := nsub _ _
theorem y_int : isSubtype (.type "int") (.type "int") = pure true := ysub _ _
theorem y_str : isSubtype (.type "str") (.type "str") = pure true := ysub _ _
theorem y_bool : isSubtype (.type "bool") (.type "bool") = pure true := ysub _ _
theorem y_bool_int : isSubtype (.type "bool") (.type "int") = pure true := ysub _ _
theorem y_tuple : isSubtype (.type "tuple") (.type "tuple") = pure true := ysub _ _
theorem y_list : isSubtype (.type "list") (.type "list") = pure true := ysub _ _
theorem m_int : typeOf (.type "int") = pure (.type "type") := by kernel_rfl
theorem m_str : typeOf (.type "str") = pure (.type "type") := by kernel_rfl
theorem m_bool : typeOf (.type "bool") = pure (.type "type") := by kernel_rfl
theorem m_tuple : typeOf (.type "tuple") = pure (.type "type") := by kernel_rfl
theorem m_list : typeOf (.type "list") = pure (.type "type") := by kernel_rfl
theorem call_isi : CallR X (.builtin "isinstance") (fun xs H Q => ∃ x T b, xs = [x, .ty T] ∧ IsiB X.K H x T b ∧ Q (.bl b) H) := by
  intro pins s σ H xs us Q I r h
  obtain ⟨x, T, b, rfl, hb, q⟩ := h
  obtain ⟨u, w', rfl, rx, rT⟩ := vals2 r
  cases rT
  have fin : ∀ t, EP X pins σ Q (.bool b) { s with toks := t } := fun t => ⟨.bl b, H, I.tok t, rfl, q⟩
  have fin0 : EP X pins σ Q (.bool b) s := ⟨.bl b, H, I, rfl, q⟩
  have tup : ∀ {a xs}, SqT X.K H a xs → ∃ o, s.heap.get? a = some o ∧ o.cls = .type "tuple" := fun hq => by
    obtain ⟨its, _, p, _⟩ := I.tuple hq
    obtain ⟨o, e, c, _⟩ := p
    exact ⟨o, e, c⟩
  have lst : ∀ {a xs}, SqL X.K H a xs → ∃ o, s.heap.get? a = some o ∧ o.cls = .type "list" := fun hq => by
    obtain ⟨its, _, p, _⟩ := I.list hq
    obtain ⟨o, e, c, _⟩ := p.isList
    exact ⟨o, e, c⟩
  cases hb with
  | int_int => obtain ⟨t, rfl⟩ := rx; exact call_isinstance (isinstance_true (Tx := "int") m_int y_int) ⟨rfl, fin0⟩
  | int_str => obtain ⟨t, rfl⟩ := rx; exact call_isinstance (isinstance_false_int (by decide) m_str n_int_str) (fin _)
  | int_bool => obtain ⟨t, rfl⟩ := rx; exact call_isinstance (isinstance_false_int (by decide) m_bool n_int_bool) (fin _)
  | int_tuple => obtain ⟨t, rfl⟩ := rx; exact call_isinstance (isinstance_false_int (by decide) m_tuple n_int_tuple) (fin _)
  | int_list => obtain ⟨t, rfl⟩ := rx; exact call_isinstance (isinstance_false_int (by decide) m_list n_int_list) (fin _)
  | str_int => obtain ⟨t, rfl⟩ := rx; exact call_isinstance (isinstance_false_str (by decide) m_int n_str_int) (fin _)
  | str_str => obtain ⟨t, rfl⟩ := rx; exact call_isinstance (isinstance_true (Tx := "str") m_str y_str) ⟨rfl, fin0⟩
  | str_bool => obtain ⟨t, rfl⟩ := rx; exact call_isinstance (isinstance_false_str (by decide) m_bool n_str_bool) (fin _)
  | str_tuple => obtain ⟨t, rfl⟩ := rx; exact call_isinstance (isinstance_false_str (by decide) m_tuple n_str_tuple) (fin _)
  | str_list => obtain ⟨t, rfl⟩ := rx; exact call_isinstance (isinstance_false_str (by decide) m_list n_str_list) (fin _)
  | bl_int => cases rx; exact call_isinstance (isinstance_true (Tx := "bool") m_int y_bool_int) ⟨rfl, fin0⟩
  | bl_bool => cases rx; exact call_isinstance (isinstance_true (Tx := "bool") m_bool y_bool) ⟨rfl, fin0⟩
  | bl_str => cases rx; exact call_isinstance (isinstance_false_bool (by decide) m_str n_bool_str) (fin _)
  | bl_tuple => cases rx; exact call_isinstance (isinstance_false_bool (by decide) m_tuple n_bool_tuple) (fin _)
  | tup_int hq => cases rx; exact call_isinstance (isinstance_false_tuple (by decide) m_int n_tuple_int) ⟨tup hq, fin _⟩
  | tup_str hq => cases rx; exact call_isinstance (isinstance_false_tuple (by decide) m_str n_tuple_str) ⟨tup hq, fin _⟩
  | tup_bool hq => cases rx; exact call_isinstance (isinstance_false_tuple (by decide) m_bool n_tuple_bool) ⟨tup hq, fin _⟩
  | tup_tuple hq => cases rx; exact call_isinstance (isinstance_true (Tx := "tuple") m_tuple y_tuple) ⟨tup hq, fin0⟩
  | tup_list hq => cases rx; exact call_isinstance (isinstance_false_tuple (by decide) m_list n_tuple_list) ⟨tup hq, fin _⟩
  | lst_int hq => cases rx; exact call_isinstance (isinstance_false_list (by decide) m_int n_list_int) ⟨lst hq, fin _⟩
  | lst_str hq => cases rx; exact call_isinstance (isinstance_false_list (by decide) m_str n_list_str) ⟨lst hq, fin _⟩
  | lst_tuple hq => cases rx; exact call_isinstance (isinstance_false_list (by decide) m_tuple n_list_tuple) ⟨lst hq, fin _⟩
  | lst_list hq => cases rx; exact call_isinstance (isinstance_true (Tx := "list") m_list y_list) ⟨lst hq, fin0⟩

/-! ### a text walked sign by sign -/
noncomputable def Its (z : Str) : It := ⟨fun i _ => i < z.cps.size, fun i H x H' => H' = H ∧ ∃ c, z.cps[i]? = some c ∧ x = .str ⟨#[c]⟩, fun i _ => i = z.cps.size⟩
noncomputable def iStr (te : TE) : TI := fun σ H R => te σ H fun x H1 => ∃ z, x = .str z ∧ R (Its z) H1
theorem turn_str {P : Program} {w : World} {K : PySem.W.Frag} {tg : Expr} (T : String) (it : Addr) (z : Str) (t : Tok)
    (W : ∀ A : Around, A.handled = none → Walks P w A it [it] [it] z.cps.size (SignAt z) (fun i h => h.IsStrIter it T z t i))
    (hT : ["enumerate", "zip", "dict_itemiterator", "dict_reverseitemiterator", "odict_iterator", "itertools.zip_longest", "itertools.pairwise"].contains T = false)
    (hs : ∀ (A : Around) (i : Nat) (s : Shared) (Q : Value → Shared → Prop) (E : Value → Shared → Prop), s.heap.IsStrIter it T z t i → Q (.ref it) s → wpAny (model P w) A (pyIter (.ref it)) Q E s) :
    Turn P w K tg (Its z) [it] it (fun i h => h.IsStrIter it T z t i) where
  mem := by simp
  obj := fun i h st b hb => by
    have e : b = it := by simpa using hb
    subst e
    obtain ⟨o, e, c, d⟩ := st
    exact ⟨o, e, fun v z => by rw [d] at z; cases z⟩
  keep := fun i h h' st k => by
    obtain ⟨o, e, c, d⟩ := st
    exact ⟨o, k it (by simp) o e, c, d⟩
  item := by
    intro X hP hw hK hc i pins s σ H E I hf st hg
    subst hP hw hK
    obtain ⟨f0, f1, f2, f3, f4, f5⟩ := hf it (by simp)
    refine (W X.A (I.ok.hd hc)).item i s _ _ hg st fun v h' tk hv st' kk => ?_
    obtain ⟨c, u, hcz, rfl⟩ := hv
    have I1 : Inv X pins σ H { s with heap := h', toks := tk } := I.turned (fun b o hb e => kk b o (by simpa using hb) e) f0 f1 f3 f4 f5
    obtain ⟨o, e, cl, d⟩ := id st'
    exact ⟨_, rfl, go_of (s := { s with heap := h', toks := tk }) e cl d hT ⟨.str ⟨#[c]⟩, H, I1, ⟨u, rfl⟩, ⟨rfl, c, hcz, rfl⟩, st', fun b hb => (hf b hb).1⟩⟩
  done := by
    intro X hP hw hK hc i pins s σ H E I hf st hg
    subst hP hw hK
    obtain ⟨f0, f1, f2, f3, f4, f5⟩ := hf it (by simp)
    have hi : i = z.cps.size := hg
    subst hi
    exact (W X.A (I.ok.hd hc)).done s _ _ st fun h' tk kk => ⟨rfl, I.turned (fun b o hb e => kk b o (by simpa using hb) e) f0 f1 f3 f4 f5⟩
  self := hs
theorem pi_str {tg l : Expr} {tl : TE} (hl : PE X l tl) : PI X tg l (iStr tl) := by
  intro pins s σ H R I h
  refine thn (hl pins s σ H _ I h) fun v s1 ⟨x, H1, I1, r1, q1⟩ => ?_
  obtain ⟨z, rfl, q⟩ := q1
  obtain ⟨t, rfl⟩ := r1
  have fp : ∀ (o : Obj), ∀ b ∈ [s1.heap.objs.size], FpOk X pins H1 b := fun o b hb => by
    have e : b = s1.heap.objs.size := by simpa using hb
    subst e
    exact I1.fpOk (Nat.le_refl _) (I1.hok.fresh (Nat.le_refl _))
  cases ha : z.cps.all (· < 128)
  · refine wpAny_pyIter_wide ha ?_
    exact ⟨s1.heap.objs.size, [s1.heap.objs.size], _, _, H1, rfl, I1.kept (t' := s1.toks) fun b o e => Heap.get?_push_of_some _ e,
      turn_str "str_iterator" _ z t (fun A hA => Walks.strWide hA _ z t) (by decide) (fun _ _ _ _ _ st h => wpAny_pyIter_striter_wide st h), ⟨_, Heap.get?_push_size _ rfl, rfl, rfl⟩, fp default, q⟩
  · refine wpAny_pyIter_ascii ha ?_
    exact ⟨s1.heap.objs.size, [s1.heap.objs.size], _, _, H1, rfl, I1.kept (t' := s1.toks) fun b o e => Heap.get?_push_of_some _ e,
      turn_str "str_ascii_iterator" _ z t (fun A hA => Walks.strAscii hA _ z t) (by decide) (fun _ _ _ _ _ st h => wpAny_pyIter_striter_ascii st h), ⟨_, Heap.get?_push_size _ rfl, rfl, rfl⟩, fp default, q⟩

/-! ### all, any of a list of bools; sum of a list of ints -/
noncomputable def bls : List Bool → List V := List.map V.bl
theorem call_all : CallR X (.builtin "all") (fun xs H Q => ∃ p ys, xs = [.ref p] ∧ X.calm = true ∧ SqL X.K H p (bls ys) ∧ Q (.bl (ys.all id)) H) := by
  intro pins s σ H xs us Q I r h
  obtain ⟨p, ys, rfl, hcm, hq, q⟩ := h
  obtain ⟨u, rfl, rx⟩ := vals1 r
  cases rx
  obtain ⟨its, r', pl, hz⟩ := I.list hq
  have hh : X.A.in1.handled = none := I.ok.hd hcm
  have hne : p ≠ s.heap.objs.size := by
    obtain ⟨o, e, _⟩ := pl.isList
    exact Nat.ne_of_lt (Heap.lt_size e)
  have hlen : its.length = ys.length := by rw [← r'.length]; simp [bls]
  refine call_all_walk (wpAny_pyIter_list pl.isList ⟨s.heap.objs.size, _, _, _, _, _, fun i => ys.getD i true, rfl, Walks.list hh _ p hne its.toArray, ⟨⟨_, Heap.get?_push_size _ rfl, rfl, rfl⟩, pl.isList.at fun o e => Heap.get?_push_of_some _ e⟩, ?_, ?_⟩)
  · intro i v s' Q' E' hv hQ
    have hv' : its[i]? = some v := by simpa using hv
    have hi : i < ys.length := by
      rw [← hlen]
      exact (List.getElem?_eq_some_iff.mp hv').1
    have e1 : (bls ys)[i]? = some (V.bl ys[i]) := by simp [bls, hi]
    obtain ⟨u, hu, ru⟩ := r'.get e1
    rw [hv'] at hu
    obtain rfl := Option.some.inj hu
    cases ru
    refine wpAny_truthy_bool ?_
    have e2 : ys.getD i true = ys[i] := by simp [List.getD_eq_getElem?_getD, hi]
    have hQ' : Q' (ys.getD i true) s' := hQ
    rw [e2] at hQ'
    exact hQ'
  · intro h' tk kk
    have e3 : (List.range its.toArray.size).all (fun i => ys.getD i true) = ys.all id := by
      rw [List.size_toArray, hlen]
      rw [Bool.eq_iff_iff, List.all_eq_true, List.all_eq_true]
      constructor
      · intro g x hx
        obtain ⟨i, hi, rfl⟩ := List.mem_iff_getElem.mp hx
        have := g i (List.mem_range.mpr hi)
        simpa [List.getD_eq_getElem?_getD, hi] using this
      · intro g i hi
        have hi' := List.mem_range.mp hi
        have := g ys[i] (List.getElem_mem hi')
        simpa [List.getD_eq_getElem?_getD, hi'] using this
    rw [e3]
    refine ⟨.bl _, H, ?_, rfl, q⟩
    have I1 : Inv X pins σ H { s with heap := s.heap.push { cls := .type "list_iterator", data := .fields #[.ref p, .int 0 0] } } := I.kept (t' := s.toks) fun b o e => Heap.get?_push_of_some _ e
    exact I.kept (t' := tk) fun b o e => kk b o (by
      intro z
      have z' : b = s.heap.objs.size := by simpa using z
      exact absurd (Heap.lt_size e) (by rw [z']; exact Nat.lt_irrefl _)) (Heap.get?_push_of_some _ e)
end
end L2

set_option Elab.async false
set_option linter.all false
set_option maxRecDepth 100000
set_option maxHeartbeats 4000000
namespace L2
open PySem PySem.Spec PyProof.Rows
section
variable {X : Cx}
theorem call_any : CallR X (.builtin "any") (fun xs H Q => ∃ p ys, xs = [.ref p] ∧ X.calm = true ∧ SqL X.K H p (bls ys) ∧ Q (.bl (ys.any id)) H) := by
  intro pins s σ H xs us Q I r h
  obtain ⟨p, ys, rfl, hcm, hq, q⟩ := h
  obtain ⟨u, rfl, rx⟩ := vals1 r
  cases rx
  obtain ⟨its, r', pl, hz⟩ := I.list hq
  have hh : X.A.in1.handled = none := I.ok.hd hcm
  have hne : p ≠ s.heap.objs.size := by
    obtain ⟨o, e, _⟩ := pl.isList
    exact Nat.ne_of_lt (Heap.lt_size e)
  have hlen : its.length = ys.length := by rw [← r'.length]; simp [bls]
  refine call_any_walk (wpAny_pyIter_list pl.isList ⟨s.heap.objs.size, _, _, _, _, _, fun i => ys.getD i false, rfl, Walks.list hh _ p hne its.toArray, ⟨⟨_, Heap.get?_push_size _ rfl, rfl, rfl⟩, pl.isList.at fun o e => Heap.get?_push_of_some _ e⟩, ?_, ?_⟩)
  · intro i v s' Q' E' hv hQ
    have hv' : its[i]? = some v := by simpa using hv
    have hi : i < ys.length := by
      rw [← hlen]
      exact (List.getElem?_eq_some_iff.mp hv').1
    have e1 : (bls ys)[i]? = some (V.bl ys[i]) := by simp [bls, hi]
    obtain ⟨u, hu, ru⟩ := r'.get e1
    rw [hv'] at hu
    obtain rfl := Option.some.inj hu
    cases ru
    refine wpAny_truthy_bool ?_
    have e2 : ys.getD i false = ys[i] := by simp [List.getD_eq_getElem?_getD, hi]
    have hQ' : Q' (ys.getD i false) s' := hQ
    rw [e2] at hQ'
    exact hQ'
  · intro h' tk kk
    have e3 : (List.range its.toArray.size).any (fun i => ys.getD i false) = ys.any id := by
      rw [List.size_toArray, hlen]
      rw [Bool.eq_iff_iff, List.any_eq_true, List.any_eq_true]
      constructor
      · rintro ⟨i, hi, g⟩
        have hi' := List.mem_range.mp hi
        exact ⟨ys[i], List.getElem_mem hi', by simpa [List.getD_eq_getElem?_getD, hi'] using g⟩
      · rintro ⟨x, hx, g⟩
        obtain ⟨i, hi, rfl⟩ := List.mem_iff_getElem.mp hx
        exact ⟨i, List.mem_range.mpr hi, by simpa [List.getD_eq_getElem?_getD, hi] using g⟩
    rw [e3]
    refine ⟨.bl _, H, ?_, rfl, q⟩
    have I1 : Inv X pins σ H { s with heap := s.heap.push { cls := .type "list_iterator", data := .fields #[.ref p, .int 0 0] } } := I.kept (t' := s.toks) fun b o e => Heap.get?_push_of_some _ e
    exact I.kept (t' := tk) fun b o e => kk b o (by
      intro z
      have z' : b = s.heap.objs.size := by simpa using z
      exact absurd (Heap.lt_size e) (by rw [z']; exact Nat.lt_irrefl _)) (Heap.get?_push_of_some _ e)

theorem preSum_take (ns : List Int) : ∀ n, n ≤ ns.length → preSum (fun i => ns.getD i 0) n = (ns.take n).sum
  | 0, _ => by simp [preSum]
  | n + 1, h => by
    have hn : n < ns.length := h
    rw [preSum, preSum_take ns n (Nat.le_of_lt hn), List.take_add_one, List.sum_append]
    simp [List.getD_eq_getElem?_getD, hn]
/-- sum of a list of ints -/
theorem call_sum : CallR X (.builtin "sum") (fun xs H Q => ∃ (p : Addr) (ns : List Int), xs = [.ref p] ∧ X.calm = true ∧ SqL X.K H p (ns.map V.int) ∧ Q (.int ns.sum) H) := by
  intro pins s σ H xs us Q I r h
  obtain ⟨p, ns, rfl, hcm, hq, q⟩ := h
  obtain ⟨u, rfl, rx⟩ := vals1 r
  cases rx
  obtain ⟨its, r', pl, hz⟩ := I.list hq
  have hh : X.A.in1.handled = none := I.ok.hd hcm
  have hlt : p < s.heap.objs.size := by
    obtain ⟨o, e, _⟩ := pl.isList
    exact Heap.lt_size e
  have hne : p ≠ s.heap.objs.size := Nat.ne_of_lt hlt
  have hlen : its.length = ns.length := by rw [← r'.length]; simp
  refine call_sum_walkG (wpAny_pyIter_list pl.isList ⟨s.heap.objs.size, _, _, _, _, _, fun i => ns.getD i 0, rfl, Walks.list hh _ p hne its.toArray, ⟨⟨_, Heap.get?_push_size _ rfl, rfl, rfl⟩, pl.isList.at fun o e => Heap.get?_push_of_some _ e⟩, ?_, ?_, ?_⟩)
  · intro b hb
    have hb' : b = s.heap.objs.size ∨ b = p := by simpa using hb
    show b < (s.heap.push _).objs.size
    rw [Heap.size_push]
    rcases hb' with e | e
    · exact e ▸ Nat.lt_succ_self _
    · exact Nat.lt_succ_of_lt (e ▸ hlt)
  · intro i v hv
    have hv' : its[i]? = some v := by simpa using hv
    have hi : i < ns.length := by
      rw [← hlen]
      exact (List.getElem?_eq_some_iff.mp hv').1
    have e1 : (ns.map V.int)[i]? = some (V.int ns[i]) := by simp [hi]
    obtain ⟨u, hu, ru⟩ := r'.get e1
    rw [hv'] at hu
    obtain rfl := Option.some.inj hu
    obtain ⟨t, rfl⟩ := ru
    exact ⟨t, by simp [List.getD_eq_getElem?_getD, hi]⟩
  · intro h' tk t' kk
    have e3 : preSum (fun i => ns.getD i 0) its.toArray.size = ns.sum := by
      rw [List.size_toArray, hlen, preSum_take ns _ (Nat.le_refl _), List.take_length]
    rw [e3]
    refine ⟨.int _, H, ?_, ⟨_, rfl⟩, q⟩
    exact I.kept (t' := tk) fun b o e => kk b o (by
      intro z
      have z' : b = s.heap.objs.size := by simpa using z
      exact absurd (Heap.lt_size e) (by rw [z']; exact Nat.lt_irrefl _)) (Heap.get?_push_of_some _ e)
/-! ### a slice of a text -/
noncomputable def rSlS : V → Option Int → Option Int → Hp → VK → Prop := fun x lo hi H Q => ∃ z, x = .str z ∧ z.length ≤ sizeLine ∧ Q (.str (Txt.slice z lo hi)) H
theorem sl_str : SlR X rSlS := by
  intro pins s σ H x v vl vu lo hi sl Q I rx hs pl pu h
  obtain ⟨z, rfl, hz, q⟩ := h
  obtain ⟨t, rfl⟩ := rx
  refine ⟨"str", _, F.slot_str_getitem.lookup, typeIs_str _ _ _, ?_⟩
  have fin : ∀ t' k, EP X pins σ Q (.str (Txt.slice z lo hi) t') { s with toks := k } := fun t' k => ⟨.str _, H, I.tok k, ⟨t', rfl⟩, q⟩
  cases pl with
  | none =>
    cases pu with
    | none => exact wpAny_getItem_str_slice (l := none) (u := none) (st := none) hs rfl (post_val_or_str ⟨Nat.le_trans (Txt.slice_le z _ _) hz, fun t' k => fin t' k⟩)
    | int j uj => exact wpAny_getItem_str_slice (l := none) (u := some (j, uj)) (st := none) hs rfl (post_val_or_str ⟨Nat.le_trans (Txt.slice_le z _ _) hz, fun t' k => fin t' k⟩)
  | int i ui =>
    cases pu with
    | none => exact wpAny_getItem_str_slice (l := some (i, ui)) (u := none) (st := none) hs rfl (post_val_or_str ⟨Nat.le_trans (Txt.slice_le z _ _) hz, fun t' k => fin t' k⟩)
    | int j uj => exact wpAny_getItem_str_slice (l := some (i, ui)) (u := some (j, uj)) (st := none) hs rfl (post_val_or_str ⟨Nat.le_trans (Txt.slice_le z _ _) hz, fun t' k => fin t' k⟩)
/-! ### is True, is False -/
theorem op_isnot_bl : OpR X (compareOp .IsNot) (fun x y H Q => ∃ b c, x = .bl b ∧ y = .bl c ∧ Q (.bl (b != c)) H) := by
  intro pins s σ H x y v u Q I rx ry h
  obtain ⟨b, c, rfl, rfl, q⟩ := h
  cases rx
  cases ry
  exact isnot_bool ⟨.bl _, H, I, rfl, q⟩
end
end L2

set_option Elab.async false
set_option linter.all false
set_option maxRecDepth 100000
set_option maxHeartbeats 4000000
namespace L2
open PySem PySem.Spec PyProof.Rows
theorem same_new {H : Hp} {p : Addr} (h : H p = none) (o : HO) : Same H (upd H p o) := fun b u q => by rw [upd_ne (ne_of_none q h)]; exact q
/-- all but r as it was -/
noncomputable def But (r : Addr) (H H' : Hp) : Prop := ∀ b o, b ≠ r → H b = some o → H' b = some o
theorem But.refl (r : Addr) (H : Hp) : But r H H := fun _ _ _ h => h
theorem But.trans {r : Addr} {H H1 H2 : Hp} (a : But r H H1) (b : But r H1 H2) : But r H H2 := fun c o n h => b c o n (a c o n h)
theorem But.same {r : Addr} {H H1 : Hp} (a : Same H H1) : But r H H1 := fun c o _ h => a c o h
theorem But.put {r : Addr} {H : Hp} {o : HO} : But r H (upd H r o) := fun c u n h => by rw [upd_ne n]; exact h
theorem But.seq {K : PySem.W.Frag} {r : Addr} {H H' : Hp} {a : Addr} {xs : List V} (e : But r H H') (n : a ≠ r) (h : SqL K H a xs) : SqL K H' a xs := by
  rcases h with (h | ⟨o, h⟩) | h
  · exact .inl (.inl (e _ _ n h))
  · exact .inl (.inr ⟨o, e _ _ n h⟩)
  · exact .inr h
theorem But.tup {K : PySem.W.Frag} {r : Addr} {H H' : Hp} {a : Addr} {xs : List V} (e : But r H H') (n : a ≠ r) (h : SqT K H a xs) : SqT K H' a xs := by
  rcases h with (h | ⟨o, h⟩) | h
  · exact .inl (.inl (e _ _ n h))
  · exact .inl (.inr ⟨o, e _ _ n h⟩)
  · exact .inr h
theorem Same.tup {K : PySem.W.Frag} {H H' : Hp} {a : Addr} {xs : List V} (e : Same H H') (h : SqT K H a xs) : SqT K H' a xs := by
  rcases h with (h | ⟨o, h⟩) | h
  · exact .inl (.inl (e _ _ h))
  · exact .inl (.inr ⟨o, e _ _ h⟩)
  · exact .inr h
/-- a block that takes nothing from around it -/
theorem cs0 {X : Cx} {scope : Scope} {NL : List Str} (h1 : scope.kind = .function) (h2 : (scope.names.all fun x => x.2 != .cell && x.2 != .free) = true)
    (h3 : ∀ x ∈ scope.names, x.2 = .local → scope.names.lookup x.1 = some .local) : CScope X scope NL [] NL := by
  rw [List.all_eq_true] at h2
  refine ⟨h1, fun x hx e => ?_, h3, fun x hx e => ?_, by simp, fun j hj => by simp at hj⟩
  · have := h2 x hx
    rw [e] at this
    exact absurd this (by decide)
  · have := h2 x hx
    rw [e] at this
    exact absurd this (by decide)
/-- a block over a text -/
theorem comp_str {z : Str} {l : Addr} {g : TG} {tb : List V → Addr → St → Hp → (List V → St → Hp → Prop) → Prop} {Q : VK} {σ0 : St} {H0 : Hp} (Pv : Nat → List V → St → Hp → Prop) (h0 : Pv 0 [] σ0 H0)
    (hs : ∀ i c ys σ H (N : List V → St → Hp → Prop), z.cps[i]? = some c → Pv i ys σ H → (∀ ys' σ' H', Pv (i + 1) ys' σ' H' → N ys' σ' H') → g (.str ⟨#[c]⟩) σ H fun σ2 H2 => tb ys l σ2 H2 N)
    (hd : ∀ ys σ H, Pv z.cps.size ys σ H → Q (.ref l) H) :
    ∃ W : Nat → Nat → List V → St → Hp → Prop, (∃ m, W 0 m [] σ0 H0) ∧ ∀ i m ys σ' H', W i m ys σ' H' → ((Its z).stop i H' ∧ Q (.ref l) H') ∨
      ((Its z).go i H' ∧ ∀ x H'', (Its z).yld i H' x H'' → g x σ' H'' fun σ2 H2 => tb ys l σ2 H2 fun ys' σ3 H3 => ∃ m', m' < m ∧ W (i + 1) m' ys' σ3 H3) := by
  refine ⟨fun i m ys σ H => m = z.cps.size - i ∧ i ≤ z.cps.size ∧ Pv i ys σ H, ⟨z.cps.size, by simp, Nat.zero_le _, h0⟩, ?_⟩
  rintro i m ys σ H ⟨rfl, hi, p⟩
  by_cases hlt : i < z.cps.size
  · refine .inr ⟨hlt, fun x H' y => ?_⟩
    obtain ⟨e, c, hc, rfl⟩ := y
    subst e
    exact hs i c ys σ _ _ hc p fun ys' σ' H' q => ⟨_, by omega, rfl, hlt, q⟩
  · have e : i = z.cps.size := by omega
    subst e
    exact .inl ⟨rfl, hd ys σ H p⟩
/-- .. over a range -/
theorem comp_range {lo : Int} {n : Nat} {l : Addr} {g : TG} {tb : List V → Addr → St → Hp → (List V → St → Hp → Prop) → Prop} {Q : VK} {σ0 : St} {H0 : Hp} (Pv : Nat → List V → St → Hp → Prop) (h0 : Pv 0 [] σ0 H0)
    (hs : ∀ i ys σ H (N : List V → St → Hp → Prop), i < n → Pv i ys σ H → (∀ ys' σ' H', Pv (i + 1) ys' σ' H' → N ys' σ' H') → g (.int (lo + i)) σ H fun σ2 H2 => tb ys l σ2 H2 N)
    (hd : ∀ ys σ H, Pv n ys σ H → Q (.ref l) H) :
    ∃ W : Nat → Nat → List V → St → Hp → Prop, (∃ m, W 0 m [] σ0 H0) ∧ ∀ i m ys σ' H', W i m ys σ' H' → ((Itr lo n).stop i H' ∧ Q (.ref l) H') ∨
      ((Itr lo n).go i H' ∧ ∀ x H'', (Itr lo n).yld i H' x H'' → g x σ' H'' fun σ2 H2 => tb ys l σ2 H2 fun ys' σ3 H3 => ∃ m', m' < m ∧ W (i + 1) m' ys' σ3 H3) := by
  refine ⟨fun i m ys σ H => m = n - i ∧ i ≤ n ∧ Pv i ys σ H, ⟨n, by simp, Nat.zero_le _, h0⟩, ?_⟩
  rintro i m ys σ H ⟨rfl, hi, p⟩
  by_cases hlt : i < n
  · refine .inr ⟨hlt, fun x H' y => ?_⟩
    obtain ⟨e, rfl⟩ := y
    subst e
    exact hs i ys σ _ _ hlt p fun ys' σ' H' q => ⟨_, by omega, rfl, hlt, q⟩
  · have e : i = n := by omega
    subst e
    exact .inl ⟨Nat.le_refl _, hd ys σ H p⟩
theorem comp_tup {K : PySem.W.Frag} {a : Addr} {xs : List V} {l : Addr} {g : TG} {tb : List V → Addr → St → Hp → (List V → St → Hp → Prop) → Prop} {Q : VK} {σ0 : St} {H0 : Hp} (Pv : Nat → List V → St → Hp → Prop) (h0 : Pv 0 [] σ0 H0) (hl : ∀ i ys σ H, i ≤ xs.length → Pv i ys σ H → SqT K H a xs)
    (hs : ∀ i x ys σ H (N : List V → St → Hp → Prop), xs[i]? = some x → Pv i ys σ H → (∀ ys' σ' H', Pv (i + 1) ys' σ' H' → N ys' σ' H') → g x σ H fun σ2 H2 => tb ys l σ2 H2 N)
    (hd : ∀ ys σ H, Pv xs.length ys σ H → Q (.ref l) H) :
    ∃ W : Nat → Nat → List V → St → Hp → Prop, (∃ m, W 0 m [] σ0 H0) ∧ ∀ i m ys σ' H', W i m ys σ' H' → ((Itt K a).stop i H' ∧ Q (.ref l) H') ∨
      ((Itt K a).go i H' ∧ ∀ x H'', (Itt K a).yld i H' x H'' → g x σ' H'' fun σ2 H2 => tb ys l σ2 H2 fun ys' σ3 H3 => ∃ m', m' < m ∧ W (i + 1) m' ys' σ3 H3) := by
  refine ⟨fun i m ys σ H => m = xs.length - i ∧ i ≤ xs.length ∧ Pv i ys σ H, ⟨xs.length, by simp, Nat.zero_le _, h0⟩, ?_⟩
  rintro i m ys σ H ⟨rfl, hi, p⟩
  have q := hl i ys σ H hi p
  by_cases hlt : i < xs.length
  · refine .inr ⟨⟨xs, xs[i], q, by simp [hlt]⟩, fun x H' y => ?_⟩
    obtain ⟨e, y⟩ := y
    subst e
    exact hs i x ys σ _ _ (y xs q) p fun ys' σ' H' q => ⟨_, by omega, rfl, hlt, q⟩
  · have e : i = xs.length := by omega
    subst e
    exact .inl ⟨⟨xs, q, Nat.le_refl _⟩, hd ys σ H p⟩
/-- a module's constant -/
theorem pe_gint {X : Cx} {x : Str} {i : Int} {t : Tok} {pos : Pos} (hg : Gl X x) (hm : X.mg x = some (.int i t)) (hd : (x == ("__debug__" : Str)) = false := by decide) : PE X (.Name x pos) (tC (.int i)) := pe_glob hg hm ⟨_, rfl⟩ hd
theorem pe_gty {X : Cx} {x : Str} {n : String} {pos : Pos} (hg : Gl X x) (hm : X.mg x = none) (hv : bootBuiltins x = some (.type n)) (hn : x ≠ "__name__" := by decide) (hd : (x == ("__debug__" : Str)) = false := by decide) : PE X (.Name x pos) (tC (.ty n)) := pe_bltn hg hm hv rfl hn hd
/-- a def of the text: its object, how it binds, its name -/
structure Gn (K : PySem.W.Frag) (mg : Str → Option Value) (x : Str) (st : Stmt) (ps : List Str) (f : Addr) (fd : FuncData) : Prop where
  F : Fun K x x st f fd
  b : Binds K fd ps []
  m : mg x = some (.ref f)
end L2

set_option Elab.async false
set_option linter.all false
set_option maxRecDepth 100000
set_option maxHeartbeats 4000000
namespace L2
open PySem PySem.Spec PyProof.Rows
/-- a datum: what nested tuples hold -/
inductive Dt where
  | non | bl (b : Bool) | int (i : Int) | str (z : Str) | tup (l : List Dt)
mutual
inductive IsD (K : PySem.W.Frag) (H : Hp) : Dt → V → Prop
  | non : IsD K H .non .non
  | bl {b} : IsD K H (.bl b) (.bl b)
  | int {i} : IsD K H (.int i) (.int i)
  | str {z} : IsD K H (.str z) (.str z)
  | tup {l : List Dt} {a : Addr} {xs : List V} : SqT K H a xs → IsDs K H l xs → IsD K H (.tup l) (.ref a)
inductive IsDs (K : PySem.W.Frag) (H : Hp) : List Dt → List V → Prop
  | nil : IsDs K H [] []
  | cons {d : Dt} {l : List Dt} {x : V} {xs : List V} : IsD K H d x → IsDs K H l xs → IsDs K H (d :: l) (x :: xs)
end
mutual
noncomputable def Dt.dep : Dt → Nat
  | .tup l => depS l + 1
  | _ => 0
noncomputable def depS : List Dt → Nat
  | [] => 0
  | d :: l => max d.dep (depS l)
end
mutual
noncomputable def eqD : Dt → Dt → Bool
  | .non, .non => true
  | .bl a, .bl b => a == b
  | .bl a, .int i => (if a then 1 else 0) == i
  | .int i, .bl a => i == (if a then 1 else 0)
  | .int i, .int j => i == j
  | .str x, .str y => x == y
  | .tup l, .tup m => eqDs l m
  | _, _ => false
noncomputable def eqDs : List Dt → List Dt → Bool
  | [], [] => true
  | d :: l, e :: m => eqD d e && eqDs l m
  | _, _ => false
end
mutual
noncomputable def Dt.plain : Dt → Bool
  | .bl _ => false
  | .tup l => plainS l
  | _ => true
noncomputable def plainS : List Dt → Bool
  | [] => true
  | d :: l => d.plain && plainS l
end
mutual
theorem eqD_refl : ∀ d : Dt, eqD d d = true
  | .non => rfl
  | .bl a => by simp [eqD]
  | .int i => by simp [eqD]
  | .str z => by simp [eqD]
  | .tup l => by simp only [eqD]; exact eqDs_refl l
theorem eqDs_refl : ∀ l : List Dt, eqDs l l = true
  | [] => rfl
  | d :: l => by simp only [eqDs, eqD_refl d, eqDs_refl l, Bool.and_self]
end
mutual
theorem eqD_eq : ∀ d e : Dt, d.plain = true → e.plain = true → eqD d e = true → d = e
  | .non, e, _, _, h => by cases e <;> simp_all [eqD]
  | .bl _, _, h, _, _ => by simp [Dt.plain] at h
  | .int i, e, _, he, h => by cases e <;> simp_all [eqD, Dt.plain]
  | .str z, e, _, _, h => by cases e <;> simp_all [eqD]
  | .tup l, e, hd, he, h => by
    cases e with
    | tup m => rw [eqDs_eq l m (by simpa [Dt.plain] using hd) (by simpa [Dt.plain] using he) (by simpa [eqD] using h)]
    | _ => simp [eqD] at h
theorem eqDs_eq : ∀ l m : List Dt, plainS l = true → plainS m = true → eqDs l m = true → l = m
  | [], [], _, _, _ => rfl
  | [], _ :: _, _, _, h => by simp [eqDs] at h
  | _ :: _, [], _, _, h => by simp [eqDs] at h
  | d :: l, e :: m, hl, hm, h => by
    simp only [plainS, Bool.and_eq_true] at hl hm
    simp only [eqDs, Bool.and_eq_true] at h
    rw [eqD_eq d e hl.1 hm.1 h.1, eqDs_eq l m hl.2 hm.2 h.2]
end
section
variable {K : PySem.W.Frag} {H H' : Hp}
mutual
theorem IsD.same (g : Same H H') : ∀ {d : Dt} {v : V}, IsD K H d v → IsD K H' d v
  | _, _, .non => .non
  | _, _, .bl => .bl
  | _, _, .int => .int
  | _, _, .str => .str
  | _, _, .tup h r => .tup (g.tup h) (IsDs.same g r)
theorem IsDs.same (g : Same H H') : ∀ {l : List Dt} {xs : List V}, IsDs K H l xs → IsDs K H' l xs
  | _, _, .nil => .nil
  | _, _, .cons h r => .cons (IsD.same g h) (IsDs.same g r)
end
theorem sqT_ne {a r : Addr} {xs ys : List V} (hr : H r = some (.lst ys)) (h : SqT K H a xs) : a ≠ r ∨ ∀ H'', SqT K H'' a xs := by
  rcases h with (h | ⟨o, h⟩) | h
  · exact .inl (ne_of h hr (by intro z; cases z))
  · exact .inl (ne_of h hr (by intro z; cases z))
  · exact .inr fun _ => .inr h
mutual
theorem IsD.but {r : Addr} {ys : List V} (hr : H r = some (.lst ys)) (g : But r H H') : ∀ {d : Dt} {v : V}, IsD K H d v → IsD K H' d v
  | _, _, .non => .non
  | _, _, .bl => .bl
  | _, _, .int => .int
  | _, _, .str => .str
  | _, _, .tup h q => .tup (by
      rcases sqT_ne hr h with n | n
      · exact g.tup n h
      · exact n _) (IsDs.but hr g q)
theorem IsDs.but {r : Addr} {ys : List V} (hr : H r = some (.lst ys)) (g : But r H H') : ∀ {l : List Dt} {xs : List V}, IsDs K H l xs → IsDs K H' l xs
  | _, _, .nil => .nil
  | _, _, .cons h q => .cons (IsD.but hr g h) (IsDs.but hr g q)
end
theorem IsDs.length {l : List Dt} {xs : List V} (h : IsDs K H l xs) : l.length = xs.length := by
  induction l generalizing xs with
  | nil => cases h; rfl
  | cons d l ih => cases h with | cons _ r => simp [ih r]
theorem IsDs.get {l : List Dt} {xs : List V} (h : IsDs K H l xs) {i : Nat} {d : Dt} (e : l[i]? = some d) : ∃ x, xs[i]? = some x ∧ IsD K H d x := by
  induction l generalizing xs i with
  | nil => simp at e
  | cons c l ih =>
    cases h with
    | cons h r =>
      cases i with
      | zero => simp at e; subst e; exact ⟨_, rfl, h⟩
      | succ i => exact ih r (by simpa using e)
theorem IsDs.get' {l : List Dt} {xs : List V} (h : IsDs K H l xs) {i : Nat} {x : V} (e : xs[i]? = some x) : ∃ d, l[i]? = some d ∧ IsD K H d x := by
  induction l generalizing xs i with
  | nil => cases h; simp at e
  | cons c l ih =>
    cases h with
    | cons h r =>
      cases i with
      | zero => simp at e; subst e; exact ⟨_, rfl, h⟩
      | succ i => exact ih r (by simpa using e)
theorem IsDs.append {l m : List Dt} {xs ys : List V} (h : IsDs K H l xs) (h' : IsDs K H m ys) : IsDs K H (l ++ m) (xs ++ ys) := by
  induction l generalizing xs with
  | nil => cases h; exact h'
  | cons d l ih => cases h with | cons h r => exact .cons h (ih r)
end
section
variable {X : Cx} {pins : List (Addr × Obj)} {σ : St} {H : Hp} {s : Shared}
mutual
theorem IsD.inj (I : Inv X pins σ H s) : ∀ {d e : Dt} {v : V}, IsD X.K H d v → IsD X.K H e v → d = e
  | _, _, _, .non, .non => rfl
  | _, _, _, .bl, .bl => rfl
  | _, _, _, .int, .int => rfl
  | _, _, _, .str, .str => rfl
  | _, _, _, .tup h r, .tup h' r' => by
    have e := I.tuple_inj h h'
    subst e
    rw [IsDs.inj I r r']
theorem IsDs.inj (I : Inv X pins σ H s) : ∀ {l m : List Dt} {xs : List V}, IsDs X.K H l xs → IsDs X.K H m xs → l = m
  | _, _, _, .nil, .nil => rfl
  | _, _, _, .cons h r, .cons h' r' => by rw [IsD.inj I h h', IsDs.inj I r r']
end
theorem eqDs_range : ∀ (l m : List Dt), eqDs l m = ((List.range (min l.length m.length)).all (fun j => eqD (l.getD j .non) (m.getD j .non)) && l.length == m.length)
  | [], [] => rfl
  | [], _ :: _ => by simp [eqDs]
  | _ :: _, [] => by simp [eqDs]
  | d :: l, e :: m => by
    simp only [eqDs, List.length_cons]
    rw [eqDs_range l m, Nat.succ_min_succ, List.range_succ_eq_map, List.all_cons, List.all_map]
    have e1 : (l.length + 1 == m.length + 1) = (l.length == m.length) := by
      rw [Bool.eq_iff_iff]; simp
    rw [e1, Bool.and_assoc]
    rfl
theorem depS_get : ∀ {l : List Dt} {j : Nat}, j < l.length → (l.getD j .non).dep ≤ depS l
  | [], _, h => by simp at h
  | d :: l, 0, _ => by simp only [List.getD_cons_zero, depS]; omega
  | d :: l, j + 1, h => by
    have q := @depS_get l j (by simpa using h)
    simp only [List.getD_cons_succ, depS]; omega
theorem Inv.tup' (I : Inv X pins σ H s) {a : Addr} {xs : List V} (h : SqT X.K H a xs) : ∃ its : List Value, Vals xs its ∧ s.heap.IsTuple a its.toArray := by
  obtain ⟨its, r, p, _⟩ := I.tuple h
  exact ⟨its, r, p⟩
theorem in1_units (A : Around) : A.in1.units = A.units + 1 := by
  first | rfl | simp [Around.in1]
theorem eq_D (I : Inv X pins σ H s) : ∀ (n : Nat) (d e : Dt) (x y : V) (u v : Value) (A : Around), d.dep ≤ n → IsD X.K H d x → IsD X.K H e y → RelV x u → RelV y v → A.units + n < cLine →
    SeqAt.EqAt A s u v (eqD d e) ∧ SeqAt.RcAt A s u v (eqD d e) ∧ SeqAt.RcNeAt A s u v (!eqD d e) := by
  intro n
  induction n with
  | zero =>
    intro d e x y u v A hd hx hy rx ry hu
    have hu0 : A.units < cLine := by omega
    cases hx with
    | tup h r => simp [Dt.dep] at hd
    | non =>
      cases rx
      cases hy with
      | non => cases ry; exact ⟨.same _, .none_none, .none_none⟩
      | bl => cases ry; exact ⟨.none_bool _, .none_bool _, .none_bool _⟩
      | int => obtain ⟨t, rfl⟩ := ry; exact ⟨.none_int _ _, .none_int _ _, .none_int _ _⟩
      | str => obtain ⟨t, rfl⟩ := ry; exact ⟨.none_str _ _, .none_str _ _, .none_str _ _⟩
      | tup h r => cases ry; obtain ⟨its, _, p⟩ := I.tup' h; exact ⟨.none_tuple p hu0, .none_tuple p hu0, .none_tuple p hu0⟩
    | bl =>
      cases rx
      cases hy with
      | non => cases ry; exact ⟨.bool_none _, .bool_none _, .bool_none _⟩
      | bl => cases ry; exact ⟨.bool_bool _ _, .bool_bool _ _, .bool_bool _ _⟩
      | int => obtain ⟨t, rfl⟩ := ry; exact ⟨.bool_int _ _ _, .bool_int _ _ _, .bool_int _ _ _⟩
      | str => obtain ⟨t, rfl⟩ := ry; exact ⟨.bool_str _ _ _, .bool_str _ _ _, .bool_str _ _ _⟩
      | tup h r => cases ry; obtain ⟨its, _, p⟩ := I.tup' h; exact ⟨.bool_tuple _ p hu0, .bool_tuple _ p hu0, .bool_tuple _ p hu0⟩
    | int =>
      obtain ⟨t0, rfl⟩ := rx
      cases hy with
      | non => cases ry; exact ⟨.int_none _ _, .int_none _ _, .int_none _ _⟩
      | bl => cases ry; exact ⟨.int_bool _ _ _, .int_bool _ _ _, .int_bool _ _ _⟩
      | int => obtain ⟨t, rfl⟩ := ry; exact ⟨.int_int _ _ _ _, .int_int _ _ _ _, .int_int _ _ _ _⟩
      | str => obtain ⟨t, rfl⟩ := ry; exact ⟨.int_str _ _ _ _, .int_str _ _ _ _, .int_str _ _ _ _⟩
      | tup h r => cases ry; obtain ⟨its, _, p⟩ := I.tup' h; exact ⟨.int_tuple _ _ p hu0, .int_tuple _ _ p hu0, .int_tuple _ _ p hu0⟩
    | str =>
      obtain ⟨t0, rfl⟩ := rx
      cases hy with
      | non => cases ry; exact ⟨.str_none _ _, .str_none _ _, .str_none _ _⟩
      | bl => cases ry; exact ⟨.str_bool _ _ _, .str_bool _ _ _, .str_bool _ _ _⟩
      | int => obtain ⟨t, rfl⟩ := ry; exact ⟨.str_int _ _ _ _, .str_int _ _ _ _, .str_int _ _ _ _⟩
      | str => obtain ⟨t, rfl⟩ := ry; exact ⟨.str_str _ _ _ _, .str_str _ _ _ _, .str_str _ _ _ _⟩
      | tup h r => cases ry; obtain ⟨its, _, p⟩ := I.tup' h; exact ⟨.str_tuple _ _ p hu0, .str_tuple _ _ p hu0, .str_tuple _ _ p hu0⟩
  | succ n ih =>
    intro d e x y u v A hd hx hy rx ry hu
    have hu0 : A.units < cLine := by omega
    cases hx with
    | tup h r =>
      rename_i l a xs
      cases rx
      cases hy with
      | non => cases ry; obtain ⟨its, _, p⟩ := I.tup' h; exact ⟨.tuple_none p hu0, .tuple_none p hu0, .tuple_none p hu0⟩
      | bl => cases ry; obtain ⟨its, _, p⟩ := I.tup' h; exact ⟨.tuple_bool _ p hu0, .tuple_bool _ p hu0, .tuple_bool _ p hu0⟩
      | int => obtain ⟨t, rfl⟩ := ry; obtain ⟨its, _, p⟩ := I.tup' h; exact ⟨.tuple_int _ _ p hu0, .tuple_int _ _ p hu0, .tuple_int _ _ p hu0⟩
      | str => obtain ⟨t, rfl⟩ := ry; obtain ⟨its, _, p⟩ := I.tup' h; exact ⟨.tuple_str _ _ p hu0, .tuple_str _ _ p hu0, .tuple_str _ _ p hu0⟩
      | tup h' r' =>
        rename_i m b ys
        cases ry
        obtain ⟨its, q, p⟩ := I.tup' h
        obtain ⟨its', q', p'⟩ := I.tup' h'
        have l1 : its.length = l.length := by rw [← q.length, ← r.length]
        have l2 : its'.length = m.length := by rw [← q'.length, ← r'.length]
        have he : ∀ j (h1 : j < its.toArray.size) (h2 : j < its'.toArray.size), SeqAt.EqAt A.in1 s its.toArray[j] its'.toArray[j] (eqD (l.getD j .non) (m.getD j .non)) := by
          intro j h1 h2
          have j1 : j < l.length := by simpa [l1] using h1
          have j2 : j < m.length := by simpa [l2] using h2
          obtain ⟨x1, ex, dx⟩ := r.get (i := j) (d := l.getD j .non) (by simp [List.getD_eq_getElem?_getD, j1])
          obtain ⟨y1, ey, dy⟩ := r'.get (i := j) (d := m.getD j .non) (by simp [List.getD_eq_getElem?_getD, j2])
          obtain ⟨u1, eu, ru⟩ := q.get ex
          obtain ⟨v1, ev, rv⟩ := q'.get ey
          have e1 : its.toArray[j] = u1 := by
            have : its[j]? = some its[j] := by simp [l1, j1]
            rw [this] at eu
            simpa using Option.some.inj eu
          have e2 : its'.toArray[j] = v1 := by
            have : its'[j]? = some its'[j] := by simp [l2, j2]
            rw [this] at ev
            simpa using Option.some.inj ev
          rw [e1, e2]
          have hdl : depS l ≤ n := by simp only [Dt.dep] at hd; omega
          exact (ih _ _ _ _ _ _ A.in1 (Nat.le_trans (depS_get j1) hdl) dx dy ru rv (by rw [in1_units]; omega)).1
        have ev : eqD (.tup l) (.tup m) = ((List.range (min its.toArray.size its'.toArray.size)).all (fun j => eqD (l.getD j .non) (m.getD j .non)) && its.toArray.size == its'.toArray.size) := by
          simp only [eqD, List.size_toArray, l1, l2]
          exact eqDs_range l m
        rw [ev]
        refine ⟨?_, SeqAt.RcAt.tuples p p' hu0 he, SeqAt.RcNeAt.tuples p p' hu0 he⟩
        by_cases hab : a = b
        · subst hab
          have e3 := I.tuple_inj h h'
          subst e3
          have e4 := IsDs.inj I r r'
          subst e4
          rw [← ev, eqD_refl]
          exact .same _
        · exact .of_refs hab (SeqAt.RcAt.tuples p p' hu0 he)
    | non => exact ih _ _ _ _ _ _ A (by simp [Dt.dep]) .non hy rx ry (by omega)
    | bl => exact ih _ _ _ _ _ _ A (by simp [Dt.dep]) .bl hy rx ry (by omega)
    | int => exact ih _ _ _ _ _ _ A (by simp [Dt.dep]) .int hy rx ry (by omega)
    | str => exact ih _ _ _ _ _ _ A (by simp [Dt.dep]) .str hy rx ry (by omega)
/-- a == b, a != b of data -/
noncomputable def rEqD (K : PySem.W.Frag) : R2 := fun x y H Q => ∃ d e, IsD K H d x ∧ IsD K H e y ∧ d.dep ≤ 60 ∧ Q (.bl (eqD d e)) H
theorem op_eqD (hu : X.A.units + 64 < cLine) : OpR X (compareOp .Eq) (rEqD X.K) := by
  intro pins s σ H x y v u Q I rx ry h
  obtain ⟨d, e, hd, he, hn, q⟩ := h
  exact (eq_D I 60 d e x y v u X.A hn hd he rx ry (by omega)).2.1 _ _ _ _ ⟨.bl _, H, I, rfl, q⟩
end
end L2

set_option Elab.async false
set_option linter.all false
set_option maxRecDepth 100000
set_option maxHeartbeats 4000000
namespace PySem.W
open PySem PySem.Spec PyProof.Rows PySem.Calls
/-- what is read off the written part of a class of exceptions -/
structure ExcK (K : Frag) (C : Addr) : Prop where
  ga : findIn K (.ref C) "__getattribute__" = some (some (.builtin "BaseException.__getattribute__"))
  gt : findIn K (.ref C) "__getattr__" = some none
  cl : findIn K (.ref C) "__class__" = some (some (.builtin "object.__class__"))
  sb : mroIn K C (.type "BaseException") = some true
  so : mroIn K C (.type "object") = some true
  cd : ∃ c, clsIn K C = some c
section
variable {prog : Program} {w : World} {A : Around} {E : Value → Shared → Prop} {h : Heap} {g : Array GenState} {d : Drawn} {t : Nat} {os : OsState} {a C : Addr} {o : Obj} {K : Frag}
end
end PySem.W

set_option Elab.async false
set_option linter.all false
set_option maxRecDepth 100000
set_option maxHeartbeats 4000000
namespace L2
open PySem PySem.Spec PyProof.Rows
/-! ### exceptions of own classes -/
noncomputable abbrev bmV : List Value := [.type "ValueError", .type "Exception", .type "BaseException", .type "object"]
/-- a class of exceptions under ValueError, as the top has written it -/
structure ExC (K : PySem.W.Frag) (mg : Str → Option Value) (x : Str) (C : Addr) : Prop where
  m : mg x = some (.ref C)
  q : PySem.W.excIn K C bmV "ValueError.__new__" = true
  k : PySem.W.ExcK K C
  kp : PySem.W.keepIn K (.ref C) = true
section
variable {X : Cx} {pins : List (Addr × Obj)} {σ : St} {H : Hp} {s : Shared}
/-! ### isinstance of an exception -/
/-! ### C(e): an exception made -/
end
end L2

set_option Elab.async false
set_option linter.all false
set_option maxRecDepth 100000
set_option maxHeartbeats 4000000
namespace L2
open PySem PySem.Spec PyProof.Rows
/-! ### an exception that leaves a def -/
section
variable {X : Cx} {pins : List (Addr × Obj)} {σ : St} {H : Hp} {s : Shared}
end
end L2

set_option Elab.async false
set_option linter.all false
set_option maxRecDepth 100000
set_option maxHeartbeats 4000000
namespace L2
open PySem PySem.Spec PyProof.Rows
/-! ### try: e except C as n: suite -/
section
variable {X : Cx} {pins : List (Addr × Obj)} {σ : St} {H : Hp} {s : Shared}
end
end L2

set_option Elab.async false
set_option linter.all false
set_option maxRecDepth 100000
set_option maxHeartbeats 4000000
namespace L2
open PySem PySem.Spec PyProof.Rows
section
variable {X : Cx} {a b c d : Expr} {ta tb tc td : TE} {pos : Pos}
end
/-! ### a module's dict of texts and numbers, asked by .get -/
section
variable {X : Cx}
end
end L2

set_option Elab.async false
set_option linter.all false
set_option maxRecDepth 100000
set_option maxHeartbeats 4000000
namespace L2
open PySem PySem.Spec PyProof.Rows
/-- a block that takes some names from around it -/
theorem csR {X : Cx} {scope sc : Scope} {NL N N' : List Str} {ρ : List Nat} (hsc : X.env.scope = sc) (hN : X.N = N) (h1 : scope.kind = .function) (h2 : (scope.names.all fun x => x.2 != .cell) = true) (h3 : ∀ x ∈ scope.names, x.2 = .local → scope.names.lookup x.1 = some .local)
    (h4 : (scope.names.all fun x => x.2 != .free || sc.names.lookup x.1 == some .cell) = true) (h5 : N' = NL ++ ρ.map fun j => N.getD j "")
    (h6 : (ρ.all fun j => match N[j]? with | some x => scope.names.lookup x == some .free && sc.names.lookup x == some .cell | none => false) = true) : CScope X scope NL ρ N' := by
  rw [List.all_eq_true] at h2 h4 h6
  refine ⟨h1, fun x hx e => ?_, h3, fun x hx e => .inl ?_, by rw [hN]; exact h5, fun j hj => ?_⟩
  · have := h2 x hx
    rw [e] at this
    exact absurd this (by decide)
  · have z := h4 x hx
    rw [e] at z
    have z2 : (sc.names.lookup x.1 == some NameKind.cell) = true := by simpa using z
    show X.env.scope.names.lookup x.1 = some .cell
    rw [hsc]
    exact beq_iff_eq.mp z2
  · have z := h6 j hj
    cases q : N[j]? with
    | none => rw [q] at z; cases z
    | some x =>
      rw [q] at z
      simp only [Bool.and_eq_true, beq_iff_eq] at z
      exact ⟨x, by rw [hN]; exact q, z.1, .inl (by rw [hsc]; exact z.2)⟩
end L2

set_option Elab.async false
set_option linter.all false
set_option maxRecDepth 100000
set_option maxHeartbeats 4000000
namespace L2
open PySem PySem.Spec PyProof.Rows
/-! ### a def called within the suite of an except -/
structure RoomH (k : Nat) (A : Around) : Prop where
  dp : A.depth + 3 * k + 5 < recursionLimit
  un : A.units + 16 * k + 200 < cLine
theorem RoomH.mono {j k : Nat} {A : Around} (r : RoomH k A) (h : j ≤ k) : RoomH j A := ⟨by have := r.dp; omega, by have := r.un; omega⟩
theorem RoomH.deeper {k : Nat} {A : Around} (r : RoomH (k + 1) A) (env : Env) : RoomH k (A.deeper env) :=
  ⟨by have := r.dp; show A.depth + 1 + 3 * k + 5 < _; omega, by have := r.un; show A.units + 3 + 16 * k + 200 < _; omega⟩
structure FnOkH (P : Program) (w : World) (K : PySem.W.Frag) (mg : Str → Option Value) (base : Heap) (k : Nat) (f : Addr) (fd : FuncData) (ps : List Str) (sp : Sp) : Prop where
  len : ∀ vs H Q E, sp vs H Q E → vs.length = ps.length
  run : ∀ (A : Around) (outer : List Env) (s : Shared) (H : Hp) (args : Args) (us : List Value) (vs : List V) (Q : VK) (E : XK), RoomH k A → Env0 P w K mg base A outer s H → BindsTo s fd args (ps.zip us) → Vals vs us → sp vs H Q E →
    codeAny (model P w) A (.call (.ref f) args) (CR CX0 outer P w H s Q E) s
section
variable {X : Cx}
end
/-- a promise that holds wherever it is called -/
theorem FnOkH.ok {P : Program} {w : World} {K : PySem.W.Frag} {mg : Str → Option Value} {base : Heap} {k : Nat} {f : Addr} {fd : FuncData} {ps : List Str} {sp : Sp} (F : FnOkH P w K mg base k f fd ps sp) : FnOk P w K mg base CX0 k f fd ps sp :=
  ⟨F.len, fun A outer s H args us vs Q E hr e0 hb r h => F.run A outer s H args us vs Q E ⟨hr.dp, hr.un⟩ e0 hb r h⟩
end L2

set_option Elab.async false
set_option linter.all false
set_option maxRecDepth 100000
set_option maxHeartbeats 4000000
namespace HT
open PySem PySem.Spec PyProof.Rows
section
variable {prog : Program} {w : World} {A : Around} {E : Value → Shared → Prop} {s : Shared}
end
end HT
namespace L2
open PySem PySem.Spec PyProof.Rows
section
variable {X : Cx}
theorem IsD.unref {K : PySem.W.Frag} {H : Hp} {l : List Dt} {v : V} (h : IsD K H (.tup l) v) : ∃ a xs, v = .ref a ∧ SqT K H a xs ∧ IsDs K H l xs := by
  cases h with
  | tup h r => exact ⟨_, _, rfl, h, r⟩
theorem IsDs.drop {K : PySem.W.Frag} {H : Hp} : ∀ {l : List Dt} {xs : List V} (n : Nat), IsDs K H l xs → IsDs K H (l.drop n) (xs.drop n)
  | _, _, 0, h => h
  | _, _, _ + 1, .nil => .nil
  | _, _, n + 1, .cons _ r => IsDs.drop n r
theorem IsDs.take {K : PySem.W.Frag} {H : Hp} : ∀ {l : List Dt} {xs : List V} (n : Nat), IsDs K H l xs → IsDs K H (l.take n) (xs.take n)
  | _, _, 0, _ => .nil
  | _, _, _ + 1, .nil => .nil
  | _, _, n + 1, .cons h r => .cons h (IsDs.take n r)
/-- len(t) of data -/
theorem call_lenD : CallR X (.builtin "len") (fun xs H Q => ∃ x l, xs = [x] ∧ IsD X.K H (.tup l) x ∧ Q (.int l.length) H) := by
  intro pins s σ H xs us Q I r h
  obtain ⟨x, l, rfl, dx, q⟩ := h
  obtain ⟨a, ys, rfl, hx, ra⟩ := dx.unref
  exact call_len_seq pins s σ H [.ref a] us Q I r ⟨a, ys, rfl, .inr hx, by rw [← ra.length]; exact q⟩
end
end L2

set_option Elab.async false
set_option linter.all false
set_option maxRecDepth 100000
set_option maxHeartbeats 4000000
namespace PySem
open Sem (wp)
section
variable {M : Model} {A : Around} {E : Value → Shared → Prop} {s : Shared}
end
end PySem
namespace L2
open PySem PySem.Spec PyProof.Rows
section
variable {X : Cx} {E : XK}
variable {pins : List (Addr × Obj)} {σ : St} {H : Hp} {s : Shared}
end
end L2

set_option Elab.async false
set_option linter.all false
set_option maxRecDepth 100000
set_option maxHeartbeats 4000000
namespace L2
open PySem PySem.Spec PyProof.Rows

/-! ### lists of pairs as tables -/
section
variable {κ : Type} [DecidableEq κ]
noncomputable def valV (kvs : List (κ × V)) (k : κ) : Option V := (kvs.find? fun kv => decide (kv.1 = k)).map (·.2)
/-- in its place, or at the end -/
noncomputable def putK (kvs : List (κ × V)) (k : κ) (v : V) : List (κ × V) :=
  if (kvs.any fun kv => decide (kv.1 = k)) = true then kvs.map (fun kv => if kv.1 = k then (kv.1, v) else kv) else kvs ++ [(k, v)]
noncomputable def dropK (kvs : List (κ × V)) (k : κ) : List (κ × V) := kvs.filter fun kv => decide (kv.1 ≠ k)

theorem valV_pos {p : κ × V} {r : List (κ × V)} {k : κ} (e : p.1 = k) : valV (p :: r) k = some p.2 := by simp [valV, List.find?_cons, e]
theorem valV_neg {p : κ × V} {r : List (κ × V)} {k : κ} (e : ¬ p.1 = k) : valV (p :: r) k = valV r k := by simp [valV, List.find?_cons, e]
theorem valV_any (k : κ) : ∀ kvs : List (κ × V), (kvs.any fun kv => decide (kv.1 = k)) = (valV kvs k).isSome
  | [] => rfl
  | p :: r => by
    rw [List.any_cons]
    by_cases e : p.1 = k
    · simp only [valV_pos e, decide_eq_true e, Bool.true_or, Option.isSome_some]
    · rw [valV_neg e, decide_eq_false e, Bool.false_or]; exact valV_any k r
theorem RelO.isSome_eq {o : Option V} {u : Option Value} (r : RelO o u) : o.isSome = u.isSome := by
  cases o with
  | none => cases u with
    | none => rfl
    | some _ => exact (show False from r).elim
  | some _ => cases u with
    | none => exact (show False from r).elim
    | some _ => rfl
theorem RelO.getD {o : Option V} {u : Option Value} {d : V} {d' : Value} (r : RelO o u) (rd : RelV d d') : RelV (o.getD d) (u.getD d') := by
  cases o with
  | none => cases u with
    | none => exact rd
    | some _ => exact (show False from r).elim
  | some _ => cases u with
    | none => exact (show False from r).elim
    | some _ => exact r

/-- raw tables of the same keys -/
theorem KV.val {kvs : List (κ × V)} {vs : List (κ × Value)} (r : KV kvs vs) (k : κ) : RelO (valV kvs k) (valueAt vs k) := by
  unfold KV at r
  induction r with
  | nil => exact True.intro
  | @cons p q ps qs h t ih =>
    obtain ⟨h1, h2⟩ := h
    by_cases e : p.1 = k
    · have e' : q.1 = k := h1.symm.trans e
      have b : valueAt (q :: qs) k = some q.2 := by simp [valueAt, List.find?_cons, e']
      rw [valV_pos e, b]; exact h2
    · have e' : ¬ q.1 = k := fun z => e (h1.trans z)
      have b : valueAt (q :: qs) k = valueAt qs k := by simp [valueAt, List.find?_cons, e']
      rw [valV_neg e, b]; exact ih
theorem KV.any {kvs : List (κ × V)} {vs : List (κ × Value)} (r : KV kvs vs) (k : κ) : (kvs.any fun kv => decide (kv.1 = k)) = vs.any fun kv => decide (kv.1 = k) := by
  unfold KV at r
  induction r with
  | nil => rfl
  | cons h t ih => rw [List.any_cons, List.any_cons, ih, h.1]
theorem KV.repl {kvs : List (κ × V)} {vs : List (κ × Value)} (r : KV kvs vs) (k : κ) {y : V} {u : Value} (ry : RelV y u) :
    KV (kvs.map fun kv => if kv.1 = k then (kv.1, y) else kv) (vs.map fun kv => if kv.1 = k then (kv.1, u) else kv) := by
  unfold KV at r ⊢
  induction r with
  | nil => exact .nil
  | @cons p q ps qs h t ih =>
    rw [List.map_cons, List.map_cons]
    refine .cons ?_ ih
    obtain ⟨h1, h2⟩ := h
    by_cases e : p.1 = k
    · rw [if_pos e, if_pos (h1.symm.trans e)]; exact ⟨h1, ry⟩
    · rw [if_neg e, if_neg (fun z => e (h1.trans z))]; exact ⟨h1, h2⟩
theorem KV.put {kvs : List (κ × V)} {vs : List (κ × Value)} (r : KV kvs vs) (k : κ) {y : V} {u : Value} (ry : RelV y u) : KV (putK kvs k y) (stored vs k u) := by
  unfold putK stored
  rw [r.any k]
  by_cases e : (vs.any fun kv => decide (kv.1 = k)) = true
  · rw [if_pos e, if_pos e]; exact r.repl k ry
  · rw [if_neg e, if_neg e]; exact Paired.snoc r ⟨rfl, ry⟩
theorem KV.drop {kvs : List (κ × V)} {vs : List (κ × Value)} (r : KV kvs vs) (k : κ) : KV (dropK kvs k) (without vs k) := by
  unfold KV at r ⊢
  unfold dropK without
  induction r with
  | nil => exact .nil
  | @cons p q ps qs h t ih =>
    obtain ⟨h1, h2⟩ := h
    rw [List.filter_cons, List.filter_cons]
    by_cases e : p.1 = k
    · have a : ¬ decide (p.1 ≠ k) = true := by simp [e]
      have b : ¬ decide (q.1 ≠ k) = true := by simp [h1.symm.trans e]
      rw [if_neg a, if_neg b]; exact ih
    · have e' : ¬ q.1 = k := fun z => e (h1.trans z)
      have a : decide (p.1 ≠ k) = true := by simp [e]
      have b : decide (q.1 ≠ k) = true := by simp [e']
      rw [if_pos a, if_pos b]; exact .cons ⟨h1, h2⟩ ih
theorem KV.keys {kvs : List (κ × V)} {vs : List (κ × Value)} (r : KV kvs vs) : kvs.map (·.1) = vs.map (·.1) := by
  unfold KV at r
  induction r with
  | nil => rfl
  | cons h t ih => rw [List.map_cons, List.map_cons, ih, h.1]
theorem KV.length {kvs : List (κ × V)} {vs : List (κ × Value)} (r : KV kvs vs) : kvs.length = vs.length := Paired.length r
end


/-! ### a tracked dict, its keys ints and texts or tuples of these -/
theorem kV_is {P : Program} {w : World} {k : Key} {u : Value} (r : RelV (kV k) u) : (mixKind P w).is k u = true := by
  cases k with
  | inl i => obtain ⟨t, e⟩ := (show ∃ t, u = Value.int i t from r); subst e; exact mixKind_int P w i t
  | inr x => obtain ⟨t, e⟩ := (show ∃ t, u = Value.str x t from r); subst e; exact mixKind_str P w x t
theorem items_are {P : Program} {w : World} : ∀ {ks : List Key} {us : List Value}, Vals (ks.map kV) us → ItemsAre (mixKind P w) ks us
  | [], _, r => by rw [List.map_nil] at r; cases r; exact .nil
  | k :: ks, _, r => by
    rw [List.map_cons] at r
    cases r with
    | cons h t => exact .cons (kV_is h) (items_are t)

/-- raw entries of a dict with tuple keys -/
noncomputable abbrev KT (H : Hp) : List (List Key × V) → List (List Key × Addr × Value) → Prop := Paired fun p q => p.1 = q.1 ∧ H q.2.1 = some (.tup (p.1.map kV)) ∧ RelV p.2 q.2.2
theorem KT.val {H : Hp} {kvs : List (List Key × V)} {xs : List (List Key × Addr × Value)} (r : KT H kvs xs) (k : List Key) : RelO (valV kvs k) ((atKey xs k).map (·.2)) := by
  induction r with
  | nil => exact True.intro
  | @cons p q ps qs h t ih =>
    obtain ⟨h1, _, h2⟩ := h
    by_cases e : p.1 = k
    · have e' : q.1 = k := h1.symm.trans e
      have b : atKey (q :: qs) k = some q.2 := by simp [atKey, List.find?_cons, e']
      rw [valV_pos e, b]; exact h2
    · have e' : ¬ q.1 = k := fun z => e (h1.trans z)
      have b : atKey (q :: qs) k = atKey qs k := by simp [atKey, List.find?_cons, e']
      rw [valV_neg e, b]; exact ih
theorem KT.repl {H : Hp} {kvs : List (List Key × V)} {xs : List (List Key × Addr × Value)} (r : KT H kvs xs) (k : List Key) {y : V} {u : Value} (ry : RelV y u) :
    KT H (kvs.map fun kv => if kv.1 = k then (kv.1, y) else kv) (xs.map (putAt k u)) := by
  induction r with
  | nil => exact .nil
  | @cons p q ps qs h t ih =>
    rw [List.map_cons, List.map_cons]
    refine .cons ?_ ih
    obtain ⟨h1, h2, h3⟩ := h
    unfold putAt
    by_cases e : p.1 = k
    · rw [if_pos e, if_pos (h1.symm.trans e)]; exact ⟨h1, h2, ry⟩
    · rw [if_neg e, if_neg (fun z => e (h1.trans z))]; exact ⟨h1, h2, h3⟩
theorem KT.put {H : Hp} {kvs : List (List Key × V)} {xs : List (List Key × Addr × Value)} (r : KT H kvs xs) (k : List Key) {b : Addr} {y : V} {u : Value} (hb : H b = some (.tup (k.map kV))) (ry : RelV y u) :
    KT H (putK kvs k y) (storedH xs k b u) := by
  have e : (kvs.any fun kv => decide (kv.1 = k)) = (atKey xs k).isSome := by
    rw [valV_any, (r.val k).isSome_eq, Option.isSome_map]
  unfold putK storedH
  rw [e]
  by_cases q : (atKey xs k).isSome = true
  · rw [if_pos q, if_pos q]; exact r.repl k ry
  · rw [if_neg q, if_neg q]; exact Paired.snoc r ⟨rfl, hb, ry⟩
theorem KT.keeps {H H' : Hp} {kvs : List (List Key × V)} {xs : List (List Key × Addr × Value)} (r : KT H kvs xs) (ht : ∀ b ys, H b = some (.tup ys) → H' b = some (.tup ys)) : KT H' kvs xs :=
  Paired.mapP r fun _ _ z => ⟨z.1, ht _ _ z.2.1, z.2.2⟩

section
variable {P : Program} {w : World} {H : Hp} {h : Heap} {a : Addr}
theorem rd_of {u : HO} (ok : HOk P w H h) (e : Rd H a u) : ObjOk P w H h a u := e.ok ok
theorem dk_rd {kvs : List (Key × V)} (ok : HOk P w H h) (e : Rd H a (.dK kvs)) : kvs.length ≤ sizeLine ∧ (a == sysModules) = false ∧ ∃ vs, KV kvs vs ∧ h.DictOf (mixKind P w) a vs :=
  show ObjOk P w H h a (.dK kvs) from rd_of ok e
/-- a tracked tuple of ints and texts is a key -/
theorem key_of {ks : List Key} (ok : HOk P w H h) (e : H a = some (.tup (ks.map kV))) : (tupleKind (mixKind P w)).is h ks a := by
  obtain ⟨_, its, r, o, h1, h2, n, h3⟩ := (show ObjOk P w H h a (.tup (ks.map kV)) from ok a _ e)
  exact ⟨o, its.toArray, n, h1, h2, h3, by simpa using items_are r⟩
theorem dt_rd {kvs : List (List Key × V)} (ok : HOk P w H h) (e : Rd H a (.dT kvs)) : kvs.length ≤ sizeLine ∧ (a == sysModules) = false ∧
    ∃ xs, KT H kvs xs ∧ h.DictOfH (tupleKind (mixKind P w)) a xs := by
  obtain ⟨z, y, xs, r, o, es, ep, h1, h2, h3, h4, h5⟩ := (show ObjOk P w H h a (.dT kvs) from rd_of ok e)
  refine ⟨z, y, xs, r, o, es, ep, h1, h2, h3, h4, fun x hx => ?_, h5⟩
  have all : ∀ {l : List (List Key × V)} {m : List (List Key × Addr × Value)}, KT H l m → ∀ x ∈ m, (tupleKind (mixKind P w)).is h x.1 x.2.1 := by
    intro l m q
    induction q with
    | nil => intro x hx; exact nomatch hx
    | @cons p q ps qs hq t ih =>
      intro x hx
      rcases List.mem_cons.mp hx with e | hx
      · subst e
        exact key_of ok (by rw [← hq.1]; exact hq.2.1)
      · exact ih x hx
  exact all r x hx
end

/-- what the dict at a holds at the key y -/
noncomputable def DGet (H : Hp) (a : Addr) (y : V) (r : Option V) : Prop :=
  (∃ kvs k, Rd H a (.dK kvs) ∧ y = kV k ∧ r = valV kvs k) ∨ ∃ kvs k b, Rd H a (.dT kvs) ∧ y = .ref b ∧ H b = some (.tup (k.map kV)) ∧ r = valV kvs k
/-- the heap behind a[y] = v -/
noncomputable def DPut (H : Hp) (a : Addr) (y v : V) (H' : Hp) : Prop :=
  (∃ kvs k, H a = some (.dK kvs) ∧ y = kV k ∧ kvs.length < sizeLine ∧ H' = upd H a (.dK (putK kvs k v))) ∨
  ∃ kvs k b, H a = some (.dT kvs) ∧ y = .ref b ∧ H b = some (.tup (k.map kV)) ∧ kvs.length < sizeLine ∧ H' = upd H a (.dT (putK kvs k v))
theorem DGet.k {H : Hp} {a : Addr} {kvs : List (Key × V)} {k : Key} (e : H a = some (.dK kvs)) : DGet H a (kV k) (valV kvs k) := .inl ⟨kvs, k, .inl e, rfl, rfl⟩
theorem DGet.t {H : Hp} {a b : Addr} {kvs : List (List Key × V)} {k : List Key} (e : H a = some (.dT kvs)) (eb : H b = some (.tup (k.map kV))) : DGet H a (.ref b) (valV kvs k) := .inr ⟨kvs, k, b, .inl e, rfl, eb, rfl⟩
theorem DPut.k {H : Hp} {a : Addr} {kvs : List (Key × V)} {k : Key} {v : V} (e : H a = some (.dK kvs)) (hl : kvs.length < sizeLine) : DPut H a (kV k) v (upd H a (.dK (putK kvs k v))) := .inl ⟨kvs, k, e, rfl, hl, rfl⟩
theorem DPut.t {H : Hp} {a b : Addr} {kvs : List (List Key × V)} {k : List Key} {v : V} (e : H a = some (.dT kvs)) (eb : H b = some (.tup (k.map kV))) (hl : kvs.length < sizeLine) :
    DPut H a (.ref b) v (upd H a (.dT (putK kvs k v))) := .inr ⟨kvs, k, b, e, rfl, eb, hl, rfl⟩


section
variable {X : Cx} {pins : List (Addr × Obj)} {σ : St} {H : Hp} {s : Shared} {a : Addr} {y v : V} {u r : Value} {o : Option V} {A : Around} {E : Value → Shared → Prop}

theorem Inv.big (I : Inv X pins σ H s) : sysModules < s.heap.objs.size := by
  have h : mainGlobals < s.heap.objs.size := (I.mod.glob.keeps I.bk).lt
  exact Nat.lt_trans (by decide) h

/-- d[y], there -/
theorem d_getItem {Q : Value → Shared → Prop} (hu : A.units + 1 < cLine) (I : Inv X pins σ H s) (g : DGet H a y (some v)) (ry : RelV y u) (h : ∀ w' s', Inv X pins σ H s' → RelV v w' → Q w' s') :
    wpAny (model X.prog X.w) A (getItem (.ref a) u) Q E s := by
  rcases g with ⟨kvs, k, e, ey, l⟩ | ⟨kvs, k, b, e, ey, eb, l⟩
  · subst ey
    obtain ⟨z, hd, vs, rel, dd⟩ := dk_rd I.hok e
    obtain ⟨w', hw, rw'⟩ := RelO.some_of (v := v) (o := valueAt vs k) (by rw [l]; exact rel.val k)
    exact wpAny_getItem_of (kV_is ry) dd.mapOf hw (h w' _ (I.tok _) rw')
  · subst ey
    cases (show u = Value.ref b from ry)
    obtain ⟨z, hd, xs, rel, dd⟩ := dt_rd I.hok e
    obtain ⟨w', hw, rw'⟩ := RelO.some_of (v := v) (o := (atKey xs k).map (·.2)) (by rw [l]; exact rel.val k)
    obtain ⟨p, hp, hp2⟩ := Option.map_eq_some_iff.mp hw
    refine wpAny_getItem_heap (tupleKind_room_in1 hu) (key_of I.hok eb) dd hp ?_
    rw [hp2]
    exact h w' _ (I.tok _) rw'
theorem dk_new {P : Program} {w : World} {H' : Hp} {h' : Heap} {kvs : List (Key × V)} {vs : List (Key × Value)} (z : kvs.length ≤ sizeLine) (hd : (a == sysModules) = false) (rel : KV kvs vs) (dd : h'.DictOf (mixKind P w) a vs) :
    ObjOk P w H' h' a (.dK kvs) := ⟨z, hd, vs, rel, dd⟩
end

section
variable {X : Cx} {pins : List (Addr × Obj)} {σ : St} {H : Hp} {s : Shared} {a : Addr} {kvs : List (Key × V)} {k : Key} {u : Value} {A : Around} {E : Value → Shared → Prop}
end


/-! ### readings and rules -/
/-- the element of a subscription, not a slice -/
noncomputable def NoSl (i : Expr) : Prop := ∀ ov iv, subscripted i false ov iv = operate [ov, iv] (getItem ov iv)
theorem subD_of {prog : Program} {w : World} {A : Around} {E : Value → Shared → Prop} {s : Shared} {env : Env} {value slice : Expr} {pos : Pos} {T id : String} {Q : Value → Shared → Prop}
    (hl : typeLookup (.type T) "__getitem__" = pure (some (.builtin id))) (hs : NoSl slice)
    (h : wpAny (model prog w) A (eval value env) (fun o s₁ => wpAny (model prog w) A (eval slice env) (fun i s₂ => s₂.TypeIs o T ∧ wpAny (model prog w) A (getItem o i) Q E s₂) E s₁) E s) :
    wpAny (model prog w) A (eval (.Subscript value slice pos) env) Q E s := by
  refine Subscript_ (wpAny_mono h (fun o s₁ h₁ => wpAny_mono h₁ (fun i s₂ h₂ => ?_) fun _ _ x => x) fun _ _ x => x)
  obtain ⟨hT, h₂⟩ := h₂
  unfold subscriptTail
  refine wpAny_bind ?_
  rw [getitemInPython_of_ne hT.not_modules]
  refine wpAny_bind (wpAny_specialOf hT hl ?_)
  have fin : wpAny (model prog w) A (subscripted slice false o i) (fun r s₃ => wpAny (model prog w) A (letTemporaryGo value o r >>= fun _ => pure r) Q E s₃) E s₂ := by
    rw [hs o i]
    exact wpAny_operating (wpAny_mono h₂ (fun r s₃ h₃ => wpAny_bind (wpAny_letTemporaryGo (wpAny_pure h₃))) fun _ _ x => x)
  first
    | exact wpAny_pure (wpAny_bind fin)
    | exact wpAny_bind (wpAny_pure (wpAny_bind fin))
    | exact wpAny_bind fin

theorem dict_typeIs {X : Cx} {pins : List (Addr × Obj)} {σ : St} {H : Hp} {s : Shared} {a : Addr} {y : V} {o : Option V} (I : Inv X pins σ H s) (g : DGet H a y o) : s.TypeIs (.ref a) "dict" := by
  rcases g with ⟨kvs, k, e, _, _⟩ | ⟨kvs, k, b, e, _, _, _⟩
  · obtain ⟨_, _, vs, _, dd⟩ := dk_rd I.hok e
    exact dd.typeIs
  · obtain ⟨_, _, xs, _, dd⟩ := dt_rd I.hok e
    exact dd.typeIs
/-- d[y] -/
noncomputable def tDGet (td ty : TE) : TE := fun σ H Q => td σ H fun x H1 => ty σ H1 fun y H2 => ∃ a v, x = .ref a ∧ DGet H2 a y (some v) ∧ Q v H2
section
variable {X : Cx} {o i e value : Expr} {pos pos' tpos : Pos} {td ty tv : TE}
theorem pe_dget (hu : X.A.units + 1 < cLine) (ho : PE X o td) (hi : PE X i ty) (hs : NoSl i) : PE X (.Subscript o i pos) (tDGet td ty) := by
  intro pins s σ H Q I h
  refine subD_of PySem.F.slot_dict_getitem.lookup hs (thn (ho pins s σ H _ I h) fun u s1 ⟨x, H1, I1, rx, q1⟩ => thn (hi pins s1 σ H1 _ I1 q1) fun iv s2 ⟨y, H2, I2, ry, a, v, ex, g, q2⟩ => ?_)
  subst ex
  obtain rfl : u = Value.ref a := rx
  exact ⟨dict_typeIs I2 g, d_getItem hu I2 g ry fun w' s3 I3 rw' => ⟨v, H2, I3, rw', q2⟩⟩
end


/-! ### displays -/
section
variable {X : Cx} {pos : Pos}
end

/-! ### methods -/
section
variable {X : Cx} {pins : List (Addr × Obj)} {σ : St} {H : Hp} {s : Shared} {a : Addr} {y d : V} {u r : Value} {o : Option V} {A : Around} {E : Value → Shared → Prop}
end

section
variable {X : Cx} {o e f : Expr} {apos cpos : Pos} {td ty tx : TE}
end

/-! ### dict(d): a copy -/
section
variable {X : Cx} {pins : List (Addr × Obj)} {σ : St} {H : Hp} {s : Shared} {a : Addr} {kvs : List (Key × V)} {A : Around} {E : Value → Shared → Prop}
end


section
variable {X : Cx} {pins : List (Addr × Obj)} {σ : St} {H : Hp} {s : Shared} {a : Addr} {y : V} {u : Value} {A : Around} {E : Value → Shared → Prop}
end
end L2

set_option Elab.async false
set_option linter.all false
set_option maxRecDepth 100000
set_option maxHeartbeats 4000000
namespace PySem
open Sem (wp)
namespace F
theorem entry_dict_update_loop : entryFor table "dict.update.loop" = some Builtin.«dict.update.loop» := entryFor_of_tree (by kernel_rfl)
theorem plain_dict_update_loop : plainId "dict.update.loop" = true := by decide +kernel
theorem miss_keys_tuple : typeLookup (.type "tuple") "keys" = pure none := by rw [typeLookup_type, builtinLookup_eq_fast]; kernel_rfl
end F
theorem keys_none_tuple {prog : Program} {w : World} {A : Around} {E : Value → Shared → Prop} {s : Shared} {a : Addr} {o : Obj} {xs : Array Value} {k : Nat} {Q : Option Value → Shared → Prop}
    (hx : s.heap.get? a = some o) (hc : o.cls = .type "tuple") (hdat : o.data = .seq xs k) (hd : o.dict = none) (hA : A.handled = none)
    (h : ∀ h' tk e, Heap.NewExcOf s.heap h' e "AttributeError" → Q none { s with heap := h', toks := tk }) :
    wpAny (model prog w) A (getAttr? (.ref a) "keys") Q E s := by
  obtain ⟨c, dct, dat, sl⟩ := o
  simp only at hc hdat hd
  subst hc hdat hd
  obtain ⟨hp, g, d, tk, os⟩ := s
  have hT : ∀ tk', (⟨hp, g, d, tk', os⟩ : Shared).TypeIs (.ref a) "tuple" := fun _ => ⟨_, hx, rfl⟩
  have f1 := sub_AttributeError
  have f3 := F.slot_tuple_getattribute.lookup
  have f4 := F.slot_tuple_getattribute.bind (.ref a)
  have f5 := am_tuple_getattr_none
  unfold getAttr? getAttrBy? getAttrBy
  repeat (any_goals (first | assumption | exact hT _ | ((with_reducible show wpAny _ _ (call (Value.builtin "tuple.__getattribute__") _ _) _ _ _); refine call_meets F.slot_tuple_getattribute (hT _) am_entry_tuple_getattribute (F.args_tuple_getattribute_2 _ _) (meets_getattribute_miss_tuple a xs k sl "keys" _ F.miss_keys_tuple (by decide)) ⟨hx, hA, fun h' tk' e hx' => ?_⟩) | wp_step))
  obtain ⟨t', u', he⟩ := hx'.there
  show wpAny _ _ (getattributeRaised _ _ _ _ _ _ _) _ _ _
  unfold getattributeRaised
  repeat (any_goals (first | assumption | wp_step))
  all_goals exact h _ _ _ hx'.of
end PySem

set_option Elab.async false
set_option linter.all false
set_option maxRecDepth 100000
set_option maxHeartbeats 4000000
namespace PySem
open Sem (wp)
section
variable {prog : Program} {w : World} {K : Type} [DecidableEq K] {knd : KeyKind prog w K} {A : Around} {E : Value → Shared → Prop}
/-- the items are pairs of a key and a value -/
noncomputable def Heap.PairItems (h : Heap) (knd : KeyKind prog w K) (items : Array Value) (kvs : List (K × Value)) : Prop :=
  items.size = kvs.length ∧ ∀ (i : Nat) (kv : K × Value), kvs[i]? = some kv → ∃ (a : Addr) (key : Value), items[i]? = some (.ref a) ∧ h.IsTuple a #[key, kv.2] ∧ knd.is kv.1 key = true
theorem Heap.PairItems.stay {h h' : Heap} {items : Array Value} {kvs : List (K × Value)} (x : h.PairItems knd items kvs) (k : ∀ (i : Nat) (a : Addr) (o : Obj), items[i]? = some (.ref a) → h.get? a = some o → h'.get? a = some o) : h'.PairItems knd items kvs :=
  ⟨x.1, fun i kv e => by
    obtain ⟨a, key, e1, ⟨o, e2, r⟩, e3⟩ := x.2 i kv e
    exact ⟨a, key, e1, ⟨o, k i a o e1 e2, r⟩, e3⟩⟩
theorem codeAny_dict_loop {t it d : Addr} {items : Array Value} {kvs : List (K × Value)} {R : Result → Shared → Prop} (hh : A.handled = none) (hdt : t ≠ d) (hit : t ≠ it) (hdi : d ≠ it) (hav : ∀ (i : Nat) (a : Addr), items[i]? = some (.ref a) → a ≠ d ∧ a ≠ it) (hsz : kvs.length + kvs.length ≤ sizeLine) :
    ∀ (n i : Nat) (s : Shared) (acc : List (K × Value)), kvs.length - i = n → i ≤ kvs.length → acc.length ≤ i → s.heap.IsTuple t items → s.heap.PairItems knd items kvs → s.heap.IsTupleIter it t i → s.heap.DictOf knd d acc →
      (∀ h' tk, h'.DictOf knd d (merged acc (kvs.drop i)) → (∀ b o, b ≠ d → b ≠ it → s.heap.get? b = some o → h'.get? b = some o) → R (.ok (.ret .none)) { s with heap := h', toks := tk }) →
      codeAny (model prog w) A (.builtin "dict.update.loop" ⟨[.ref d, .ref it, rawInt i, .none], []⟩) R s := by
  intro n
  induction n with
  | zero =>
    intro i s acc hn hi ha ht hp hs hd hR
    have e : i = kvs.length := by omega
    refine codeAny_builtin F.entry_dict_update_loop ?_
    rw [Around.under_plainId F.plain_dict_update_loop _]
    show wpAny _ A.in1 (pyNext (.ref it) >>= _) _ _ s
    refine wpAny_bind (wpAny_pyNext_tuple_end (by first | exact hh | simpa using hh) hs ht (by rw [e, ← hp.1]; simp) fun h' eb => ?_)
    show wpAny _ _ (Builtin.Dict.addKeywords d [] >>= _) _ _ _
    have hd' : h'.DictOf knd d acc := by
      obtain ⟨o, es, ep, ho, r⟩ := hd
      exact ⟨o, es, ep, eb d o hdi ho, r⟩
    have q := hR h' s.toks (by rw [e, List.drop_length]; exact hd') fun b o _ hb z => eb b o hb z
    exact wpAny_bind (wpAny_pure (wpAny_pure q))
  | succ n ih =>
    intro i s acc hn hi ha ht hp hs hd hR
    have hlt : i < kvs.length := by omega
    obtain ⟨kv, hkv⟩ : ∃ kv, kvs[i]? = some kv := ⟨_, List.getElem?_eq_getElem hlt⟩
    obtain ⟨a, key, hx, hpair, hkey⟩ := hp.2 i kv hkv
    refine codeAny_builtin F.entry_dict_update_loop ?_
    rw [Around.under_plainId F.plain_dict_update_loop _]
    show wpAny _ A.in1 (pyNext (.ref it) >>= _) _ _ s
    refine wpAny_bind (wpAny_pyNext_tuple_item hs ht hx fun h1 hs1 sb => ?_)
    obtain ⟨av1, av2⟩ := hav i a hx
    have keep1 : ∀ b o, b ≠ it → s.heap.get? b = some o → h1.get? b = some o := fun b o hb z => (sb.2 b hb).trans z
    obtain ⟨po, pe, pc, pn, pd⟩ := hpair
    have pe1 := keep1 a po av2 pe
    have hd1 : h1.DictOf knd d acc := by
      obtain ⟨o, es, ep, ho, r⟩ := hd
      exact ⟨o, es, ep, keep1 d o hdi ho, r⟩
    refine wpAny_bind (wpAny_holding ?_)
    refine wpAny_bind (wpAny_tryCatch ?_)
    unfold Builtin.Dict.pairItems
    refine wpAny_bind (wpAny_typeOf (T := "tuple") ⟨_, pe1, pc⟩ ?_)
    rw [if_pos (by decide)]
    refine wpAny_bind (wpAny_seqItems pe1 pd ?_)
    refine wpAny_pure ?_
    show wpAny _ _ (holding [key, kv.2] (dictSet d key kv.2)) _ _ _
    refine wpAny_holding (wpAny_dictSet_pairs (s := { s with heap := h1 }) hkey hd1 (fun h2 hd2 sb2 => ?_) (by omega))
    refine wpAny_pure ⟨plainId_quiet F.plain_dict_update_loop _, ?_⟩
    have keep2 : ∀ b o, b ≠ d → b ≠ it → s.heap.get? b = some o → h2.get? b = some o := fun b o hb hb' z => (sb2.2 b hb).trans (keep1 b o hb' z)
    have hlen : (stored acc kv.1 kv.2).length ≤ i + 1 := by have := stored_length_le acc kv.1 kv.2; omega
    have ht2 : h2.IsTuple t items := by
      obtain ⟨o, ho, r⟩ := ht
      exact ⟨o, keep2 t o hdt hit ho, r⟩
    have hs2 : h2.IsTupleIter it t (i + 1) := by
      obtain ⟨o, ho, r⟩ := hs1
      exact ⟨o, (sb2.2 it (Ne.symm hdi)).trans ho, r⟩
    have e : rawInt ((i : Int) + 1) = rawInt ((i + 1 : Nat) : Int) := by rw [Int.natCast_add]; rfl
    show codeAny _ _ (.builtin "dict.update.loop" ⟨[.ref d, .ref it, rawInt ((i : Int) + 1), .none], []⟩) _ _
    rw [e]
    refine ih (i + 1) { s with heap := h2, toks := s.toks + 1 } (stored acc kv.1 kv.2) (by omega) hlt hlen ht2 (hp.stay fun j b o z z2 => keep2 b o (hav j b z).1 (hav j b z).2 z2) hs2 hd2 fun h' tk hd' k' => ?_
    have q := hR h' tk (by
      have z : kvs.drop i = kv :: kvs.drop (i + 1) := by
        rw [List.drop_eq_getElem_cons hlt]
        rw [List.getElem?_eq_getElem hlt] at hkv
        rw [Option.some.inj hkv]
      rw [z]
      exact hd') fun b o hb hb' z => k' b o hb hb' (keep2 b o hb hb' z)
    exact q
/-- dict(t), t a tuple of pairs -/
theorem call_dict_pairs {s : Shared} {t : Addr} {o : Obj} {items : Array Value} {n : Nat} {kvs : List (K × Value)} {Q : Value → Shared → Prop} (hh : A.handled = none) (ho : s.heap.get? t = some o) (hc : o.cls = .type "tuple") (hdat : o.data = .seq items n) (hd : o.dict = none)
    (hp : s.heap.PairItems knd items kvs) (hsz : kvs.length + kvs.length ≤ sizeLine)
    (h : ∀ h' tk, h'.DictOf knd s.heap.objs.size (merged [] kvs) → (∀ b o, s.heap.get? b = some o → h'.get? b = some o) → Q (.ref s.heap.objs.size) { s with heap := h', toks := tk }) :
    wpAny (model prog w) A (call (.type "dict") [.ref t]) Q E s := by
  refine callType_codes (Q₁ := fun obj s₁ => obj = .ref s.heap.objs.size ∧ s₁ = { s with heap := s.heap.push { cls := .type "dict", data := .dict #[] } }) F.kt_called_dict (F.kt_typeCall_dict_1 _) F.entry_dict_init (kt_code_dict_new _ ⟨rfl, rfl⟩) ?_
  rintro obj s₁ ⟨rfl, rfl⟩
  have hnew : (s.heap.push { cls := .type "dict", data := .dict #[] }).DictOf knd s.heap.objs.size [] := Heap.DictOf.new s.heap
  have ho1 : (s.heap.push { cls := .type "dict", data := .dict #[] }).get? t = some o := Heap.get?_push_of_some _ ho
  have htl : t < s.heap.objs.size := Heap.lt_size ho
  refine ⟨hnew.typeIs, F.args_dict_init_2 _ _, ?_⟩
  unfold Builtin.«dict.__init__»
  refine wpAny_bind ?_
  unfold Builtin.Dict.selfAndRest
  refine wpAny_bind (wpAny_notOrdered_dict hnew.typeIs ?_)
  show wpAny _ _ (pure (s.heap.objs.size, [Value.ref t])) _ _ _
  refine wpAny_pure ?_
  show wpAny _ _ (Builtin.Dict.updateFrom "dict.__init__" s.heap.objs.size (.ref t) [] .none) _ _ _
  unfold Builtin.Dict.updateFrom
  refine wpAny_bind (wpAny_typeOf (T := "tuple") ⟨_, ho1, hc⟩ ?_)
  rw [if_pos (by decide)]
  refine wpAny_bind (keys_none_tuple ho1 hc hdat hd (by first | exact hh | simpa using hh) fun h1 tk1 e hx => ?_)
  rw [if_pos (by rfl)]
  refine wpAny_bind (wpAny_rule ?_)
  have kp1 : ∀ b o, (s.heap.push { cls := .type "dict", data := .dict #[] }).get? b = some o → h1.get? b = some o := fun b o z => hx.keeps b o z
  have ht1 : h1.IsTuple t items := ⟨o, kp1 t o ho1, hc, n, hdat⟩
  refine wpAny_bind (wpAny_pyIter_tuple ht1 ?_)
  have hit : s.heap.objs.size < h1.objs.size := by
    obtain ⟨o2, es, ep, ho2, _⟩ := hnew
    exact Heap.lt_size (kp1 _ _ ho2)
  have kp0 : ∀ b o, s.heap.get? b = some o → h1.get? b = some o := fun b o z => kp1 b o (Heap.get?_push_of_some _ z)
  refine wpAny_pure ⟨plainId_quiet F.plain_dict_update_loop _, ?_⟩
  refine codeAny_dict_loop (knd := knd) (t := t) (items := items) (kvs := kvs) (by first | exact hh | simpa using hh) (Nat.ne_of_lt htl) (Nat.ne_of_lt (Nat.lt_trans htl hit)) (Nat.ne_of_lt hit) (fun i a z => ?_) hsz kvs.length 0 _ [] (by omega) (Nat.zero_le _) (Nat.le_refl _)
    ⟨o, Heap.get?_push_of_some _ (kp1 t o ho1), hc, n, hdat⟩ (hp.stay fun i a o2 _ z => Heap.get?_push_of_some _ (kp0 a o2 z)) ⟨_, Heap.get?_push_size _ rfl, rfl, rfl⟩ ?_ fun h' tk hd' k' => ⟨rfl, ?_⟩
  · have hi : i < kvs.length := by
      rw [← hp.1]
      exact (Array.getElem?_eq_some_iff.mp z).1
    obtain ⟨b, key, e1, ⟨ob, e2, _⟩, _⟩ := hp.2 i _ (List.getElem?_eq_getElem hi)
    rw [z] at e1
    have e3 : a = b := by injection (Option.some.inj e1)
    subst e3
    have := Heap.lt_size e2
    exact ⟨Nat.ne_of_lt this, Nat.ne_of_lt (Nat.lt_trans this hit)⟩
  · obtain ⟨o2, es, ep, ho2, r⟩ := hnew
    exact ⟨o2, es, ep, Heap.get?_push_of_some _ (kp1 _ _ ho2), r⟩
  · refine h h' tk hd' fun b ob z => k' b ob (Nat.ne_of_lt (Heap.lt_size z)) (Nat.ne_of_lt (Nat.lt_trans (Heap.lt_size z) hit)) (Heap.get?_push_of_some _ (kp0 b ob z))
end
end PySem

set_option Elab.async false
set_option linter.all false
set_option maxRecDepth 100000
set_option maxHeartbeats 4000000
namespace L2
open PySem PySem.Spec PyProof.Rows
/-- known to the object, which has no dict of its own -/
noncomputable def Pl (H : Hp) (a : Addr) : Prop := ∃ o u, H a = some (.frz o u) ∧ o.dict = none
mutual
/-- data all of whose tuples are plain ones -/
inductive IsP (K : PySem.W.Frag) (H : Hp) : Dt → V → Prop
  | non : IsP K H .non .non
  | bl {b} : IsP K H (.bl b) (.bl b)
  | int {i} : IsP K H (.int i) (.int i)
  | str {z} : IsP K H (.str z) (.str z)
  | tup {l : List Dt} {a : Addr} {xs : List V} : SqT K H a xs → Pl H a → IsPs K H l xs → IsP K H (.tup l) (.ref a)
inductive IsPs (K : PySem.W.Frag) (H : Hp) : List Dt → List V → Prop
  | nil : IsPs K H [] []
  | cons {d : Dt} {l : List Dt} {x : V} {xs : List V} : IsP K H d x → IsPs K H l xs → IsPs K H (d :: l) (x :: xs)
end
section
variable {K : PySem.W.Frag} {H H' : Hp}
mutual
theorem IsP.d : ∀ {d : Dt} {v : V}, IsP K H d v → IsD K H d v
  | _, _, .non => .non
  | _, _, .bl => .bl
  | _, _, .int => .int
  | _, _, .str => .str
  | _, _, .tup h _ r => .tup h (IsPs.d r)
theorem IsPs.d : ∀ {l : List Dt} {xs : List V}, IsPs K H l xs → IsDs K H l xs
  | _, _, .nil => .nil
  | _, _, .cons h r => .cons (IsP.d h) (IsPs.d r)
end
theorem Pl.same {a : Addr} (g : Same H H') (h : Pl H a) : Pl H' a := by
  obtain ⟨o, u, e, d⟩ := h
  exact ⟨o, u, g _ _ e, d⟩
theorem Pl.but {a r : Addr} {ys : List V} (hr : H r = some (.lst ys)) (g : But r H H') (h : Pl H a) : Pl H' a := by
  obtain ⟨o, u, e, d⟩ := h
  exact ⟨o, u, g _ _ (ne_of e hr (by intro z; cases z)) e, d⟩
mutual
theorem IsP.same (g : Same H H') : ∀ {d : Dt} {v : V}, IsP K H d v → IsP K H' d v
  | _, _, .non => .non
  | _, _, .bl => .bl
  | _, _, .int => .int
  | _, _, .str => .str
  | _, _, .tup h p r => .tup (g.tup h) (p.same g) (IsPs.same g r)
theorem IsPs.same (g : Same H H') : ∀ {l : List Dt} {xs : List V}, IsPs K H l xs → IsPs K H' l xs
  | _, _, .nil => .nil
  | _, _, .cons h r => .cons (IsP.same g h) (IsPs.same g r)
end
mutual
theorem IsP.but {r : Addr} {ys : List V} (hr : H r = some (.lst ys)) (g : But r H H') : ∀ {d : Dt} {v : V}, IsP K H d v → IsP K H' d v
  | _, _, .non => .non
  | _, _, .bl => .bl
  | _, _, .int => .int
  | _, _, .str => .str
  | _, _, .tup h p q => .tup (by
      rcases sqT_ne hr h with n | n
      · exact g.tup n h
      · exact n _) (p.but hr g) (IsPs.but hr g q)
theorem IsPs.but {r : Addr} {ys : List V} (hr : H r = some (.lst ys)) (g : But r H H') : ∀ {l : List Dt} {xs : List V}, IsPs K H l xs → IsPs K H' l xs
  | _, _, .nil => .nil
  | _, _, .cons h q => .cons (IsP.but hr g h) (IsPs.but hr g q)
end
theorem IsPs.length {l : List Dt} {xs : List V} (h : IsPs K H l xs) : l.length = xs.length := h.d.length
theorem IsPs.get {l : List Dt} {xs : List V} (h : IsPs K H l xs) {i : Nat} {d : Dt} (e : l[i]? = some d) : ∃ x, xs[i]? = some x ∧ IsP K H d x := by
  induction l generalizing xs i with
  | nil => simp at e
  | cons c l ih =>
    cases h with
    | cons h r =>
      cases i with
      | zero => simp at e; subst e; exact ⟨_, rfl, h⟩
      | succ i => exact ih r (by simpa using e)
theorem IsPs.get' {l : List Dt} {xs : List V} (h : IsPs K H l xs) {i : Nat} {x : V} (e : xs[i]? = some x) : ∃ d, l[i]? = some d ∧ IsP K H d x := by
  induction l generalizing xs i with
  | nil => cases h; simp at e
  | cons c l ih =>
    cases h with
    | cons h r =>
      cases i with
      | zero => simp at e; subst e; exact ⟨_, rfl, h⟩
      | succ i => exact ih r (by simpa using e)
theorem IsPs.append {l m : List Dt} {xs ys : List V} (h : IsPs K H l xs) (h' : IsPs K H m ys) : IsPs K H (l ++ m) (xs ++ ys) := by
  induction l generalizing xs with
  | nil => cases h; exact h'
  | cons d l ih => cases h with | cons h r => exact .cons h (ih r)
theorem IsPs.drop : ∀ {l : List Dt} {xs : List V} (n : Nat), IsPs K H l xs → IsPs K H (l.drop n) (xs.drop n)
  | _, _, 0, h => h
  | _, _, _ + 1, .nil => .nil
  | _, _, n + 1, .cons _ r => IsPs.drop n r
theorem IsPs.take : ∀ {l : List Dt} {xs : List V} (n : Nat), IsPs K H l xs → IsPs K H (l.take n) (xs.take n)
  | _, _, 0, _ => .nil
  | _, _, _ + 1, .nil => .nil
  | _, _, n + 1, .cons h r => .cons h (IsPs.take n r)
theorem IsP.unref {l : List Dt} {v : V} (h : IsP K H (.tup l) v) : ∃ a xs, v = .ref a ∧ SqT K H a xs ∧ Pl H a ∧ IsPs K H l xs := by
  cases h with
  | tup h p r => exact ⟨_, _, rfl, h, p, r⟩
end
/-- what a new plain tuple is -/
noncomputable def plO (xs : List V) (us : List Value) : HO := .frz { cls := .type "tuple", data := .seq us.toArray } (.tup xs)
section
variable {X : Cx} {pins : List (Addr × Obj)} {σ : St} {H : Hp} {s : Shared}
/-- a tuple just laid, plain -/
theorem Inv.plain {xs : List V} {us : List Value} {t' : Nat} (I : Inv X pins σ H s) (r : Vals xs us) (z : xs.length ≤ sizeLine) :
    Inv X pins σ (upd H s.heap.objs.size (plO xs us)) { s with heap := s.heap.push { cls := .type "tuple", data := .seq us.toArray }, toks := t' } ∧ H s.heap.objs.size = none :=
  ⟨I.laid (t' := t') (fun b ob q => Heap.get?_push_of_some _ q) (Nat.le_refl _) ⟨Heap.get?_push_size _ rfl, z, us, r, IsTup.new _ _⟩, I.hok.fresh (Nat.le_refl _)⟩
theorem plain_is {p : Addr} {l : List Dt} {xs : List V} {us : List Value} (hf : H p = none) (d : IsPs X.K H l xs) : Same H (upd H p (plO xs us)) ∧ IsP X.K (upd H p (plO xs us)) (.tup l) (.ref p) :=
  ⟨same_new hf _, .tup (.inl (.inr ⟨_, upd_same⟩)) ⟨_, _, upd_same, rfl⟩ (d.same (same_new hf _))⟩
variable {e : Expr} {es : List Expr} {t : TA} {pos : Pos}
/-- (a, b, ..) -/
noncomputable def tTupP (K : PySem.W.Frag) (t : TA) : TE := fun σ H Q => t σ H fun xs H1 => ∃ l, IsPs K H1 l xs ∧ xs.length ≤ sizeLine ∧ ∀ v H', Same H1 H' → IsP K H' (.tup l) v → Q v H'
theorem pe_tupP {x1} (h : PA X es t) : PE X (.Tuple es x1 pos) (tTupP X.K t) := by
  intro pins s σ H Q I hq
  refine wpAny_Tuple_spliced (thn (h pos pins s σ H _ I hq) fun us s1 ⟨xs, H1, I1, r, l, d, z, q⟩ => ⟨by rw [← r.length]; exact z, ?_⟩)
  obtain ⟨I2, hf⟩ := I1.plain (t' := s1.toks) r z
  obtain ⟨g, dp⟩ := plain_is (X := X) (us := us) hf d
  exact ⟨.ref s1.heap.objs.size, _, I2, rfl, q _ _ g dp⟩
/-- tuple(xs) -/
theorem call_tupleP : CallR X (.type "tuple") (fun xs H Q => ∃ p ys l, xs = [.ref p] ∧ SqL X.K H p ys ∧ IsPs X.K H l ys ∧ ∀ v H', Same H H' → IsP X.K H' (.tup l) v → Q v H') := by
  intro pins s σ H xs us Q I r h
  obtain ⟨p, ys, l, rfl, hq, d, q⟩ := h
  obtain ⟨u, rfl, rx⟩ := vals1 r
  cases rx
  obtain ⟨its, r', pl, hz⟩ := I.list hq
  have hlen := r'.length
  refine call_tuple_list pl.isList (fun h' kp => ?_) (by simp only [List.size_toArray] <;> omega)
  have I1 : Inv X pins σ H { s with heap := h' } := I.kept (t' := s.toks) kp
  obtain ⟨I2, hf⟩ := I1.plain (t' := s.toks) r' hz
  obtain ⟨g, dp⟩ := plain_is (X := X) (us := its) hf d
  exact ⟨.ref h'.objs.size, _, I2, rfl, q _ _ g dp⟩
/-- t[i] -/
theorem ix_tupP : IxR X (fun x y H Q => ∃ l i d, IsP X.K H (.tup l) x ∧ y = .int i ∧ atI l i = some d ∧ ∀ v, IsP X.K H d v → Q v H) := by
  intro value slice pins s σ H x y v u Q I rx ry h hs
  obtain ⟨l, i, d, dx, rfl, ha, q⟩ := h
  obtain ⟨a, xs, rfl, hx, pa, ra⟩ := id dx.unref
  obtain ⟨j, hj, hd, _⟩ := atI_get ha
  have e1 := ra.length
  obtain ⟨w', hw, dw⟩ := ra.get hd
  have hat : atI xs i = some w' := by
    unfold atI at ha ⊢
    rw [← e1]
    cases z : ixN l.length i with
    | none => rw [z] at ha; cases ha
    | some j' =>
      rw [z] at ha
      have ha' : l[j']? = some d := ha
      obtain ⟨w2, hw2, dw2⟩ := ra.get ha'
      have z2 := ixN_seq z
      rw [hj] at z2
      have : j = j' := Option.some.inj z2.1
      subst this
      exact hw
  exact ix_tup value slice pins s σ H (.ref a) (.int i) v u Q I rx ry ⟨a, xs, i, w', rfl, rfl, hx, hat, q w' dw⟩ hs
/-- i * j of any size that the model takes -/
theorem op_mulB : OpR X (binaryOp .Mult) (rI IntMulOk fun i j => .int (i * j)) := opI fun _ _ _ _ _ _ _ hc q => mul_int q hc
end
end L2

set_option Elab.async false
set_option linter.all false
set_option maxRecDepth 100000
set_option maxHeartbeats 4000000
namespace L2
open PySem PySem.Spec PyProof.Rows
noncomputable def lookS (fs : List (Str × Dt)) (z : Str) : Option Dt := (fs.find? fun p => decide (p.1 = z)).map (·.2)
noncomputable abbrev prD (p : Str × Dt) : Dt := .tup [.str p.1, p.2]
/-- the dict at p has these values by these names -/
noncomputable def DicP (K : PySem.W.Frag) (H : Hp) (p : Addr) (fs : List (Str × Dt)) : Prop :=
  ∃ kvs, H p = some (.dK kvs) ∧ ∀ z, (lookS fs z = none → valV kvs (Sum.inr z : Key) = none) ∧ ∀ d, lookS fs z = some d → ∃ v, valV kvs (Sum.inr z : Key) = some v ∧ IsP K H d v
section
variable {X : Cx} {pins : List (Addr × Obj)} {σ : St} {H : Hp} {s : Shared}
theorem pairs_of (I : Inv X pins σ H s) : ∀ {fs : List (Str × Dt)} {xs : List V} {its : List Value}, IsPs X.K H (fs.map prD) xs → Vals xs its →
    ∃ (kvs : List (Key × V)) (vs : List (Key × Value)), KV kvs vs ∧ kvs.map (·.1) = fs.map (fun p => Sum.inr p.1) ∧ kvs.length = fs.length ∧
      (∀ z, (lookS fs z = none → valV kvs (Sum.inr z : Key) = none) ∧ ∀ d, lookS fs z = some d → ∃ v, valV kvs (Sum.inr z : Key) = some v ∧ IsP X.K H d v) ∧
      its.length = vs.length ∧ ∀ (i : Nat) (kv : Key × Value), vs[i]? = some kv → ∃ (a : Addr) (key : Value), its[i]? = some (.ref a) ∧ s.heap.IsTuple a #[key, kv.2] ∧ (mixKind X.prog X.w).is kv.1 key = true := by
  intro fs
  induction fs with
  | nil =>
    intro xs its h r
    cases h
    cases r
    exact ⟨[], [], .nil, rfl, rfl, fun z => ⟨fun _ => rfl, fun d q => by cases q⟩, rfl, fun i kv q => by simp at q⟩
  | cons f fs ih =>
    intro xs its h r
    cases h with
    | cons h1 h2 =>
      cases r with
      | cons r1 r2 =>
        obtain ⟨kvs, vs, e1, e2, e3, e4, e5, e6⟩ := ih h2 r2
        obtain ⟨a, ys, rfl, ha, pa, ra⟩ := h1.unref
        cases r1
        obtain ⟨its', r', p', _⟩ := I.tuple ha
        cases ra with
        | cons d1 ra =>
          cases ra with
          | @cons _ _ v _ d2 ra =>
            cases ra
            cases d1
            cases r' with
            | cons q1 r' =>
              cases r' with
              | @cons _ u _ _ q2 r' =>
                cases r'
                obtain ⟨tk, rfl⟩ := q1
                refine ⟨(Sum.inr f.1, v) :: kvs, (Sum.inr f.1, u) :: vs, .cons ⟨rfl, q2⟩ e1, by simp [e2], by simp [e3], fun z => ?_, by simp [e5], fun i kv q => ?_⟩
                · by_cases hz : f.1 = z
                  · subst hz
                    have l1 : lookS (f :: fs) f.1 = some f.2 := by simp [lookS]
                    have l2 : valV ((Sum.inr f.1, v) :: kvs) (Sum.inr f.1 : Key) = some v := by simp [valV]
                    exact ⟨fun q => (by rw [l1] at q; cases q), fun d q => (by rw [l1] at q; cases q; exact ⟨v, l2, d2⟩)⟩
                  · have l1 : lookS (f :: fs) z = lookS fs z := by simp [lookS, hz]
                    have l2 : valV ((Sum.inr f.1, v) :: kvs) (Sum.inr z : Key) = valV kvs (Sum.inr z : Key) := by simp [valV, hz]
                    rw [l1, l2]
                    exact e4 z
                · cases i with
                  | zero =>
                    simp at q
                    subst q
                    exact ⟨a, _, rfl, p', kV_is (k := Sum.inr f.1) ⟨tk, rfl⟩⟩
                  | succ i => exact e6 i kv (by simpa using q)
theorem DicP.get {K : PySem.W.Frag} {p : Addr} {fs : List (Str × Dt)} {z : Str} {d : Dt} (h : DicP K H p fs) (l : lookS fs z = some d) : ∃ v, DGet H p (.str z) (some v) ∧ IsP K H d v := by
  obtain ⟨kvs, e, k⟩ := h
  obtain ⟨v, l1, l2⟩ := (k z).2 d l
  exact ⟨v, by rw [← l1]; exact DGet.k (k := Sum.inr z) e, l2⟩
theorem DicP.has {K : PySem.W.Frag} {p : Addr} {fs : List (Str × Dt)} (h : DicP K H p fs) (z : Str) : ∃ o, DGet H p (.str z) o ∧ o.isSome = (lookS fs z).isSome := by
  obtain ⟨kvs, e, k⟩ := h
  refine ⟨_, DGet.k (k := Sum.inr z) e, ?_⟩
  cases l : lookS fs z with
  | none => rw [(k z).1 l]; rfl
  | some d =>
    obtain ⟨v, l1, _⟩ := (k z).2 d l
    rw [l1]
    rfl
end
end L2

set_option Elab.async false
set_option linter.all false
set_option maxRecDepth 100000
set_option maxHeartbeats 4000000
namespace PySem
open Sem (wp)
open Builtin
section
variable {prog : Program} {w : World} {A : Around} {E : Value → Shared → Prop} {s : Shared}
end
end PySem
namespace L2
open PySem PySem.Spec PyProof.Rows
section
variable {X : Cx}
/-! ### range(a, b, c), c above 0 -/
variable {tg : Expr}
end
end L2

set_option Elab.async false
set_option linter.all false
set_option maxRecDepth 100000
set_option maxHeartbeats 4000000
namespace L2
open PySem PySem.Spec PyProof.Rows
theorem u1 {A : Around} (h : A.units + 64 < cLine) : A.units + 1 < cLine := by omega
theorem fn_none {P : Program} {w : World} {K : PySem.W.Frag} {mg : Str → Option Value} {base : Heap} {CX : CXT} {k : Nat} {f : Addr} {fd : FuncData} {ps : List Str} {sp : Sp} (h : ∀ vs H Q E, ¬ sp vs H Q E) : FnOk P w K mg base CX k f fd ps sp :=
  ⟨fun vs H Q E z => (h vs H Q E z).elim, fun A outer s H args us vs Q E hr e0 hb r z => (h vs H Q E z).elim⟩
end L2

set_option Elab.async false
set_option linter.all false
set_option maxRecDepth 100000
namespace L2
open PySem PySem.Spec PyProof.Rows
end L2

set_option Elab.async false
set_option linter.all false
set_option maxRecDepth 100000
namespace L2
open PySem PySem.Spec PyProof.Rows
section
variable {X : Cx}
/-- // by a positive divisor of up to 61 figures -/
theorem op_fdivB : OpR X (binaryOp .FloorDiv) (rI (fun _ j => 0 < j ∧ j < 10000000000000000000000000000000000000000000000000000000000000) fun i j => .int (i / j)) := opI fun i j _ _ _ _ _ hc q => by
  have h1 : (0 : Int) < j := hc.1
  have h2 : j < 10000000000000000000000000000000000000000000000000000000000000 := hc.2
  refine floordiv_int (by omega) (by rw [Int.fdiv_eq_ediv_of_nonneg i (by omega)]; exact q) (.inl (PyProof.noPylong_of_log2 ?_))
  have h3 : j.natAbs < 2 ^ 9000 := Nat.lt_of_lt_of_le (show j.natAbs < 10000000000000000000000000000000000000000000000000000000000000 by omega) (by decide +kernel)
  exact (Nat.log2_lt (by omega)).mpr h3
end
/-! ### the figures of a number -/
open PySem.NumText
noncomputable def dg (m : Nat) : List Nat := (Nat.toDigits 10 m).map Char.toNat
/-- the signs of a number's text -/
noncomputable def strI (n : Int) : List Nat := if n < 0 then 45 :: dg n.natAbs else dg n.natAbs
theorem str_int (n : Int) : (Str.ofString (toString n)).cps.toList = strI n := by
  rw [signs_ofString]
  cases n with
  | ofNat m =>
    have : ¬ (Int.ofNat m < 0) := by simp
    unfold strI
    rw [if_neg this]
    show (Nat.repr m).toList.map Char.toNat = _
    rw [Nat.toList_repr]
    rfl
  | negSucc m =>
    have : Int.negSucc m < 0 := Int.negSucc_lt_zero m
    unfold strI
    rw [if_pos this]
    show ("-" ++ Nat.repr (m + 1)).toList.map Char.toNat = _
    rw [String.toList_append, List.map_append, Nat.toList_repr]
    rfl
/-! ### signs of a text -/
end L2

set_option Elab.async false
set_option linter.all false
set_option maxRecDepth 100000
namespace L2
open PySem PySem.Spec PyProof.Rows
section
variable {X : Cx} {pins : List (Addr × Obj)} {σ : St} {H : Hp} {s : Shared} {h' : Heap}
/-- some untracked records of ours have turned, and one new thing is tracked -/
theorem Inv.turnedT {t' : Nat} {wr : List Addr} {T : Addr} {o : HO} (I : Inv X pins σ H s) (k : ∀ b u, b ∉ wr → s.heap.get? b = some u → h'.get? b = some u) (f : ∀ b ∈ wr, FpOk X pins H b)
    (hT : s.heap.objs.size ≤ T) (new : ObjOk X.prog X.w (upd H T o) h' T o) : Inv X pins σ (upd H T o) { s with heap := h', toks := t' } := by
  have nT : ∀ b u, s.heap.get? b = some u → b ≠ T := fun b u e z => absurd (Nat.lt_of_lt_of_le (Heap.lt_size e) (z ▸ hT)) (Nat.lt_irrefl _)
  have nH : ∀ b u, H b = some u → b ≠ T := fun b u e z => absurd (Nat.lt_of_lt_of_le (I.hok.lt e) (z ▸ hT)) (Nat.lt_irrefl _)
  have nw : ∀ b u, H b = some u → b ∉ wr := fun b u e z => by rw [(f b z).1] at e; cases e
  refine I.step (g' := s.gens) (d' := s.drawn) (ch := wr) (fun b hb => ?_) (fun b u _ _ hc e _ => k b u hc e) (fun b u _ _ hc e _ => ⟨u.slots, k b u hc e⟩) (fun b u _ e n => by rw [upd_ne (nT b u e)]; exact n)
    (fun b u hc e => ⟨u, k b u hc e⟩) (fun b xs e => by rw [upd_ne (nH b _ e)]; exact e) (fun b u v e => by rw [upd_ne (nH b _ e)]; exact e) (fun b ps e => ⟨#[], by rw [upd_ne (nH b _ e), e]; simp⟩) (fun m hm => ?_) (fun b u e => ?_) I.bare
  · obtain ⟨f0, f1, f2, f3, f4, f5⟩ := f b hb
    exact ⟨f3, f1, f4, f5⟩
  · obtain ⟨u, es, ep, ho, r⟩ := hm
    exact ⟨u, es, ep, k _ u (fun z => (f _ z).2.1 rfl) ho, r⟩
  · by_cases hb : b = T
    · subst hb
      rw [upd_same] at e
      cases e
      exact new
    · rw [upd_ne hb] at e
      refine (I.hok b u e).stay (fun c v hc q => k c v ?_ q) (fun c q => ?_) fun c xs q => by rw [upd_ne (nH c _ q)]; exact q
      · rcases hc with z | z
        · rw [z]; exact nw b u e
        · exact nw c _ z
      · rw [upd_ne (nH c _ q)]; exact q
/-- .. and nothing new -/
theorem Inv.turnedL {t' : Nat} {wr : List Addr} (I : Inv X pins σ H s) (k : ∀ b u, b ∉ wr → s.heap.get? b = some u → h'.get? b = some u) (f : ∀ b ∈ wr, FpOk X pins H b) : Inv X pins σ H { s with heap := h', toks := t' } := by
  have nw : ∀ b u, H b = some u → b ∉ wr := fun b u e z => by rw [(f b z).1] at e; cases e
  refine I.step (g' := s.gens) (d' := s.drawn) (ch := wr) (fun b hb => ?_) (fun b u _ _ hc e _ => k b u hc e) (fun b u _ _ hc e _ => ⟨u.slots, k b u hc e⟩) (fun _ _ _ _ n => n)
    (fun b u hc e => ⟨u, k b u hc e⟩) (fun _ _ e => e) (fun _ _ _ e => e) (fun b ps e => ⟨#[], by rw [e]; simp⟩) (fun m hm => ?_) (fun b u e => ?_) I.bare
  · obtain ⟨f0, f1, f2, f3, f4, f5⟩ := f b hb
    exact ⟨f3, f1, f4, f5⟩
  · obtain ⟨u, es, ep, ho, r⟩ := hm
    exact ⟨u, es, ep, k _ u (fun z => (f _ z).2.1 rfl) ho, r⟩
  · refine (I.hok b u e).stay (fun c v hc q => k c v ?_ q) (fun _ q => q) fun _ _ q => q
    rcases hc with z | z
    · rw [z]; exact nw b u e
    · exact nw c _ z
end
/-- two lists walked side by side: each turn lays a new pair -/
noncomputable def Itz (K : PySem.W.Frag) (a b : Addr) : It :=
  ⟨fun i H => ∃ xs ys x y, SqL K H a xs ∧ SqL K H b ys ∧ xs[i]? = some x ∧ ys[i]? = some y,
   fun i H v H' => ∃ T x y, v = .ref T ∧ H T = none ∧ H' = upd H T (.tup [x, y]) ∧ (∀ xs, SqL K H a xs → xs[i]? = some x) ∧ (∀ ys, SqL K H b ys → ys[i]? = some y),
   fun i H => ∃ xs ys, SqL K H a xs ∧ SqL K H b ys ∧ min xs.length ys.length = i⟩
noncomputable def zipTn (z TI TO i1 i2 l1 l2 : Addr) (i : Nat) (h : Heap) : Prop := IsZip h z TI TO .none ∧ IsPair h TI (.ref i1) (.ref i2) ∧ (∃ a b, IsPair h TO a b) ∧ h.IsListIter i1 l1 i ∧ h.IsListIter i2 l2 i
theorem turn_zip {P : Program} {w : World} {K : PySem.W.Frag} {elts : List Expr} {k : Nat} {pos : Pos} (z TI TO i1 i2 l1 l2 : Addr) (D : ZipApart z TI TO i1 i2 l1 l2) :
    Turn P w K (.Tuple elts k pos) (Itz K l1 l2) [z, TI, TO, i1, i2] z (zipTn z TI TO i1 i2 l1 l2) where
  mem := by simp
  obj := fun i h st b hb => by
    obtain ⟨hz, hTI, ⟨a, c, hTO⟩, ⟨o1, e1, c1, d1⟩, ⟨o2, e2, c2, d2⟩⟩ := st
    simp only [List.mem_cons, List.not_mem_nil, or_false] at hb
    rcases hb with rfl | rfl | rfl | rfl | rfl
    · exact ⟨_, hz, fun v q => by cases q⟩
    · exact ⟨_, hTI, fun v q => by cases q⟩
    · exact ⟨_, hTO, fun v q => by cases q⟩
    · exact ⟨o1, e1, fun v q => by rw [d1] at q; cases q⟩
    · exact ⟨o2, e2, fun v q => by rw [d2] at q; cases q⟩
  keep := fun i h h' st kk => by
    obtain ⟨hz, hTI, ⟨a, c, hTO⟩, h1, h2⟩ := st
    exact ⟨kk z (by simp) _ hz, kk TI (by simp) _ hTI, ⟨a, c, kk TO (by simp) _ hTO⟩, h1.at fun o e => kk i1 (by simp) o e, h2.at fun o e => kk i2 (by simp) o e⟩
  item := by
    intro X hP hw hK hc i pins s σ H E I hf st hg
    subst hP hw hK
    obtain ⟨xs, ys, x, y, hx, hy, ex, ey⟩ := hg
    obtain ⟨its, rv, p, hz⟩ := I.list hx
    obtain ⟨its2, rv2, p2, hz2⟩ := I.list hy
    obtain ⟨s1, s2, s3, s4, s5⟩ := st
    have W := WalksT.zip2 (prog := X.prog) (w := X.w) (I.ok.hd hc) z TI TO i1 i2 l1 l2 D its.toArray its2.toArray
    have li : i < xs.length := (List.getElem?_eq_some_iff.mp ex).1
    have li2 : i < ys.length := (List.getElem?_eq_some_iff.mp ey).1
    have el := rv.length
    have el2 := rv2.length
    have wsub : ∀ b ∈ [z, TO, i1, i2], b ∈ [z, TI, TO, i1, i2] := fun b hb => by
      simp only [List.mem_cons, List.not_mem_nil, or_false] at hb ⊢
      rcases hb with rfl | rfl | rfl | rfl <;> simp
    refine W.item i s _ _ (by simp only [List.size_toArray]; omega) ⟨s1, s2, s3, s4, s5, p.isList, p2.isList⟩ fun T vals h' tk hv hT hTup hm hk => ?_
    obtain ⟨u, v, eu, ev, rfl⟩ := hv
    obtain ⟨u', eu', ru⟩ := rv.get ex
    obtain ⟨v', ev', rv'⟩ := rv2.get ey
    have e1 : u = u' := by
      have : its[i]? = some u := by simpa using eu
      rw [eu'] at this
      exact (Option.some.inj this).symm
    have e2 : v = v' := by
      have : its2[i]? = some v := by simpa using ev
      rw [ev'] at this
      exact (Option.some.inj this).symm
    subst e1 e2
    have hTn : H T = none := I.hok.fresh hT
    have I1 : Inv X pins σ (upd H T (.tup [x, y])) { s with heap := h', toks := tk } := I.turnedT hk (fun b hb => hf b (wsub b hb)) hT ⟨by show 2 ≤ sizeLine; decide, [u, v], .cons ru (.cons rv' .nil), hTup⟩
    have ap := W.apart i T h' hm
    have f1 : ∀ b ∈ [z, TO, i1, i2], FpOk X pins (upd H T (.tup [x, y])) b := fun b hb => by
      obtain ⟨f0, f1⟩ := hf b (wsub b hb)
      exact ⟨by rw [upd_ne (fun e : b = T => ap (by rw [← e]; exact hb))]; exact f0, f1⟩
    refine ⟨_, rfl, W.go elts k pos i T _ _ _ hm fun h'' st2 hk2 => ?_⟩
    obtain ⟨t1, t2, t3, t4, t5, _, _⟩ := st2
    refine ⟨.ref T, _, Inv.turnedL (s := { s with heap := h', toks := tk }) (t' := tk) I1 hk2 f1, rfl, ⟨T, x, y, rfl, hTn, rfl, fun zs q => by rw [I.list_inj q hx]; exact ex, fun zs q => by rw [I.list_inj q hy]; exact ey⟩, ⟨t1, t2, t3, t4, t5⟩, fun b hb => ?_⟩
    have fb := (hf b hb).1
    by_cases e : b = T
    · subst e
      have lti : s.heap.objs.size > TI := Heap.lt_size s2
      simp only [List.mem_cons, List.not_mem_nil, or_false] at hb
      rcases hb with rfl | rfl | rfl | rfl | rfl
      · exact absurd (by simp) ap
      · exact absurd lti (Nat.not_lt.mpr hT)
      · exact absurd (by simp) ap
      · exact absurd (by simp) ap
      · exact absurd (by simp) ap
    · rw [upd_ne e]; exact fb
  done := by
    intro X hP hw hK hc i pins s σ H E I hf st hg
    subst hP hw hK
    obtain ⟨xs, ys, hx, hy, hi⟩ := hg
    obtain ⟨its, rv, p, hz⟩ := I.list hx
    obtain ⟨its2, rv2, p2, hz2⟩ := I.list hy
    obtain ⟨s1, s2, s3, s4, s5⟩ := st
    have W := WalksT.zip2 (prog := X.prog) (w := X.w) (I.ok.hd hc) z TI TO i1 i2 l1 l2 D its.toArray its2.toArray
    have el := rv.length
    have el2 := rv2.length
    have en : min its.toArray.size its2.toArray.size = i := by simp only [List.size_toArray]; omega
    have wsub : ∀ b ∈ [z, TO, i1, i2], b ∈ [z, TI, TO, i1, i2] := fun b hb => by
      simp only [List.mem_cons, List.not_mem_nil, or_false] at hb ⊢
      rcases hb with rfl | rfl | rfl | rfl <;> simp
    refine W.done s _ _ ?_ fun h' tk hk => ⟨rfl, I.turnedL hk fun b hb => hf b (wsub b hb)⟩
    rw [en]
    exact ⟨s1, s2, s3, s4, s5, p.isList, p2.isList⟩
  self := fun _ _ _ _ _ st h => wpAny_pyIter_zip st.1 h
section
variable {X : Cx} {elts : List Expr} {k : Nat} {tpos : Pos}
noncomputable def iZip (K : PySem.W.Frag) (ta : TA) : TI := fun σ H R => ta σ H fun vs H1 => ∃ a b, vs = [.ref a, .ref b] ∧ (∃ xs, SqL K H1 a xs) ∧ (∃ ys, SqL K H1 b ys) ∧ R (Itz K a b) H1
theorem pi_zip {a b : Expr} {ta : TA} {p pos : Pos} (hg : Gl X "zip") (hm : X.mg "zip" = none) (ha : PA X [a, b] ta) (hs : starEach [a, b] X.env = [(false, eval a X.env), (false, eval b X.env)] := by rfl) (hs2 : starEach [b] X.env = [(false, eval b X.env)] := by rfl) :
    PI X (.Tuple elts k tpos) (.Call (.Name "zip" p) [a, b] [] pos) (iZip X.K ta) := by
  intro pins s σ H R I h
  refine Call_ (ld_blt I hg hm boot_zip (PyProof.Rows.callWith_type1 (thn (ha pos pins s σ H _ I h) fun us s1 ⟨vs, H1, I1, r1, q1⟩ => ?_) (by rw [hs, hs2]) (by rw [hs2]; rfl)))
  obtain ⟨l1, l2, e, ⟨xs, hx⟩, ⟨ys, hy⟩, q⟩ := q1
  subst e
  obtain ⟨u, v, rfl, ru, rv⟩ := r1.two
  cases ru
  cases rv
  obtain ⟨its, rr, pl, hz⟩ := I1.list hx
  obtain ⟨its2, rr2, pl2, hz2⟩ := I1.list hy
  have lt1 : l1 < s1.heap.objs.size := by obtain ⟨o, e, _⟩ := pl.isList; exact Heap.lt_size e
  have lt2 : l2 < s1.heap.objs.size := by obtain ⟨o, e, _⟩ := pl2.isList; exact Heap.lt_size e
  refine call_zip_2 pl.isList pl2.isList fun h' z1 z2 z3 z4 z5 zs kk => ?_
  have I2 : Inv X pins σ H1 { s1 with heap := h' } := I1.kept (t' := s1.toks) kk
  refine wpAny_pyIter_zip z1 ?_
  refine ⟨_, _, _, _, H1, rfl, I2, turn_zip _ _ _ _ _ l1 l2 ?_, ⟨z1, z2, ⟨_, _, z3⟩, z4, z5⟩, fun b hb => ?_, q⟩
  · have lt1' : s1.heap.objs.size > l1 := lt1
    have lt2' : s1.heap.objs.size > l2 := lt2
    constructor <;> (show ¬ (@Eq Nat _ _)) <;> omega
  · have : s1.heap.objs.size ≤ b := by
      simp only [List.mem_cons, List.not_mem_nil, or_false] at hb
      rcases hb with rfl | rfl | rfl | rfl | rfl <;> omega
    exact I1.fpOk this (I1.hok.fresh this)
end
/-- a comprehension over two lists -/
theorem comp_zip {K : PySem.W.Frag} {a b l : Addr} {xs ys : List V} {g : TG} {tb : List V → Addr → St → Hp → (List V → St → Hp → Prop) → Prop} {Q : VK} {σ0 : St} {H0 : Hp} (Pv : Nat → List V → St → Hp → Prop) (h0 : Pv 0 [] σ0 H0)
    (hla : ∀ i us σ H, Pv i us σ H → SqL K H a xs ∧ SqL K H b ys)
    (hs : ∀ i x y T us σ H (N : List V → St → Hp → Prop), xs[i]? = some x → ys[i]? = some y → H T = none → Pv i us σ H → (∀ us' σ' H', Pv (i + 1) us' σ' H' → N us' σ' H') → g (.ref T) σ (upd H T (.tup [x, y])) fun σ2 H2 => tb us l σ2 H2 N)
    (hd : ∀ us σ H, Pv (min xs.length ys.length) us σ H → Q (.ref l) H) :
    ∃ W : Nat → Nat → List V → St → Hp → Prop, (∃ m, W 0 m [] σ0 H0) ∧ ∀ i m us σ' H', W i m us σ' H' → ((Itz K a b).stop i H' ∧ Q (.ref l) H') ∨
      ((Itz K a b).go i H' ∧ ∀ x H'', (Itz K a b).yld i H' x H'' → g x σ' H'' fun σ2 H2 => tb us l σ2 H2 fun us' σ3 H3 => ∃ m', m' < m ∧ W (i + 1) m' us' σ3 H3) := by
  refine ⟨fun i m us σ H => m = min xs.length ys.length - i ∧ i ≤ min xs.length ys.length ∧ Pv i us σ H, ⟨_, rfl, Nat.zero_le _, h0⟩, ?_⟩
  rintro i m us σ H ⟨rfl, hi, p⟩
  obtain ⟨sa, sb⟩ := hla i us σ H p
  by_cases hlt : i < min xs.length ys.length
  · obtain ⟨x, ex⟩ : ∃ x, xs[i]? = some x := ⟨_, List.getElem?_eq_getElem (by omega)⟩
    obtain ⟨y, ey⟩ : ∃ y, ys[i]? = some y := ⟨_, List.getElem?_eq_getElem (by omega)⟩
    refine .inr ⟨⟨xs, ys, x, y, sa, sb, ex, ey⟩, fun v H' q => ?_⟩
    obtain ⟨T, x', y', rfl, hT, rfl, q1, q2⟩ := q
    have e1 := q1 xs sa
    have e2 := q2 ys sb
    exact hs i x' y' T us σ H _ e1 e2 hT p fun us' σ' H' w => ⟨_, by omega, rfl, hlt, w⟩
  · have e : i = min xs.length ys.length := by omega
    subst e
    exact .inl ⟨⟨xs, ys, sa, sb, rfl⟩, hd us σ H p⟩
end L2

set_option Elab.async false
set_option linter.all false
set_option maxRecDepth 100000
namespace L2
open PySem PySem.Spec PyProof.Rows
/-! ### a set out of a tuple of ints and texts -/
/-- the keys met so far, each once -/
noncomputable def met : List Key → List Key
  | [] => []
  | k :: r => if r.any (fun j => decide (j = k)) then met r else k :: met r
section
variable {P : Program} {w : World} {A : Around} {R : Result → Shared → Prop} {it : Addr} {fp wr : List Addr} {G : Array GenState → Array GenState → Prop} {n : Nat} {Pt : Nat → Value → Prop} {St : Nat → Shared → Prop}
noncomputable abbrev SetK (P : Program) (w : World) (h : Heap) (a : Addr) (l : List Key) : Prop := h.SetOf (mixKind P w) a (fun k => l.any fun j => decide (j = k)) l.length
theorem SetK.kept {h h' : Heap} {a : Addr} {l : List Key} (x : SetK P w h a l) (k : ∀ o, h.get? a = some o → h'.get? a = some o) : SetK P w h' a l := by
  obtain ⟨o, es, ep, tb, ho, rest⟩ := x
  exact ⟨o, es, ep, tb, k o ho, rest⟩
end
section
variable {P : Program} {w : World} {A : Around} {E : Value → Shared → Prop} {s : Shared}
end
end L2

set_option Elab.async false
set_option linter.all false
set_option maxRecDepth 100000
namespace L2
open PySem PySem.Spec PyProof.Rows
section
variable {X : Cx}
end
end L2

set_option Elab.async false
set_option linter.all false
set_option maxRecDepth 100000
namespace L2
open PySem PySem.Spec PyProof.Rows
/-! ### comprehensions, said so that what comes behind is found -/
section
variable {K : PySem.W.Frag} {a b l : Addr} {xs ys : List V} {g : TG} {tb : List V → Addr → St → Hp → (List V → St → Hp → Prop) → Prop} {R : Hp → Prop} {σ0 : St} {H0 : Hp}
theorem comp_tupR (Pv : Nat → List V → St → Hp → Prop) (h0 : Pv 0 [] σ0 H0) (hl : ∀ i ys σ H, i ≤ xs.length → Pv i ys σ H → SqT K H a xs)
    (hs : ∀ i x ys σ H (N : List V → St → Hp → Prop), xs[i]? = some x → Pv i ys σ H → (∀ ys' σ' H', Pv (i + 1) ys' σ' H' → N ys' σ' H') → g x σ H fun σ2 H2 => tb ys l σ2 H2 N)
    (hd : ∀ ys σ H, Pv xs.length ys σ H → R H) :
    ∃ W : Nat → Nat → List V → St → Hp → Prop, (∃ m, W 0 m [] σ0 H0) ∧ ∀ i m ys σ' H', W i m ys σ' H' → ((Itt K a).stop i H' ∧ R H') ∨
      ((Itt K a).go i H' ∧ ∀ x H'', (Itt K a).yld i H' x H'' → g x σ' H'' fun σ2 H2 => tb ys l σ2 H2 fun ys' σ3 H3 => ∃ m', m' < m ∧ W (i + 1) m' ys' σ3 H3) := comp_tup (Q := fun _ H => R H) Pv h0 hl hs hd
theorem comp_zipR (Pv : Nat → List V → St → Hp → Prop) (h0 : Pv 0 [] σ0 H0) (hla : ∀ i us σ H, Pv i us σ H → SqL K H a xs ∧ SqL K H b ys)
    (hs : ∀ i x y T us σ H (N : List V → St → Hp → Prop), xs[i]? = some x → ys[i]? = some y → H T = none → Pv i us σ H → (∀ us' σ' H', Pv (i + 1) us' σ' H' → N us' σ' H') → g (.ref T) σ (upd H T (.tup [x, y])) fun σ2 H2 => tb us l σ2 H2 N)
    (hd : ∀ us σ H, Pv (min xs.length ys.length) us σ H → R H) :
    ∃ W : Nat → Nat → List V → St → Hp → Prop, (∃ m, W 0 m [] σ0 H0) ∧ ∀ i m us σ' H', W i m us σ' H' → ((Itz K a b).stop i H' ∧ R H') ∨
      ((Itz K a b).go i H' ∧ ∀ x H'', (Itz K a b).yld i H' x H'' → g x σ' H'' fun σ2 H2 => tb us l σ2 H2 fun us' σ3 H3 => ∃ m', m' < m ∧ W (i + 1) m' us' σ3 H3) := comp_zip (Q := fun _ H => R H) Pv h0 hla hs hd
end
/-- a tuple of names, in a comprehension: said of the program's K -/
theorem pg_tupK {X : Cx} {K : PySem.W.Frag} {es : List Expr} {k : Nat} {pos : Pos} {t : TGs} {n : Nat} (hK : X.K = K) (hc : X.calm = true) (h : PGs X es t)
    (hn : (assignEach es X.env).length = n := by rfl) (hst : (assignEach es X.env).findIdx? (·.1) = none := by rfl) : PG X (.Tuple es k pos) (gTup K n t) := by
  subst hK
  exact pg_tup hc h hn hst
/-- a fresh list l laid on, the rest as it was -/
theorem same_upd {H H1 : Hp} {l : Addr} {o : HO} (hl : H l = none) (g : Same H H1) : Same H (upd H1 l o) := fun b u e => by rw [upd_ne (ne_of_none e hl)]; exact g b u e
end L2

set_option Elab.async false
set_option linter.all false
set_option maxRecDepth 100000
set_option maxHeartbeats 4000000
namespace L2
open PySem PySem.Spec PyProof.Rows
/-! ### a comprehension stored under a local name of the same row: stored ahead of its names' going -/
section
variable {X : Cx}
theorem ps_compG {elt tgt iter : Expr} {ifs : List Expr} {scope : Scope} {pos spos py : Pos} {NL N' : List Str} {ρ : List Nat} {wi : TI} {g : TG} {tb : List V → Addr → St → Hp → (List V → St → Hp → Prop) → Prop} {body : Value → Env → Sem Unit} {j : Nat} {y : Str}
    (hN : X.N.Nodup) (hj : X.N[j]? = some y) (hy : Loc X.env.scope y) (hfn : X.fn y = true ∨ X.env.scope.names.lookup y = some .local)
    (hsw : swapsWith (.ListComp elt [⟨tgt, iter, ifs, 0⟩] scope pos) (some (.Name y py)) spos.line X.env = pure true)
    (hc : X.calm = true) (S : CScope X scope NL ρ N') (hi : PI X tgt iter wi)
    (hg : ∀ C s₀ H₀ fp, PG (ccx X scope C N' s₀ H₀ fp) tgt g) (hb : ∀ C s₀ H₀ fp, PB (ccx X scope C N' s₀ H₀ fp) (fun acc => body acc (ccx X scope C N' s₀ H₀ fp).env) tb)
    (he : ∀ (it acc : Value) (env : Env), compTurn (.ListComp elt [⟨tgt, iter, ifs, 0⟩] scope pos) 0 it acc env = (standAt iter.pos >>= fun _ => pyNext it >>= fun r => match r with
      | none => pure (.done .next)
      | some v => letOwnedTupleGo tgt it v >>= fun _ => assign tgt env v >>= fun _ => body acc env >>= fun _ => again (.compLoop (.ListComp elt [⟨tgt, iter, ifs, 0⟩] scope pos) 0 it acc env)))
    (hs : ∀ x, foldedSetIterable iter X.env x = pure x := by intro _; rfl) : PS X (.Assign [.Name y py] (.ListComp elt [⟨tgt, iter, ifs, 0⟩] scope pos) spos) (tAsg (tComp NL.length ρ wi g tb) (gName j)) := by
  intro pins s σ H D0 I h
  have free_in : ∀ x ∈ scope.names, x.2 = .free → ∃ c, X.env.cells.lookup x.1 = some c := fun x hx hk => I.ok.has x.1 (S.frees x hx hk)
  rw [exec_Assign_Name_used _ _ _ _ hsw]
  refine wpAny_bind (wpAny_standAt (wpAny_bind ?_))
  rw [arm_evalThenUse_ListComp]
  refine wpAny_bind (thn (Q := fun _ s' => SP X pins D0 .next s') ?_ fun _ s' q0 => wpAny_pure (wpAny_pure q0))
  refine wpAny_comprehension_free (use := some (assign (.Name y py) X.env)) (Q := fun _ s' => SP X pins D0 .next s') rfl hs (closure_is free_in) S.kind S.locs ?_
  refine thn (hi pins s σ H _ I h) fun v s1 h1 => thn h1 fun itv s2 h2 => ?_
  obtain ⟨it, fp, tn, J, H2, e, I2, T, st2, f2, w⟩ := h2
  subst e
  refine wpAny_newObj_type (wpAny_newFunctionEnv S.nocell (by intro y hy; simp at hy) (fun h₁ hns₁ hsb₁ => ?_) S.kind)
  dsimp only at hns₁ hsb₁ ⊢
  generalize hH2 : s2.heap.push { cls := .type "list", dict := none, data := .seq ([] : List Value).toArray } = h2' at hns₁ hsb₁ ⊢
  have hCs : h2'.objs.size = s2.heap.objs.size + 1 := by rw [← hH2, Heap.size_push]
  have hDC : s2.heap.objs.size ≠ h2'.objs.size := by rw [hCs]; exact Nat.ne_of_lt (Nat.lt_succ_self _)
  have hC : s2.heap.objs.size ≤ h2'.objs.size := by rw [hCs]; exact Nat.le_succ _
  have old : ∀ b o, s2.heap.get? b = some o → h₁.get? b = some o := fun b o e => hsb₁.extBut b o (Nat.ne_of_lt (Nat.lt_of_lt_of_le (Heap.lt_size e) hC)) (Heap.get?_push_of_some _ (hH2 ▸ Heap.get?_push_of_some _ e))
  have hd : h₁.get? s2.heap.objs.size = some { cls := .type "list", data := .seq #[] 0 } := hsb₁.extBut _ _ hDC (Heap.get?_push_of_some _ (hH2 ▸ Heap.get?_push_size _ rfl))
  have hfo : ∀ b ∈ fp, ∃ o, s2.heap.get? b = some o := fun b hb => let ⟨o, e, _⟩ := T.obj _ _ st2 b hb; ⟨o, e⟩
  have I4 : Inv (ccx X scope h2'.objs.size N' s2 H2 fp) (X.pn ++ pins) (cst NL.length ρ σ) (upd H2 s2.heap.objs.size (.lst [])) { s2 with heap := h₁, toks := s2.toks + ([] : List (Str × Value)).length } :=
    Inv.comp S I2 f2 hfo hC (Nat.le_refl _) hDC old hd (by simpa using hns₁)
  have hD0 : H2 s2.heap.objs.size = none := I2.hok.fresh (Nat.le_refl _)
  have nfp : s2.heap.objs.size ∉ fp := fun z => by
    obtain ⟨o, e⟩ := hfo _ z
    exact absurd (Heap.lt_size e) (Nat.lt_irrefl _)
  obtain ⟨W, ⟨m0, w0⟩, turn⟩ := w s2.heap.objs.size hD0
  -- the iterator's objects
  have stat : ∀ {H' : Hp}, (∀ b ∈ fp, H' b = none) → ∀ b ∈ fp, FpOk (ccx X scope h2'.objs.size N' s2 H2 fp) (X.pn ++ pins) H' b := fun {H'} hn b hb => by
    obtain ⟨f0, f1, f2', f3, f4, f5⟩ := f2 b hb
    have ok := I4.ok
    refine ⟨hn b hb, (ok.exf b hb).1, ok.exfs b hb, .inl hb, (ok.exf b hb).2, fun p hp => f5 p hp⟩
  have loop : ∀ s₃ : Shared, s₃ = { s2 with heap := h₁, toks := s2.toks + ([] : List (Str × Value)).length } →
      codeAny (model X.prog X.w) X.A (.compLoop (.ListComp elt [⟨tgt, iter, ifs, 0⟩] scope pos) 0 (.ref it) (.ref s2.heap.objs.size) (compEnvC scope (cloOf X.env scope.names []) h2'.objs.size X.env))
        (compPost (model X.prog X.w) X.A X.xe (some (assign (.Name y py) X.env)) (fun _ s' => SP X pins D0 .next s') (.ref s2.heap.objs.size) h2'.objs.size) s₃ := by
    rintro s₃ rfl
    refine codeAny_loop rfl (fun n s' => ∃ i ys σ' H', Inv (ccx X scope h2'.objs.size N' s2 H2 fp) (X.pn ++ pins) σ' H' s' ∧ tn i s'.heap ∧ (∀ b ∈ fp, H' b = none) ∧ W i n ys σ' H') (fun n s3 hI => ?_) m0
      ⟨0, [], _, _, I4, T.keep _ _ _ st2 (fun b _ o e => old b o e), fun b hb => ?_, w0⟩
    · obtain ⟨i, ys, σ3, H3, I3, st3, fr3, w3⟩ := hI
      show wpAny _ _ ((compTurn (.ListComp elt [⟨tgt, iter, ifs, 0⟩] scope pos) 0 (.ref it) (.ref s2.heap.objs.size) (compEnvC scope (cloOf X.env scope.names []) h2'.objs.size X.env)).onRaise (fun x => do noteFrame x _; theTreesLotGoes x)) _ _ s3
      refine wpAny_noted ?_
      rw [he]
      refine wpAny_bind (wpAny_standAt (wpAny_bind ?_))
      rcases turn i n ys σ3 H3 w3 with ⟨stop, qn⟩ | ⟨go, step⟩
      · refine thn (T.done (ccx X scope h2'.objs.size N' s2 H2 fp) rfl rfl rfl hc i _ s3 σ3 H3 _ I3 (stat fr3) st3 stop) fun r s4 ⟨hr, I5⟩ => ?_
        subst hr
        refine wpAny_pure ?_
        obtain ⟨m, hm, _⟩ := id I5.loc
        have IX : Inv X pins σ H3 { s4 with heap := s4.heap } := Inv.compEnd I2 f2 hC I5 (Heap.SameBut.refl _ _)
        have cne : ∀ x c, X.env.cells.lookup x = some c → c ≠ h2'.objs.size := fun x c ec z => by
          obtain ⟨v0, oc, hoc, _⟩ := I2.cell x c ec
          exact absurd (Nat.lt_of_lt_of_le (Heap.lt_size hoc) hC) (by rw [z]; exact Nat.lt_irrefl _)
        have lne : h2'.objs.size ≠ X.env.locals := Nat.ne_of_gt (Nat.lt_of_lt_of_le I2.lt hC)
        refine wpAny_assign_Name (store_ok2 IX hN hj hy (v := .ref s2.heap.objs.size) rfl (fun s5 I6 ⟨a, sb, ha⟩ => ?_) hfn)
        have na : h2'.objs.size ≠ a := fun z => by
          rcases ha with e | e
          · exact lne (z.trans e)
          · exact cne _ _ e z.symm
        refine ⟨m, hm.at' fun o e => (sb.2 _ na).trans e, fun h' hs' => ⟨_, H3, ?_, qn⟩⟩
        exact I6.turned (t' := s5.toks) (fun b o hb' e => (hs'.2 b hb').trans e) I5.free lne (.inr (Nat.le_trans I2.sz hC)) cne fun q hq z => by
          obtain ⟨e, _⟩ := I2.pin q hq
          exact absurd (Nat.lt_of_lt_of_le (Heap.lt_size e) hC) (by rw [z]; exact Nat.lt_irrefl _)
      · refine thn (T.item (ccx X scope h2'.objs.size N' s2 H2 fp) rfl rfl rfl hc i _ s3 σ3 H3 _ I3 (stat fr3) st3 go) fun r s4 ⟨u, hr, h4⟩ => ?_
        subst hr
        refine wpAny_bind (thn h4 fun _ s5 ⟨x, H5, I5, r5, y5, st5, fr5⟩ => ?_)
        have I5' := I5.pinned (stat fr5) (T.obj _ _ st5)
        refine wpAny_bind (wpAny_mono (hg h2'.objs.size s2 H2 fp _ s5 σ3 H5 x u _ I5' r5 (step x H5 y5)) (fun _ s6 ⟨σ6, H6, I6, q6⟩ => ?_) fun _ _ z => z.elim)
        refine wpAny_bind (wpAny_mono (hb h2'.objs.size s2 H2 fp _ s6 σ6 H6 s2.heap.objs.size ys _ I6 q6) (fun _ s7 ⟨ys7, σ7, H7, I7, m', hm, w7⟩ => ?_) fun _ _ z => z.elim)
        refine wpAny_pure ⟨rfl, m', hm, i + 1, ys7, σ7, H7, I7.unpinned, T.keep _ _ _ st5 fun b hb o e => (I7.pin (b, o) (List.mem_append_right _ (List.mem_append_right _ (mem_pinsAt hb e)))).1, fun b hb => ?_, w7⟩
        obtain ⟨o, e, d⟩ := T.obj _ _ st5 b hb
        exact (I7.pin (b, o) (List.mem_append_right _ (List.mem_append_right _ (mem_pinsAt hb e)))).2.1
    · rw [upd_ne (show b ≠ s2.heap.objs.size from fun z => nfp (by rw [← z]; exact hb))]
      exact (f2 b hb).1
  refine codeAny_compStart_list (loop _ rfl) (T.self _ 0 _ _ _ ?_ (loop _ rfl))
  exact T.keep _ _ _ st2 fun b _ o e => old b o e
theorem ps_setC {elt tgt iter : Expr} {scope : Scope} {pos spos py : Pos} {NL N' : List Str} {ρ : List Nat} {wi : TI} {g : TG} {te : TE} {j : Nat} {y : Str} (hN : X.N.Nodup) (hj : X.N[j]? = some y) (hy : Loc X.env.scope y)
    (hc : X.calm = true) (S : CScope X scope NL ρ N') (hi : PI X tgt iter wi) (hg : ∀ C s₀ H₀ fp, PG (ccx X scope C N' s₀ H₀ fp) tgt g) (he : ∀ C s₀ H₀ fp, PE (ccx X scope C N' s₀ H₀ fp) elt te)
    (hsw : swapsWith (.ListComp elt [⟨tgt, iter, [], 0⟩] scope pos) (some (.Name y py)) spos.line X.env = pure true := by rfl) (hfn : X.fn y = true ∨ X.env.scope.names.lookup y = some .local := by first | exact .inl rfl | exact .inr rfl | assumption)
    (hs : ∀ x, foldedSetIterable iter X.env x = pure x := by intro _; rfl) : PS X (.Assign [.Name y py] (.ListComp elt [⟨tgt, iter, [], 0⟩] scope pos) spos) (tAsg (tComp NL.length ρ wi g (cEl te)) (gName j)) :=
  ps_compG (body := fun acc env => do let x ← eval elt env; let _ ← call (.builtin "list.append") [acc, x]; pure ()) hN hj hy hfn hsw hc S hi hg (fun C s₀ H₀ fp => pb_el (he C s₀ H₀ fp)) (fun it acc env => turn_eq0 elt tgt iter scope pos it acc env) hs
end
end L2

set_option Elab.async false
set_option linter.all false
set_option maxRecDepth 100000
namespace L2
open PySem PySem.Spec PyProof.Rows
section
variable {X : Cx}
/-! ### rules said of the program's K, for comprehensions -/
variable {K : PySem.W.Frag}
theorem pe_tupPK {es : List Expr} {x1 : Nat} {pos : Pos} {t : TA} (hK : X.K = K) (h : PA X es t) : PE X (.Tuple es x1 pos) (tTupP K t) := by subst hK; exact pe_tupP h
theorem ix_listK (hK : X.K = K) : IxR X (rIxL K) := by subst hK; exact ix_list
theorem op_eqDK (hK : X.K = K) (hu : X.A.units + 64 < cLine) : OpR X (compareOp .Eq) (rEqD K) := by subst hK; exact op_eqD hu
theorem op_in_seqK (hK : X.K = K) : OpR X (compareOp .In) (rIn K false) := by subst hK; exact op_in_seq
end
end L2

set_option Elab.async false
set_option linter.all false
set_option maxRecDepth 100000
set_option maxHeartbeats 4000000
namespace L2
open PySem PySem.Spec PyProof.Rows
/-! ### try: y = e except C as n: suite -/
section
variable {X : Cx}
end
end L2

set_option Elab.async false
set_option linter.all false
set_option maxRecDepth 100000
namespace L2
open PySem PySem.Spec PyProof.Rows
section
variable {X : Cx}
theorem strs_vals : ∀ {ss : List Str} {us : List Value}, Vals (ss.map V.str) us → StrsAre us ss
  | [], us, h => by cases h; exact .nil
  | z :: ss, us, h => by
    cases h with
    | cons r rr =>
      obtain ⟨t, rfl⟩ := r
      exact .cons z t (strs_vals rr)
theorem vals_strs : ∀ {ss : List Str} {us : List Value}, StrsAre us ss → Vals (ss.map V.str) us
  | _, _, .nil => .nil
  | _, _, .cons z t r => .cons ⟨t, rfl⟩ (vals_strs r)
/-- sorted of a list of texts: a new list of the same texts, rising -/
theorem call_sortS : CallR X (.builtin "sorted") (fun xs H Q => ∃ (p : Addr) (ss : List Str), xs = [.ref p] ∧ SqL X.K H p (ss.map V.str) ∧ ss.length < 64 ∧ ∀ a ss', H a = none → ss'.Perm ss → sortedS ss' = true → Q (.ref a) (upd H a (.lst (ss'.map V.str)))) := by
  intro pins s σ H xs us Q I r h
  obtain ⟨p, ss, rfl, hp, hl, q⟩ := h
  obtain ⟨u, rfl, rx⟩ := vals1 r
  cases rx
  obtain ⟨its, rv, pl, hz⟩ := I.list hp
  have el := rv.length
  rw [List.length_map] at el
  refine sorted_strs pl.isList (strs_vals rv) (by omega) fun out ss' h1 h2 h3 => ?_
  obtain ⟨e, he⟩ := sortedAll_at s.heap its out
  have hn : H (s.heap.objs.size + 1) = none := I.hok.fresh (Nat.le_succ _)
  refine ⟨.ref (s.heap.objs.size + 1), _, I.laid (t' := s.toks) (o := .lst (ss'.map V.str)) (fun b o => sortedAll_old) (Nat.le_succ _) ?_, rfl, q _ _ hn h2 h3⟩
  have e2 : seqObj "list" out e = seqObj "list" out.toList.toArray e := by rw [Array.toArray_toList]
  refine ⟨?_, out.toList, e, vals_strs h1, ?_⟩
  · rw [List.length_map, h2.length_eq]
    exact Nat.le_of_lt (Nat.lt_trans hl (by decide))
  · rw [he, e2]
end
end L2

set_option Elab.async false
set_option linter.all false
set_option maxRecDepth 100000
namespace L2
open PySem PySem.Spec PyProof.Rows
noncomputable abbrev two (v : Value) (c : Nat) : Obj := { cls := .type "list", dict := none, data := .seq #[v, v] c, slots := #[] }
section
variable {prog : Program} {w : World} {A : Around} {R : Result → Shared → Prop} {it : Addr} {fp wr : List Addr} {n : Nat} {P : Nat → Value → Prop} {St : Nat → Heap → Prop}
end
section
variable {prog : Program} {w : World} {A : Around} {E : Value → Shared → Prop} {s : Shared} {l : Addr} {zs : Array (Int × Tok)} {d : Value} {Q : Value → Shared → Prop}
end
section
variable {X : Cx}
end
end L2
namespace L2
open PySem PySem.Spec PyProof.Rows
section
variable {X : Cx} {K : PySem.W.Frag}
end
end L2
namespace L2
open PySem PySem.Spec PyProof.Rows
section
variable {l : Addr} {g : TG} {tb : List V → Addr → St → Hp → (List V → St → Hp → Prop) → Prop} {R : Hp → Prop} {σ0 : St} {H0 : Hp} {lo : Int} {n : Nat} {z : Str}
theorem comp_rangeR (Pv : Nat → List V → St → Hp → Prop) (h0 : Pv 0 [] σ0 H0) (hs : ∀ i ys σ H (N : List V → St → Hp → Prop), i < n → Pv i ys σ H → (∀ ys' σ' H', Pv (i + 1) ys' σ' H' → N ys' σ' H') → g (.int (lo + i)) σ H fun σ2 H2 => tb ys l σ2 H2 N) (hd : ∀ ys σ H, Pv n ys σ H → R H) :
    ∃ W : Nat → Nat → List V → St → Hp → Prop, (∃ m, W 0 m [] σ0 H0) ∧ ∀ i m ys σ' H', W i m ys σ' H' → ((Itr lo n).stop i H' ∧ R H') ∨ ((Itr lo n).go i H' ∧ ∀ x H'', (Itr lo n).yld i H' x H'' → g x σ' H'' fun σ2 H2 => tb ys l σ2 H2 fun ys' σ3 H3 => ∃ m', m' < m ∧ W (i + 1) m' ys' σ3 H3) := comp_range (Q := fun _ H => R H) Pv h0 hs hd
theorem comp_strR (Pv : Nat → List V → St → Hp → Prop) (h0 : Pv 0 [] σ0 H0) (hs : ∀ i c ys σ H (N : List V → St → Hp → Prop), z.cps[i]? = some c → Pv i ys σ H → (∀ ys' σ' H', Pv (i + 1) ys' σ' H' → N ys' σ' H') → g (.str ⟨#[c]⟩) σ H fun σ2 H2 => tb ys l σ2 H2 N) (hd : ∀ ys σ H, Pv z.cps.size ys σ H → R H) :
    ∃ W : Nat → Nat → List V → St → Hp → Prop, (∃ m, W 0 m [] σ0 H0) ∧ ∀ i m ys σ' H', W i m ys σ' H' → ((Its z).stop i H' ∧ R H') ∨ ((Its z).go i H' ∧ ∀ x H'', (Its z).yld i H' x H'' → g x σ' H'' fun σ2 H2 => tb ys l σ2 H2 fun ys' σ3 H3 => ∃ m', m' < m ∧ W (i + 1) m' ys' σ3 H3) := comp_str (Q := fun _ H => R H) Pv h0 hs hd
end
end L2

set_option Elab.async false
set_option linter.all false
set_option maxRecDepth 100000
namespace L2
open PySem PySem.Spec PyProof.Rows
/-! ### rules with named relations, said of the program's K: a proof over them is smaller when compiled -/
section
variable {X : Cx} {K : PySem.W.Frag}
noncomputable def nIxP (K : PySem.W.Frag) : R2 := fun x y H Q => ∃ l i d, IsP K H (.tup l) x ∧ y = .int i ∧ atI l i = some d ∧ ∀ v, IsP K H d v → Q v H
noncomputable def nLenD (K : PySem.W.Frag) : List V → Hp → VK → Prop := fun xs H Q => ∃ x l, xs = [x] ∧ IsD K H (.tup l) x ∧ Q (.int l.length) H
noncomputable def nIsi (K : PySem.W.Frag) : List V → Hp → VK → Prop := fun xs H Q => ∃ x T b, xs = [x, .ty T] ∧ IsiB K H x T b ∧ Q (.bl b) H
noncomputable def nTupP (K : PySem.W.Frag) : List V → Hp → VK → Prop := fun xs H Q => ∃ p ys l, xs = [.ref p] ∧ SqL K H p ys ∧ IsPs K H l ys ∧ ∀ v H', Same H H' → IsP K H' (.tup l) v → Q v H'
theorem ix_tupPN (hK : X.K = K) : IxR X (nIxP K) := by subst hK; exact ix_tupP
theorem call_lenDN (hK : X.K = K) : CallR X (.builtin "len") (nLenD K) := by subst hK; exact call_lenD
theorem call_isiN' (hK : X.K = K) : CallR X (.builtin "isinstance") (nIsi K) := by subst hK; exact call_isi
theorem call_tuplePN (hK : X.K = K) : CallR X (.type "tuple") (nTupP K) := by subst hK; exact call_tupleP
theorem pi_tupN {tg l : Expr} {tl : TE} (hK : X.K = K) (hl : PE X l tl) : PI X tg l (iTup K tl) := by subst hK; exact pi_tup hl
theorem pi_listN {tg l : Expr} {tl : TE} (hK : X.K = K) (hl : PE X l tl) : PI X tg l (iList K tl) := by subst hK; exact pi_list hl
end
end L2

set_option Elab.async false
set_option linter.all false
set_option maxRecDepth 100000
namespace L2
open PySem PySem.Spec PyProof.Rows
/-! ### tuple(text) -/
end L2

set_option Elab.async false
set_option linter.all false
set_option maxRecDepth 100000
namespace L2
open PySem PySem.Spec PyProof.Rows
/-! ### zip of two tuples -/
section
variable {prog : Program} {w : World} {A : Around} {E : Value → Shared → Prop} {s : Shared}
/-- the next one of a tuple's walk -/
theorem nextT_item {b t : Addr} {k : Nat} {its : Array Value} {v : Value} {Q : Value → Shared → Prop} (hb : IsTupIter s.heap b t k) (ht : IsTup s.heap t its) (hv : its[k]? = some v)
    (q : ∀ h', IsTupIter h' b t (k + 1) → Heap.SameBut b s.heap h' → Q v { s with heap := h' }) : wpAny (model prog w) A (Builtin.SmallTypes.nextOf (.ref b)) Q E s := by
  obtain ⟨ob, gb, cb, db⟩ := id hb
  obtain ⟨ot, gt, _, nt, dt⟩ := ht
  unfold Builtin.SmallTypes.nextOf
  refine wpAny_bind (wpAny_callSpecial?_slot (name := Str.ofString "__next__") hb.typeIs slot_tupleiter_next (wpAny_call_entry slot_tupleiter_next hb.typeIs entry_tupleiter_next ?_ (args_tupleiter_next _)))
  refine show wpAny _ _ (field (.ref b) 0 >>= _) _ _ s from wpAny_bind (wpAny_field gb db (x := .ref t) rfl ?_)
  refine show wpAny _ _ (if (Value.ref t == Value.none) = true then _ else _) _ _ s from ?_
  rw [if_neg (by exact Bool.false_ne_true)]
  refine show wpAny _ _ (field (.ref b) 1 >>= _) _ _ s from wpAny_bind (wpAny_field gb db (x := .int k 0) rfl ?_)
  refine show wpAny _ _ (seqItems? (.ref t) >>= _) _ _ s from wpAny_bind (wpAny_seqItems gt dt ?_)
  simp only [hv, Int.toNat_natCast]
  refine wpAny_bind (wpAny_setField gb db (by simp) (wpAny_pure ⟨v, rfl, wpAny_pure (q _ ⟨_, Heap.get?_update_self _ gb (Obj.isFreed_of_fields (Obj.data_mapFields db _)), (Obj.cls_mapFields ..).trans cb, ?_⟩ (Heap.SameBut.update ..))⟩))
  rw [Obj.data_mapFields db]
  simp [rawInt]
/-- .. and behind its last one -/
theorem nextT_end {b t : Addr} {k : Nat} {its : Array Value} {Q : Value → Shared → Prop} (hh : A.handled = none) (hb : IsTupIter s.heap b t k) (ht : IsTup s.heap t its) (hv : its[k]? = none)
    (q : ∀ h' e, Heap.ExtBut b s.heap h' → (∃ o, h'.get? e = some o ∧ o.cls = .type "StopIteration") → E (.ref e) { s with heap := h' }) : wpAny (model prog w) A (Builtin.SmallTypes.nextOf (.ref b)) Q E s := by
  obtain ⟨ob, gb, cb, db⟩ := id hb
  obtain ⟨ot, gt, _, nt, dt⟩ := ht
  unfold Builtin.SmallTypes.nextOf
  refine wpAny_bind (wpAny_callSpecial?_slot (name := Str.ofString "__next__") hb.typeIs slot_tupleiter_next (wpAny_call_entry slot_tupleiter_next hb.typeIs entry_tupleiter_next ?_ (args_tupleiter_next _)))
  refine show wpAny _ _ (field (.ref b) 0 >>= _) _ _ s from wpAny_bind (wpAny_field gb db (x := .ref t) rfl ?_)
  refine show wpAny _ _ (if (Value.ref t == Value.none) = true then _ else _) _ _ s from ?_
  rw [if_neg (by exact Bool.false_ne_true)]
  refine show wpAny _ _ (field (.ref b) 1 >>= _) _ _ s from wpAny_bind (wpAny_field gb db (x := .int k 0) rfl ?_)
  refine show wpAny _ _ (seqItems? (.ref t) >>= _) _ _ s from wpAny_bind (wpAny_seqItems gt dt ?_)
  simp only [hv, Int.toNat_natCast]
  refine wpAny_bind (wpAny_rule (wpAny_bind (wpAny_setField gb db (by simp) ?_)))
  refine show wpAny _ _ (newExc (.type "StopIteration") [] >>= _) _ _ _ from wpAny_bind ?_
  simp only [newTuple, newExc]
  refine wpAny_bind (wpAny_newObj_type (wpAny_bind (m := firstArgMember _ _) (wpAny_of_eq (a := Value.none) (by first | rfl | (simp only [firstArgMember]; rfl)) (wpAny_newObj_type ?_ (by size_fits)))) (by size_fits))
  simp only [raiseNew]
  refine wpAny_bind (wpAny_handled ?_)
  rw [show A.in1.handled = none from hh]
  exact wpAny_bind (wpAny_pure (wpAny_throw (q _ _ (((Heap.SameBut.update ..).extBut.push _).push _) ⟨_, Heap.get?_push_size _ rfl, rfl⟩)))
/-- the next pair of two tuples' walks -/
theorem zipT_item {z P0 P1 u v l m : Addr} {k : Nat} {xs ys : Array Value} {x y a b : Value} {Q : Option Value → Shared → Prop} (D : ZipApart z P0 P1 u v l m) (Z : IsZip s.heap z P0 P1 .none) (I0 : IsPair s.heap P0 (.ref u) (.ref v)) (I1 : IsPair s.heap P1 a b)
    (wu : IsTupIter s.heap u l k) (wv : IsTupIter s.heap v m k) (tl : IsTup s.heap l xs) (tm : IsTup s.heap m ys) (ex : xs[k]? = some x) (ey : ys[k]? = some y)
    (q : ∀ h', IsZip h' z P0 P1 (rawInt s.heap.objs.size) → IsPair h' P1 x y → IsTupIter h' u l (k + 1) → IsTupIter h' v m (k + 1) → IsPair h' s.heap.objs.size x y → h'.objs.size = s.heap.objs.size + 1 →
      (∀ c o, c ≠ z → c ≠ P1 → c ≠ u → c ≠ v → s.heap.get? c = some o → h'.get? c = some o) → Q (some (.ref s.heap.objs.size)) { s with heap := h' }) : wpAny (model prog w) A (pyNext (.ref z)) Q E s := by
  have hT : s.TypeIs (.ref z) "zip" := ⟨_, Z, rfl⟩
  unfold pyNext
  refine wpAny_bind (wpAny_attempt (wpAny_callSpecial?_slot (name := Str.ofString "__next__") hT F.slot_zip_next (wpAny_call_entry F.slot_zip_next hT F.entry_zip_next ?_ (F.args_zip_next_1 _))))
  refine show wpAny _ _ (field (.ref z) 2 >>= _) _ _ _ from wpAny_bind (wpAny_field Z rfl (x := .bool false) rfl ?_)
  refine show wpAny _ _ (field (.ref z) 3 >>= _) _ _ _ from wpAny_bind (wpAny_field Z rfl (x := .ref P0) rfl (wpAny_bind (wpAny_seqItems I0 rfl ?_)))
  refine show wpAny _ _ (Builtin.SmallTypes.ownedTupleIsFree (.ref z) >>= _) _ _ _ from wpAny_bind ?_
  unfold Builtin.SmallTypes.ownedTupleIsFree
  refine wpAny_bind (wpAny_field Z rfl (x := .none) rfl (wpAny_pure ?_))
  rw [if_pos rfl]
  refine wpAny_bind (wpAny_rule (wpAny_bind (wpAny_field Z rfl (x := .ref P1) rfl (wpAny_bind (wpAny_setField_rec Z (by simp) fun ha Za sa => ?_)))))
  replace Za : IsZip ha z P0 P1 .ellipsis := Za
  refine wpAny_bind ?_
  simp only [List.zipIdx_cons, List.forIn_cons, List.zipIdx_nil, List.forIn_nil]
  refine wpAny_bind (wpAny_bind (wpAny_onRaise ?_))
  refine show wpAny _ _ (Builtin.SmallTypes.nextOf (.ref u) >>= _) _ _ _ from wpAny_bind (nextT_item (wu.extBut sa.extBut D.i1z) (tl.extBut sa.extBut D.l1z) ex fun hb wb sb => wpAny_pure ?_)
  have Ib : IsPair hb P1 a b := sb.extBut _ _ D.TOi1 (sa.extBut _ _ D.TOz I1)
  refine wpAny_bind (wpAny_seqItems Ib rfl (wpAny_bind (wpAny_updateSeq_pair Ib fun hc Ic sc => wpAny_bind (wpAny_letGo (wpAny_pure ?_)))))
  replace Ic : IsPair hc P1 x b := Ic
  refine wpAny_bind (wpAny_bind (wpAny_onRaise ?_))
  refine show wpAny _ _ (Builtin.SmallTypes.nextOf (.ref v) >>= _) _ _ _ from wpAny_bind (nextT_item (((wv.extBut sa.extBut D.i2z).extBut sb.extBut D.i12.symm).extBut sc.extBut D.TOi2.symm) (((tm.extBut sa.extBut D.l2z).extBut sb.extBut D.l2i1).extBut sc.extBut D.l2TO) ey fun hd wd sd => wpAny_pure ?_)
  have Id : IsPair hd P1 x b := sd.extBut _ _ D.TOi2 Ic
  refine wpAny_bind (wpAny_seqItems Id rfl (wpAny_bind (wpAny_updateSeq_pair Id fun he Ie se => wpAny_bind (wpAny_letGo (wpAny_pure (wpAny_pure ?_))))))
  replace Ie : IsPair he P1 x y := Ie
  refine wpAny_bind (wpAny_seqItems Ie rfl (wpAny_bind (wpAny_newTuple ?_)))
  have size : he.objs.size = s.heap.objs.size := by rw [se.1, sd.1, sc.1, sb.1, sa.1]
  have Ze : IsZip he z P0 P1 .ellipsis := se.extBut _ _ D.TOz.symm (sd.extBut _ _ D.i2z.symm (sc.extBut _ _ D.TOz.symm (sb.extBut _ _ D.i1z.symm Za)))
  have keep : ∀ c o, c ≠ z → c ≠ P1 → c ≠ u → c ≠ v → s.heap.get? c = some o → he.get? c = some o := fun c o n1 n2 n3 n4 e => se.extBut _ _ n2 (sd.extBut _ _ n4 (sc.extBut _ _ n2 (sb.extBut _ _ n3 (sa.extBut _ _ n1 e))))
  have we : IsTupIter he u l (k + 1) := ((wb.extBut sc.extBut D.TOi1.symm).extBut sd.extBut D.i12).extBut se.extBut D.TOi1.symm
  have we' : IsTupIter he v m (k + 1) := wd.extBut se.extBut D.TOi2.symm
  have ltz : z < he.objs.size := Heap.lt_size Ze
  refine show wpAny _ _ (Builtin.SmallTypes.ownedTupleHandOut (.ref z) (.ref he.objs.size) >>= _) _ _ _ from wpAny_bind ?_
  unfold Builtin.SmallTypes.ownedTupleHandOut
  have Zf : IsZip (he.push { cls := .type "tuple", data := .seq #[x, y] }) z P0 P1 .ellipsis := Heap.get?_push_of_some _ Ze
  refine wpAny_bind (wpAny_setField_rec Zf (by simp) fun hg Zg sg => ?_)
  replace Zg : IsZip hg z P0 P1 (rawInt he.objs.size) := Zg
  refine wpAny_setField_rec Zg (by simp) fun hi Zi si => ?_
  replace Zi : IsZip hi z P0 P1 (rawInt he.objs.size) := Zi
  have up : ∀ c o, c ≠ z → he.get? c = some o → hi.get? c = some o := fun c o n e => si.extBut _ _ n (sg.extBut _ _ n (Heap.get?_push_of_some _ e))
  have Ti : IsPair hi he.objs.size x y := si.extBut _ _ (Nat.ne_of_gt ltz) (sg.extBut _ _ (Nat.ne_of_gt ltz) (Heap.get?_push_size _ rfl))
  have size' : hi.objs.size = he.objs.size + 1 := by rw [si.1, sg.1, Heap.size_push]
  refine wpAny_pure ⟨_, rfl, wpAny_pure ?_⟩
  rw [size] at Zi Ti size'
  have go := q hi Zi (up _ _ D.TOz Ie) (by obtain ⟨o, e, r⟩ := we; exact ⟨o, up _ o D.i1z e, r⟩) (by obtain ⟨o, e, r⟩ := we'; exact ⟨o, up _ o D.i2z e, r⟩) Ti size' fun c o n1 n2 n3 n4 e => up c o n1 (keep c o n1 n2 n3 n4 e)
  rw [← size] at go
  exact go
/-- .. and behind the shorter one's last -/
theorem zipT_end {z P0 P1 u v l m : Addr} {k : Nat} {xs ys : Array Value} {a b : Value} {Q : Option Value → Shared → Prop} (hh : A.handled = none) (D : ZipApart z P0 P1 u v l m) (Z : IsZip s.heap z P0 P1 .none) (I0 : IsPair s.heap P0 (.ref u) (.ref v)) (I1 : IsPair s.heap P1 a b)
    (wu : IsTupIter s.heap u l k) (wv : IsTupIter s.heap v m k) (tl : IsTup s.heap l xs) (tm : IsTup s.heap m ys) (no : xs[k]? = none ∨ ys[k]? = none)
    (q : ∀ h', (∀ c o, c ≠ z → c ≠ P1 → c ≠ u → c ≠ v → s.heap.get? c = some o → h'.get? c = some o) → Q none { s with heap := h' }) : wpAny (model prog w) A (pyNext (.ref z)) Q E s := by
  have hT : s.TypeIs (.ref z) "zip" := ⟨_, Z, rfl⟩
  unfold pyNext
  refine wpAny_bind (wpAny_attempt (wpAny_callSpecial?_slot (name := Str.ofString "__next__") hT F.slot_zip_next (wpAny_call_entry F.slot_zip_next hT F.entry_zip_next ?_ (F.args_zip_next_1 _))))
  refine show wpAny _ _ (field (.ref z) 2 >>= _) _ _ _ from wpAny_bind (wpAny_field Z rfl (x := .bool false) rfl ?_)
  refine show wpAny _ _ (field (.ref z) 3 >>= _) _ _ _ from wpAny_bind (wpAny_field Z rfl (x := .ref P0) rfl (wpAny_bind (wpAny_seqItems I0 rfl ?_)))
  refine show wpAny _ _ (Builtin.SmallTypes.ownedTupleIsFree (.ref z) >>= _) _ _ _ from wpAny_bind ?_
  unfold Builtin.SmallTypes.ownedTupleIsFree
  refine wpAny_bind (wpAny_field Z rfl (x := .none) rfl (wpAny_pure ?_))
  rw [if_pos rfl]
  refine wpAny_bind (wpAny_rule (wpAny_bind (wpAny_field Z rfl (x := .ref P1) rfl (wpAny_bind (wpAny_setField_rec Z (by simp) fun ha Za sa => ?_)))))
  replace Za : IsZip ha z P0 P1 .ellipsis := Za
  refine wpAny_bind ?_
  simp only [List.zipIdx_cons, List.forIn_cons, List.zipIdx_nil, List.forIn_nil]
  refine wpAny_bind (wpAny_bind (wpAny_onRaise ?_))
  have stop : ∀ {h' : Heap} {e : Addr}, (∃ o, h'.get? e = some o ∧ o.cls = .type "StopIteration") → IsZip h' z P0 P1 .ellipsis → e ≠ z := fun he hz c => by
    obtain ⟨o, ho, hc⟩ := he
    subst c
    rw [hz] at ho
    cases ho
    simp at hc
  have fin : ∀ {h' : Heap} {e : Addr}, (∃ o, h'.get? e = some o ∧ o.cls = .type "StopIteration") → (∀ c o, c ≠ z → c ≠ P1 → c ≠ u → c ≠ v → s.heap.get? c = some o → h'.get? c = some o) →
      wpAny (model prog w) A (do if (← isInstance (.ref e) (.type "StopIteration")) then pure none else throw (.ref e)) Q E { s with heap := h' } := fun {h' e} he hk => by
    obtain ⟨o, ho, hc⟩ := he
    exact wpAny_bind (wpAny_isInstance (T := "StopIteration") (b := true) ⟨o, ho, hc⟩ isSubtype_stop (wpAny_pure (q _ hk)))
  cases ex : xs[k]? with
  | none =>
    refine show wpAny _ _ (Builtin.SmallTypes.nextOf (.ref u) >>= _) _ _ _ from wpAny_bind (nextT_end hh (wu.extBut sa.extBut D.i1z) (tl.extBut sa.extBut D.l1z) ex fun hb e sb he => ?_)
    have Zb : IsZip hb z P0 P1 .ellipsis := sb _ _ D.i1z.symm Za
    have ne := stop he Zb
    obtain ⟨o, ho, hc⟩ := he
    exact wpAny_setField_rec Zb (by simp) fun hd _ sd => fin ⟨o, sd.extBut _ _ ne ho, hc⟩ fun c o n1 _ n3 _ e => sd.extBut _ _ n1 (sb _ _ n3 (sa.extBut _ _ n1 e))
  | some x =>
    have ey : ys[k]? = none := no.resolve_left (by rw [ex]; simp)
    refine show wpAny _ _ (Builtin.SmallTypes.nextOf (.ref u) >>= _) _ _ _ from wpAny_bind (nextT_item (wu.extBut sa.extBut D.i1z) (tl.extBut sa.extBut D.l1z) ex fun hb wb sb => wpAny_pure ?_)
    have Ib : IsPair hb P1 a b := sb.extBut _ _ D.TOi1 (sa.extBut _ _ D.TOz I1)
    refine wpAny_bind (wpAny_seqItems Ib rfl (wpAny_bind (wpAny_updateSeq_pair Ib fun hc Ic sc => wpAny_bind (wpAny_letGo (wpAny_pure (wpAny_bind (wpAny_bind (wpAny_onRaise ?_))))))))
    refine show wpAny _ _ (Builtin.SmallTypes.nextOf (.ref v) >>= _) _ _ _ from wpAny_bind (nextT_end hh (((wv.extBut sa.extBut D.i2z).extBut sb.extBut D.i12.symm).extBut sc.extBut D.TOi2.symm) (((tm.extBut sa.extBut D.l2z).extBut sb.extBut D.l2i1).extBut sc.extBut D.l2TO) ey fun hd e sd he => ?_)
    have Zd : IsZip hd z P0 P1 .ellipsis := sd _ _ D.i2z.symm (sc.extBut _ _ D.TOz.symm (sb.extBut _ _ D.i1z.symm Za))
    have ne := stop he Zd
    obtain ⟨o, ho, hcl⟩ := he
    exact wpAny_setField_rec Zd (by simp) fun hf _ sf => fin ⟨o, sf.extBut _ _ ne ho, hcl⟩ fun c o n1 n2 n3 n4 e => sf.extBut _ _ n1 (sd _ _ n4 (sc.extBut _ _ n2 (sb.extBut _ _ n3 (sa.extBut _ _ n1 e))))
/-- the whole walk -/
theorem walkT (hh : A.handled = none) (z P0 P1 u v l m : Addr) (D : ZipApart z P0 P1 u v l m) (xs ys : Array Value) :
    WalksT prog w A z [z, P0, P1, u, v, l, m] [z, P1, u, v] (min xs.size ys.size) (fun i vals => ∃ x y, xs[i]? = some x ∧ ys[i]? = some y ∧ vals = #[x, y])
      (fun i h => IsZip h z P0 P1 .none ∧ IsPair h P0 (.ref u) (.ref v) ∧ (∃ a b, IsPair h P1 a b) ∧ IsTupIter h u l i ∧ IsTupIter h v m i ∧ IsTup h l xs ∧ IsTup h m ys)
      (fun i T h => IsZip h z P0 P1 (rawInt T) ∧ IsPair h P0 (.ref u) (.ref v) ∧ (∃ a b, IsPair h P1 a b) ∧ IsTupIter h u l (i + 1) ∧ IsTupIter h v m (i + 1) ∧ IsTup h l xs ∧ IsTup h m ys ∧ T ≠ z ∧ T ≠ P1 ∧ T ≠ u ∧ T ≠ v) where
  sub := fun c hc => by
    simp only [List.mem_cons, List.not_mem_nil, or_false] at hc ⊢
    rcases hc with h | h | h | h <;> simp [h]
  frame := fun i h h' st kk => by
    obtain ⟨Z, I0, ⟨a, b, I1⟩, ⟨o1, e1, r1⟩, ⟨o2, e2, r2⟩, ⟨o3, e3, r3⟩, ⟨o4, e4, r4⟩⟩ := st
    exact ⟨kk z (by simp) _ Z, kk P0 (by simp) _ I0, ⟨a, b, kk P1 (by simp) _ I1⟩, ⟨o1, kk u (by simp) _ e1, r1⟩, ⟨o2, kk v (by simp) _ e2, r2⟩, ⟨o3, kk l (by simp) _ e3, r3⟩, ⟨o4, kk m (by simp) _ e4, r4⟩⟩
  item := fun i s Q E hi st q => by
    obtain ⟨Z, I0, ⟨a, b, I1⟩, wu, wv, tl, tm⟩ := st
    have h1 : i < xs.size := by omega
    have h2 : i < ys.size := by omega
    refine zipT_item D Z I0 I1 wu wv tl tm (Array.getElem?_eq_getElem h1) (Array.getElem?_eq_getElem h2) fun h' a1 a2 a3 a4 a5 a6 kk => ?_
    have far : ∀ {c o}, s.heap.get? c = some o → s.heap.objs.size ≠ c := fun e => Nat.ne_of_gt (Heap.lt_size e)
    obtain ⟨o1, e1, _⟩ := wu
    obtain ⟨o2, e2, _⟩ := wv
    obtain ⟨o3, e3, r3⟩ := tl
    obtain ⟨o4, e4, r4⟩ := tm
    refine q s.heap.objs.size #[xs[i], ys[i]] h' s.toks ⟨_, _, Array.getElem?_eq_getElem h1, Array.getElem?_eq_getElem h2, rfl⟩ (Nat.le_refl _) ⟨_, a5, rfl, _, rfl⟩ ⟨a1, kk _ _ D.TIz D.TITO D.TIi1 D.TIi2 I0, ⟨_, _, a2⟩, a3, a4, ⟨o3, kk _ _ D.l1z D.l1TO D.l1i1 D.l1i2 e3, r3⟩, ⟨o4, kk _ _ D.l2z D.l2TO D.l2i1 D.l2i2 e4, r4⟩, far Z, far I1, far e1, far e2⟩ fun c o hc e => ?_
    simp only [List.mem_cons, List.not_mem_nil, or_false, not_or] at hc
    exact kk c o hc.1 hc.2.1 hc.2.2.1 hc.2.2.2 e
  go := fun elts k pos i T s Q E st q => by
    obtain ⟨Z, I0, ⟨a, b, I1⟩, wu, wv, tl, tm, _⟩ := st
    refine wpAny_letOwnedTupleGo_zip Z fun h' Z' s' => q h' ⟨Z', s'.extBut _ _ D.TIz I0, ⟨a, b, s'.extBut _ _ D.TOz I1⟩, wu.extBut s'.extBut D.i1z, wv.extBut s'.extBut D.i2z, tl.extBut s'.extBut D.l1z, tm.extBut s'.extBut D.l2z⟩ fun c o hc e => ?_
    simp only [List.mem_cons, List.not_mem_nil, or_false, not_or] at hc
    exact s'.extBut _ _ hc.1 e
  apart := fun i T h st hT => by
    obtain ⟨_, _, _, _, _, _, _, n1, n2, n3, n4⟩ := st
    simp only [List.mem_cons, List.not_mem_nil, or_false] at hT
    rcases hT with h | h | h | h
    · exact n1 h
    · exact n2 h
    · exact n3 h
    · exact n4 h
  done := fun s Q E st q => by
    obtain ⟨Z, I0, ⟨a, b, I1⟩, wu, wv, tl, tm⟩ := st
    have no : xs[min xs.size ys.size]? = none ∨ ys[min xs.size ys.size]? = none := by
      rcases Nat.le_total xs.size ys.size with h | h
      · exact .inl (Array.getElem?_eq_none (by omega))
      · exact .inr (Array.getElem?_eq_none (by omega))
    refine zipT_end hh D Z I0 I1 wu wv tl tm no fun h' kk => q h' s.toks fun c o hc e => ?_
    simp only [List.mem_cons, List.not_mem_nil, or_false, not_or] at hc
    exact kk c o hc.1 hc.2.1 hc.2.2.1 hc.2.2.2 e
  self := fun i s Q E st q => wpAny_pyIter_zip st.1 q
/-- zip(t, u) made -/
noncomputable abbrev zT1 (h : Heap) (l : Addr) : Heap := h.push { cls := .type "tuple_iterator", data := .fields #[.ref l, .int 0 0] }
noncomputable abbrev zT2 (h : Heap) (l m : Addr) : Heap := (zT1 h l).push { cls := .type "tuple_iterator", data := .fields #[.ref m, .int 0 0] }
noncomputable abbrev zT3 (h : Heap) (l m : Addr) : Heap := (zT2 h l m).push { cls := .type "tuple", data := .seq #[.ref h.objs.size, .ref (zT1 h l).objs.size] }
noncomputable abbrev zT4 (h : Heap) (l m : Addr) : Heap := (zT3 h l m).push { cls := .type "tuple", data := .seq #[.none, .none] }
noncomputable abbrev zT5 (h : Heap) (l m : Addr) : Heap := (zT4 h l m).push { cls := .type "zip", data := .fields #[.none, .bool false, .bool false, .ref (zT2 h l m).objs.size, .ref (zT3 h l m).objs.size] }
theorem meets_zipT (l m : Addr) (xs ys : Array Value) :
    Meets (Builtin.«zip.__new__» ⟨[.type "zip", .ref l, .ref m], []⟩) (fun _ R s => IsTup s.heap l xs ∧ IsTup s.heap m ys ∧ R (.ok (.ret (.ref (zT4 s.heap l m).objs.size))) { s with heap := zT5 s.heap l m }) :=
  .of_wp fun prog w A R s h => by
    obtain ⟨hp, g, d, tk, os⟩ := s
    obtain ⟨tl, tm, h⟩ := h
    have sub := sub_zip
    have T1 : IsTup (Shared.heap ⟨hp, g, d, tk, os⟩) l xs := tl
    have T2 : IsTup (Shared.heap ⟨hp.push { cls := .type "tuple_iterator", data := .fields #[.ref l, .int 0 0] }, g, d, tk, os⟩) m ys := IsTup.push tm _
    wp_walk using iter_tuple T1, iter_tuple T2
    exact ⟨_, rfl, h⟩
theorem call_zipT {l m : Addr} {xs ys : Array Value} {Q : Value → Shared → Prop} (tl : IsTup s.heap l xs) (tm : IsTup s.heap m ys)
    (q : ∀ h', IsZip h' (s.heap.objs.size + 4) (s.heap.objs.size + 2) (s.heap.objs.size + 3) .none → IsPair h' (s.heap.objs.size + 2) (.ref s.heap.objs.size) (.ref (s.heap.objs.size + 1)) → IsPair h' (s.heap.objs.size + 3) .none .none →
      IsTupIter h' s.heap.objs.size l 0 → IsTupIter h' (s.heap.objs.size + 1) m 0 → h'.objs.size = s.heap.objs.size + 5 → (∀ c o, s.heap.get? c = some o → h'.get? c = some o) → Q (.ref (s.heap.objs.size + 4)) { s with heap := h' }) :
    wpAny (model prog w) A (call (.type "zip") [.ref l, .ref m]) Q E s := by
  refine callType_new F.called_zip (by decide) (F.typeCall_zip_2 _ _) (F.newCall_zip_2 _ _) (fun obj => F.args_object_init_3 obj _ _) F.entry_zip_new (meets_zipT l m xs ys) ⟨tl, tm, ?_⟩
  have n1 : (zT1 s.heap l).objs.size = s.heap.objs.size + 1 := Heap.size_push ..
  have n2 : (zT2 s.heap l m).objs.size = s.heap.objs.size + 2 := by rw [Heap.size_push, n1]
  have n3 : (zT3 s.heap l m).objs.size = s.heap.objs.size + 3 := by rw [Heap.size_push, n2]
  have n4 : (zT4 s.heap l m).objs.size = s.heap.objs.size + 4 := by rw [Heap.size_push, n3]
  have n5 : (zT5 s.heap l m).objs.size = s.heap.objs.size + 5 := by rw [Heap.size_push, n4]
  have e5 : (zT5 s.heap l m).get? (zT4 s.heap l m).objs.size = some _ := Heap.get?_push_size _ rfl
  have e4 : (zT5 s.heap l m).get? (zT3 s.heap l m).objs.size = some _ := Heap.get?_push_of_some _ (Heap.get?_push_size _ rfl)
  have e3 : (zT5 s.heap l m).get? (zT2 s.heap l m).objs.size = some _ := Heap.get?_push_of_some _ (Heap.get?_push_of_some _ (Heap.get?_push_size _ rfl))
  have e2 : (zT5 s.heap l m).get? (zT1 s.heap l).objs.size = some _ := Heap.get?_push_of_some _ (Heap.get?_push_of_some _ (Heap.get?_push_of_some _ (Heap.get?_push_size _ rfl)))
  have e1 : (zT5 s.heap l m).get? s.heap.objs.size = some _ := Heap.get?_push_of_some _ (Heap.get?_push_of_some _ (Heap.get?_push_of_some _ (Heap.get?_push_of_some _ (Heap.get?_push_size _ rfl))))
  refine show _ ∧ _ from ?_
  rw [n2, n3, n4] at e5
  rw [n1, n2] at e3
  rw [n3] at e4
  rw [n1] at e2
  rw [n4]
  exact ⟨⟨_, e5, rfl⟩, q _ e5 e3 e4 ⟨_, e1, rfl, rfl⟩ ⟨_, e2, rfl, rfl⟩ n5 fun c o x => Heap.get?_push_of_some _ (Heap.get?_push_of_some _ (Heap.get?_push_of_some _ (Heap.get?_push_of_some _ (Heap.get?_push_of_some _ x))))⟩
end
/-- two tuples walked side by side: each turn lays a new pair -/
noncomputable def ItzT (K : PySem.W.Frag) (a b : Addr) : It :=
  ⟨fun i H => ∃ xs ys x y, SqT K H a xs ∧ SqT K H b ys ∧ xs[i]? = some x ∧ ys[i]? = some y,
   fun i H v H' => ∃ T x y, v = .ref T ∧ H T = none ∧ H' = upd H T (.tup [x, y]) ∧ (∀ xs, SqT K H a xs → xs[i]? = some x) ∧ (∀ ys, SqT K H b ys → ys[i]? = some y),
   fun i H => ∃ xs ys, SqT K H a xs ∧ SqT K H b ys ∧ min xs.length ys.length = i⟩
noncomputable def zipTnT (z TI TO i1 i2 l1 l2 : Addr) (i : Nat) (h : Heap) : Prop := IsZip h z TI TO .none ∧ IsPair h TI (.ref i1) (.ref i2) ∧ (∃ a b, IsPair h TO a b) ∧ IsTupIter h i1 l1 i ∧ IsTupIter h i2 l2 i
theorem turn_zipT {P : Program} {w : World} {K : PySem.W.Frag} {elts : List Expr} {k : Nat} {pos : Pos} (z TI TO i1 i2 l1 l2 : Addr) (D : ZipApart z TI TO i1 i2 l1 l2) :
    Turn P w K (.Tuple elts k pos) (ItzT K l1 l2) [z, TI, TO, i1, i2] z (zipTnT z TI TO i1 i2 l1 l2) where
  mem := by simp
  obj := fun i h st b hb => by
    obtain ⟨hz, hTI, ⟨a, c, hTO⟩, ⟨o1, e1, c1, d1⟩, ⟨o2, e2, c2, d2⟩⟩ := st
    simp only [List.mem_cons, List.not_mem_nil, or_false] at hb
    rcases hb with rfl | rfl | rfl | rfl | rfl
    · exact ⟨_, hz, fun v q => by cases q⟩
    · exact ⟨_, hTI, fun v q => by cases q⟩
    · exact ⟨_, hTO, fun v q => by cases q⟩
    · exact ⟨o1, e1, fun v q => by rw [d1] at q; cases q⟩
    · exact ⟨o2, e2, fun v q => by rw [d2] at q; cases q⟩
  keep := fun i h h' st kk => by
    obtain ⟨hz, hTI, ⟨a, c, hTO⟩, ⟨o1, e1, r1⟩, ⟨o2, e2, r2⟩⟩ := st
    exact ⟨kk z (by simp) _ hz, kk TI (by simp) _ hTI, ⟨a, c, kk TO (by simp) _ hTO⟩, ⟨o1, kk i1 (by simp) _ e1, r1⟩, ⟨o2, kk i2 (by simp) _ e2, r2⟩⟩
  item := by
    intro X hP hw hK hc i pins s σ H E I hf st hg
    subst hP hw hK
    obtain ⟨xs, ys, x, y, hx, hy, ex, ey⟩ := hg
    obtain ⟨its, rv, p, hz⟩ := I.tuple hx
    obtain ⟨its2, rv2, p2, hz2⟩ := I.tuple hy
    obtain ⟨s1, s2, s3, s4, s5⟩ := st
    have W := walkT (prog := X.prog) (w := X.w) (I.ok.hd hc) z TI TO i1 i2 l1 l2 D its.toArray its2.toArray
    have li : i < xs.length := (List.getElem?_eq_some_iff.mp ex).1
    have li2 : i < ys.length := (List.getElem?_eq_some_iff.mp ey).1
    have el := rv.length
    have el2 := rv2.length
    have wsub : ∀ b ∈ [z, TO, i1, i2], b ∈ [z, TI, TO, i1, i2] := fun b hb => by
      simp only [List.mem_cons, List.not_mem_nil, or_false] at hb ⊢
      rcases hb with rfl | rfl | rfl | rfl <;> simp
    refine W.item i s _ _ (by simp only [List.size_toArray]; omega) ⟨s1, s2, s3, s4, s5, p, p2⟩ fun T vals h' tk hv hT hTup hm hk => ?_
    obtain ⟨u, v, eu, ev, rfl⟩ := hv
    obtain ⟨u', eu', ru⟩ := rv.get ex
    obtain ⟨v', ev', rv'⟩ := rv2.get ey
    have e1 : u = u' := by
      have : its[i]? = some u := by simpa using eu
      rw [eu'] at this
      exact (Option.some.inj this).symm
    have e2 : v = v' := by
      have : its2[i]? = some v := by simpa using ev
      rw [ev'] at this
      exact (Option.some.inj this).symm
    subst e1 e2
    have hTn : H T = none := I.hok.fresh hT
    have I1 : Inv X pins σ (upd H T (.tup [x, y])) { s with heap := h', toks := tk } := I.turnedT hk (fun b hb => hf b (wsub b hb)) hT ⟨by show 2 ≤ sizeLine; decide, [u, v], .cons ru (.cons rv' .nil), hTup⟩
    have ap := W.apart i T h' hm
    have f1 : ∀ b ∈ [z, TO, i1, i2], FpOk X pins (upd H T (.tup [x, y])) b := fun b hb => by
      obtain ⟨f0, f1⟩ := hf b (wsub b hb)
      exact ⟨by rw [upd_ne (fun e : b = T => ap (by rw [← e]; exact hb))]; exact f0, f1⟩
    refine ⟨_, rfl, W.go elts k pos i T _ _ _ hm fun h'' st2 hk2 => ?_⟩
    obtain ⟨t1, t2, t3, t4, t5, _, _⟩ := st2
    refine ⟨.ref T, _, Inv.turnedL (s := { s with heap := h', toks := tk }) (t' := tk) I1 hk2 f1, rfl, ⟨T, x, y, rfl, hTn, rfl, fun zs q => by rw [I.tuple_inj q hx]; exact ex, fun zs q => by rw [I.tuple_inj q hy]; exact ey⟩, ⟨t1, t2, t3, t4, t5⟩, fun b hb => ?_⟩
    have fb := (hf b hb).1
    by_cases e : b = T
    · subst e
      have lti : s.heap.objs.size > TI := Heap.lt_size s2
      simp only [List.mem_cons, List.not_mem_nil, or_false] at hb
      rcases hb with rfl | rfl | rfl | rfl | rfl
      · exact absurd (by simp) ap
      · exact absurd lti (Nat.not_lt.mpr hT)
      · exact absurd (by simp) ap
      · exact absurd (by simp) ap
      · exact absurd (by simp) ap
    · rw [upd_ne e]; exact fb
  done := by
    intro X hP hw hK hc i pins s σ H E I hf st hg
    subst hP hw hK
    obtain ⟨xs, ys, hx, hy, hi⟩ := hg
    obtain ⟨its, rv, p, hz⟩ := I.tuple hx
    obtain ⟨its2, rv2, p2, hz2⟩ := I.tuple hy
    obtain ⟨s1, s2, s3, s4, s5⟩ := st
    have W := walkT (prog := X.prog) (w := X.w) (I.ok.hd hc) z TI TO i1 i2 l1 l2 D its.toArray its2.toArray
    have el := rv.length
    have el2 := rv2.length
    have en : min its.toArray.size its2.toArray.size = i := by simp only [List.size_toArray]; omega
    have wsub : ∀ b ∈ [z, TO, i1, i2], b ∈ [z, TI, TO, i1, i2] := fun b hb => by
      simp only [List.mem_cons, List.not_mem_nil, or_false] at hb ⊢
      rcases hb with rfl | rfl | rfl | rfl <;> simp
    refine W.done s _ _ ?_ fun h' tk hk => ⟨rfl, I.turnedL hk fun b hb => hf b (wsub b hb)⟩
    rw [en]
    exact ⟨s1, s2, s3, s4, s5, p, p2⟩
  self := fun _ _ _ _ _ st h => wpAny_pyIter_zip st.1 h
section
variable {X : Cx} {elts : List Expr} {k : Nat} {tpos : Pos}
noncomputable def iZipT (K : PySem.W.Frag) (ta : TA) : TI := fun σ H R => ta σ H fun vs H1 => ∃ a b, vs = [.ref a, .ref b] ∧ (∃ xs, SqT K H1 a xs) ∧ (∃ ys, SqT K H1 b ys) ∧ R (ItzT K a b) H1
theorem pi_zipT {a b : Expr} {ta : TA} {p pos : Pos} (hg : Gl X "zip") (hm : X.mg "zip" = none) (ha : PA X [a, b] ta) (hs : starEach [a, b] X.env = [(false, eval a X.env), (false, eval b X.env)] := by rfl) (hs2 : starEach [b] X.env = [(false, eval b X.env)] := by rfl) :
    PI X (.Tuple elts k tpos) (.Call (.Name "zip" p) [a, b] [] pos) (iZipT X.K ta) := by
  intro pins s σ H R I h
  refine Call_ (ld_blt I hg hm boot_zip (PyProof.Rows.callWith_type1 (thn (ha pos pins s σ H _ I h) fun us s1 ⟨vs, H1, I1, r1, q1⟩ => ?_) (by rw [hs, hs2]) (by rw [hs2]; rfl)))
  obtain ⟨l1, l2, e, ⟨xs, hx⟩, ⟨ys, hy⟩, q⟩ := q1
  subst e
  obtain ⟨u, v, rfl, ru, rv⟩ := r1.two
  cases ru
  cases rv
  obtain ⟨its, rr, pl, hz⟩ := I1.tuple hx
  obtain ⟨its2, rr2, pl2, hz2⟩ := I1.tuple hy
  have lt1 : l1 < s1.heap.objs.size := by obtain ⟨o, e, _⟩ := pl; exact Heap.lt_size e
  have lt2 : l2 < s1.heap.objs.size := by obtain ⟨o, e, _⟩ := pl2; exact Heap.lt_size e
  refine call_zipT pl pl2 fun h' z1 z2 z3 z4 z5 zs kk => ?_
  have I2 : Inv X pins σ H1 { s1 with heap := h' } := I1.kept (t' := s1.toks) kk
  refine wpAny_pyIter_zip z1 ?_
  refine ⟨_, _, _, _, H1, rfl, I2, turn_zipT _ _ _ _ _ l1 l2 ?_, ⟨z1, z2, ⟨_, _, z3⟩, z4, z5⟩, fun b hb => ?_, q⟩
  · have lt1' : s1.heap.objs.size > l1 := lt1
    have lt2' : s1.heap.objs.size > l2 := lt2
    constructor <;> (show ¬ (@Eq Nat _ _)) <;> omega
  · have : s1.heap.objs.size ≤ b := by
      simp only [List.mem_cons, List.not_mem_nil, or_false] at hb
      rcases hb with rfl | rfl | rfl | rfl | rfl <;> omega
    exact I1.fpOk this (I1.hok.fresh this)
end
/-- a comprehension over two tuples -/
theorem comp_zipT {K : PySem.W.Frag} {a b l : Addr} {xs ys : List V} {g : TG} {tb : List V → Addr → St → Hp → (List V → St → Hp → Prop) → Prop} {Q : VK} {σ0 : St} {H0 : Hp} (Pv : Nat → List V → St → Hp → Prop) (h0 : Pv 0 [] σ0 H0)
    (hla : ∀ i us σ H, Pv i us σ H → SqT K H a xs ∧ SqT K H b ys)
    (hs : ∀ i x y T us σ H (N : List V → St → Hp → Prop), xs[i]? = some x → ys[i]? = some y → H T = none → Pv i us σ H → (∀ us' σ' H', Pv (i + 1) us' σ' H' → N us' σ' H') → g (.ref T) σ (upd H T (.tup [x, y])) fun σ2 H2 => tb us l σ2 H2 N)
    (hd : ∀ us σ H, Pv (min xs.length ys.length) us σ H → Q (.ref l) H) :
    ∃ W : Nat → Nat → List V → St → Hp → Prop, (∃ m, W 0 m [] σ0 H0) ∧ ∀ i m us σ' H', W i m us σ' H' → ((ItzT K a b).stop i H' ∧ Q (.ref l) H') ∨
      ((ItzT K a b).go i H' ∧ ∀ x H'', (ItzT K a b).yld i H' x H'' → g x σ' H'' fun σ2 H2 => tb us l σ2 H2 fun us' σ3 H3 => ∃ m', m' < m ∧ W (i + 1) m' us' σ3 H3) := by
  refine ⟨fun i m us σ H => m = min xs.length ys.length - i ∧ i ≤ min xs.length ys.length ∧ Pv i us σ H, ⟨_, rfl, Nat.zero_le _, h0⟩, ?_⟩
  rintro i m us σ H ⟨rfl, hi, p⟩
  obtain ⟨sa, sb⟩ := hla i us σ H p
  by_cases hlt : i < min xs.length ys.length
  · obtain ⟨x, ex⟩ : ∃ x, xs[i]? = some x := ⟨_, List.getElem?_eq_getElem (by omega)⟩
    obtain ⟨y, ey⟩ : ∃ y, ys[i]? = some y := ⟨_, List.getElem?_eq_getElem (by omega)⟩
    refine .inr ⟨⟨xs, ys, x, y, sa, sb, ex, ey⟩, fun v H' q => ?_⟩
    obtain ⟨T, x', y', rfl, hT, rfl, q1, q2⟩ := q
    have e1 := q1 xs sa
    have e2 := q2 ys sb
    exact hs i x' y' T us σ H _ e1 e2 hT p fun us' σ' H' w => ⟨_, by omega, rfl, hlt, w⟩
  · have e : i = min xs.length ys.length := by omega
    subst e
    exact .inl ⟨⟨xs, ys, sa, sb, rfl⟩, hd us σ H p⟩
end L2

set_option Elab.async false
set_option linter.all false
set_option maxRecDepth 100000
namespace L2
open PySem PySem.Spec PyProof.Rows
/-! ### texts: <=, ord, ''.join of single signs -/
section
variable {X : Cx} {K : PySem.W.Frag}
theorem op_le_str : OpR X (compareOp .LtE) (fun x y H Q => ∃ i j, x = .str i ∧ y = .str j ∧ Q (.bl (!decide (j.cps.toList < i.cps.toList))) H) := by
  intro pins s σ H x y v u Q I rx ry h
  obtain ⟨i, j, rfl, rfl, q⟩ := h
  obtain ⟨t, rfl⟩ := rx
  obtain ⟨t', rfl⟩ := ry
  exact PySem.P.le_str (fin_bl I q rfl)
theorem carried_strs : ∀ {zs : List Str} {us : List Value}, Vals (zs.map V.str) us → CarriedAll us (zs.map fun z => PyData.str (id z))
  | [], us, h => by cases h; exact .nil
  | z :: zs, us, h => by
    cases h with
    | cons r rr =>
      obtain ⟨t, rfl⟩ := r
      exact .cons (.str z t) (carried_strs rr)
theorem mt_join1 : MtM X "str.join" (fun x vs H Q => ∃ (p : Addr) (zs : List Str), x = .str "" ∧ vs = [.ref p] ∧ SqL X.K H p (zs.map V.str) ∧ (∀ z ∈ zs, z.length = 1) ∧ zs.length ≤ 1000 ∧ Q (.str (Txt.join (Str.ofString "") zs)) H) := by
  intro pins s σ H x vs v us Q I rx rv h
  obtain ⟨p, zs, rfl, rfl, hp, h1, hz, q⟩ := h
  obtain ⟨t, rfl⟩ := rx
  obtain ⟨u, rfl, e⟩ := rv.one
  cases e
  obtain ⟨its, rr, pl, _⟩ := I.list hp
  refine PySem.W.KT.join_1 (l := zs) (g := id) pl.isList (carried_strs rr) h1 (by omega) fun t' k _ => ?_
  rw [List.map_id]
  exact ⟨.str _, H, I.kept (t' := k) (fun _ _ e => e), ⟨t', rfl⟩, q⟩
end
end L2

set_option Elab.async false
set_option linter.all false
set_option maxRecDepth 100000
namespace L2
open PySem PySem.Spec PyProof.Rows
/-! ### a dict gone through: sorted(d) -/
section
variable {prog : Program} {w : World} {A : Around} {E : Value → Shared → Prop} {s : Shared}
theorem dict_len_slot : typeLookup (.type "dict") "__len__" = pure (some (.builtin "dict.__len__")) := by rw [typeLookup_type, builtinLookup_eq_fast]; kernel_rfl
theorem collectD {d : Addr} {kvs : List (Key × Value)} {Q : List Value → Shared → Prop} (hh : A.handled = none) (hd : (d == sysModules) = false) (hm : s.heap.DictOf (mixKind prog w) d kvs) (hn : kvs.length ≤ sizeLine)
    (q : ∀ s' acc, (∀ b o, s.heap.get? b = some o → s'.heap.get? b = some o) → s.heap.objs.size < s'.heap.objs.size → s'.gens = s.gens → s'.drawn = s.drawn → s'.os = s.os → ItemsOf (fun i v => ∃ k x, kvs[i]? = some (k, x) ∧ (mixKind prog w).is k v = true) acc kvs.length → Q acc.toList s') :
    wpAny (model prog w) A (collect (.ref d)) Q E s := by
  obtain ⟨ep, at0⟩ := hm.dictAt
  have hdT : s.TypeIs (.ref d) "dict" := hm.typeIs
  unfold collect
  refine wpAny_bind (wpAny_runValue (codeAny_builtin F.entry_proto_collect ?_))
  rw [Around.under_plainId F.plain_proto_collect _]
  refine show wpAny _ A.in1 (newList [] >>= fun l => again (.builtin "list.__iadd__" ⟨[l, .ref d], []⟩)) _ _ s from wpAny_bind (wpAny_newObj_type ?_)
  refine wpAny_pure ⟨plainId_quiet F.plain_list_iadd _, codeAny_builtin F.entry_list_iadd ?_⟩
  rw [Around.under_plainId F.plain_list_iadd _]
  have ltd : d < s.heap.objs.size := at0.lt_size
  have at1 := at0.push { cls := .type "list", data := .seq ([] : List Value).toArray }
  generalize hH : s.heap.push { cls := .type "list", data := .seq ([] : List Value).toArray } = G at at1 ⊢
  have hT1 : Shared.TypeIs { s with heap := G } (.ref d) "dict" := at1.dictOf.typeIs
  refine show wpAny _ A.in1 (Builtin.List.listExtendWith (.ref s.heap.objs.size) (.ref d) (.ref s.heap.objs.size)) _ _ _ from ?_
  unfold Builtin.List.listExtendWith
  refine wpAny_bind (wpAny_typeOf hT1 ?_)
  have n1 : Builtin.List.listSameRef (.ref s.heap.objs.size) (.ref d) = false := by simp [Builtin.List.listSameRef]; exact Nat.ne_of_gt ltd
  simp only [n1, show (Value.type "dict" == Value.type "list") = false by decide, show (Value.type "dict" == Value.type "tuple") = false by decide, Bool.or_false, Bool.false_eq_true, if_false]
  refine wpAny_bind (wpAny_pyIter_dict hd at1 ?_)
  refine wpAny_bind (wpAny_holding ?_)
  have at2 := at1.push { cls := .type "dict_keyiterator", data := .fields #[.ref d, .int 0 0, .int kvs.length 0, .int ep 0] }
  have k2 : Heap.IsKeyIter (G.push { cls := .type "dict_keyiterator", data := .fields #[.ref d, .int 0 0, .int kvs.length 0, .int ep 0] }) G.objs.size d 0 kvs.length ep := ⟨_, Heap.get?_push_size _ rfl, rfl, rfl⟩
  have S2 : (G.push { cls := .type "dict_keyiterator", data := .fields #[.ref d, .int 0 0, .int kvs.length 0, .int ep 0] }).get? s.heap.objs.size = some { cls := .type "list", data := .seq ([] : List Value).toArray } := Heap.get?_push_of_some _ (hH ▸ Heap.get?_push_size _ rfl)
  have keep2 : ∀ b o, s.heap.get? b = some o → (G.push { cls := .type "dict_keyiterator", data := .fields #[.ref d, .int 0 0, .int kvs.length 0, .int ep 0] }).get? b = some o := fun b o e => Heap.get?_push_of_some _ (hH ▸ Heap.get?_push_of_some _ e)
  have sizeG : G.objs.size = s.heap.objs.size + 1 := by rw [← hH, Heap.size_push]
  generalize G.push { cls := .type "dict_keyiterator", data := .fields #[.ref d, .int 0 0, .int kvs.length 0, .int ep 0] } = G2 at at2 k2 S2 keep2 ⊢
  have hT2 : Shared.TypeIs { s with heap := G2 } (.ref d) "dict" := at2.dictOf.typeIs
  unfold Builtin.List.listLengthHint
  refine wpAny_bind (wpAny_specialOf hT2 dict_len_slot ?_)
  wp_delta
  refine wpAny_bind (wpAny_isInstance (b := true) hT2 (by rw [isSubtype_type]; kernel_rfl) ?_)
  refine show wpAny _ A.in1 (typeOf (Value.ref d) >>= _) _ _ _ from wpAny_bind (wpAny_typeOf hT2 (wpAny_pure ?_))
  rw [if_pos (by decide)]
  refine wpAny_bind (wpAny_rule (wpAny_bind ?_))
  refine show wpAny _ A.in1 (updateSeq s.heap.objs.size (·.push .none) >>= fun _ => updateSeq s.heap.objs.size (·.pop)) _ _ _ from wpAny_bind (wpAny_updateSeq S2 rfl ?_)
  have S3 := Heap.get?_update_self (Obj.mapSeq (·.push Value.none)) S2 rfl
  refine wpAny_updateSeq (hz := by seq_fits) S3 rfl ?_
  have S4 := Heap.get?_update_self (Obj.mapSeq (·.pop)) S3 rfl
  have oth : ∀ b o, b ≠ s.heap.objs.size → G2.get? b = some o → ((G2.update s.heap.objs.size (Obj.mapSeq (·.push Value.none))).update s.heap.objs.size (Obj.mapSeq (·.pop))).get? b = some o := fun b o n e => (Heap.get?_update_other _ _ (Ne.symm n)).trans ((Heap.get?_update_other _ _ (Ne.symm n)).trans e)
  have nG : G.objs.size ≠ s.heap.objs.size := by rw [sizeG]; exact Nat.succ_ne_self _
  have nd : d ≠ G.objs.size := by rw [sizeG]; exact Nat.ne_of_lt (Nat.lt_succ_of_lt ltd)
  have Wk := Walks.dictKeys (prog := prog) (w := w) (A := A.in1) (knd := mixKind prog w) hh G.objs.size d nd kvs ep
  have hSf : s.heap.objs.size ∉ [G.objs.size, d] := by
    simp only [List.mem_cons, List.not_mem_nil, or_false, not_or]
    exact ⟨nG.symm, Nat.ne_of_gt ltd⟩
  refine wpAny_pure ⟨plainId_quiet F.plain_extend_loop _, codeAny_extend_loopS Wk.toS hn _ hSf _ kvs.length 0 _ _ _ rfl (Nat.zero_le _) ⟨k2.at fun o e => oth _ o nG e, at2.at' fun o e => oth _ o (Nat.ne_of_lt ltd) e⟩ S4 (ItemsOf.nil _) fun s' acc' c' hmv S5 hacc => ?_⟩
  refine show wpAny _ A (load s.heap.objs.size >>= _) _ _ s' from wpAny_bind (wpAny_load S5 (wpAny_pure (q s' acc' (fun b o e => hmv.heap b o (fun hb => ?_) (oth b o (Nat.ne_of_lt (Heap.lt_size e)) (keep2 b o e))) (Heap.lt_size S5) hmv.gens hmv.drawn hmv.os hacc)))
  have hlt := Heap.lt_size e
  simp only [List.mem_cons, List.not_mem_nil, or_false] at hb
  rcases hb with h | h
  · exact absurd hlt (h ▸ Nat.lt_irrefl _)
  · rw [h, sizeG] at hlt
    exact absurd hlt (Nat.not_lt.mpr (Nat.le_succ _))
theorem key_str {P : Program} {w : World} {z : Str} {v : Value} (h : (mixKind P w).is (Sum.inr z) v = true) : ∃ t, v = .str z t := by
  rcases keyIs_shape (show keyIs (Sum.inr z) v = true from h) with ⟨i, t, e, _⟩ | ⟨x, t, e, rfl⟩
  · cases e
  · cases e
    exact ⟨t, rfl⟩
theorem keys_strs {P : Program} {w : World} : ∀ {ss : List Str} {us : List Value}, us.length = ss.length → (∀ (j : Nat) (v : Value), us[j]? = some v → ∃ z, ss[j]? = some z ∧ (mixKind P w).is (Sum.inr z) v = true) → StrsAre us ss
  | [], us, hl, _ => by
    cases us with
    | nil => exact .nil
    | cons u us => cases hl
  | z :: ss, us, hl, h => by
    cases us with
    | nil => cases hl
    | cons u us =>
      obtain ⟨z', e, hz⟩ := h 0 u rfl
      obtain rfl : z = z' := Option.some.inj e
      obtain ⟨t, rfl⟩ := key_str hz
      exact .cons z t (keys_strs (Nat.succ.inj hl) fun j v hj => by simpa using h (j + 1) v (by simpa using hj))
/-- sorted of a dict whose keys are texts -/
theorem sortedD {d : Addr} {kvs : List (Key × Value)} {ss : List Str} {Q : Value → Shared → Prop} (hh : A.handled = none) (hd : (d == sysModules) = false) (hm : s.heap.DictOf (mixKind prog w) d kvs) (names : kvs.map (·.1) = ss.map Sum.inr) (h64 : ss.length < 64)
    (q : ∀ (h' : Heap) (t' : Nat) (a : Addr) (out : Array Value) (ss' : List Str) (n : Nat), (∀ b o, s.heap.get? b = some o → h'.get? b = some o) → s.heap.objs.size ≤ a → h'.get? a = some (seqObj "list" out n) → StrsAre out.toList ss' → ss'.Perm ss → sortedS ss' = true → Q (.ref a) { s with heap := h', toks := t' }) :
    wpAny (model prog w) A (call (.builtin "sorted") [.ref d]) Q E s := by
  have lk : kvs.length = ss.length := by have := congrArg List.length names; simpa using this
  refine Calls.call_function_entry kind_sorted plain_sorted entry_sorted (args_sorted1 _) ?_
  unfold Builtin.«sorted»
  refine wpAny_bind (m := checkCount "sorted" 1 1 _) (wpAny_pure (wpAny_bind (collectD hh hd hm (by rw [lk]; exact Nat.le_of_lt (Nat.lt_trans h64 (by decide))) fun s1 acc kk low g1 d1 o1 items => ?_)))
  have hS : StrsAre acc.toList ss := keys_strs (P := prog) (w := w) (by rw [Array.length_toList, items.1, lk]) fun j v hj => by
    obtain ⟨k, x, e, hk⟩ := items.2 j v (by simpa using hj)
    have e2 : (kvs.map (·.1))[j]? = some k := by rw [List.getElem?_map, e]; rfl
    rw [names, List.getElem?_map] at e2
    obtain ⟨z, hz, rfl⟩ := Option.map_eq_some_iff.mp e2
    exact ⟨z, hz, hk⟩
  have lacc : acc.toList.length < 64 := by
    have := items.1
    simp only [Array.length_toList]
    omega
  refine wpAny_bind (wpAny_newList ?_)
  have hoL : (s1.heap.push (seqObj "list" acc.toList.toArray 0)).get? s1.heap.objs.size = some (seqObj "list" acc.toList.toArray 0) := Heap.get?_push_size _ rfl
  refine wpAny_bind (wpAny_holding (wpAny_call_entry slot_list_sort ⟨_, hoL, rfl⟩ entry_list_sort (list_sort_treeK strKind_oneLt hoL hS.keysOf (fun v₁ v₂ rest e => keyKind_strs (by rw [← e]; exact hS)) lacc fun st' hp hs => ⟨_, rfl, ?_⟩) (args_list_sort _)))
  obtain ⟨ss', h1, h2, h3⟩ := sorted_out_str hS hp hs
  obtain ⟨e, he⟩ := sortedHeap_at (out := (arrOf st').map (·.2)) hoL
  obtain ⟨hp1, g', d', tk', os'⟩ := s1
  have e1 : g' = s.gens := g1
  have e2 : d' = s.drawn := d1
  have e3 : os' = s.os := o1
  subst e1 e2 e3
  refine wpAny_pure ⟨_, rfl, q _ tk' _ _ ss' e (fun b o eb => ?_) (Nat.le_of_lt low) he h1 h2 h3⟩
  have lt := Heap.lt_size (kk b o eb)
  rw [sortedHeap_old (Nat.ne_of_lt lt) (by rw [Heap.size_push]; exact Nat.lt_succ_of_lt lt)]
  exact Heap.get?_push_of_some _ (kk b o eb)
end
section
variable {X : Cx}
/-- the dict at p has these values by these names, in this order -/
noncomputable def DicQ (K : PySem.W.Frag) (H : Hp) (p : Addr) (fs : List (Str × Dt)) : Prop :=
  ∃ kvs, H p = some (.dK kvs) ∧ kvs.map (·.1) = fs.map (fun p => (Sum.inr p.1 : Key)) ∧ ∀ z, (lookS fs z = none → valV kvs (Sum.inr z : Key) = none) ∧ ∀ d, lookS fs z = some d → ∃ v, valV kvs (Sum.inr z : Key) = some v ∧ IsP K H d v
theorem DicQ.p {K : PySem.W.Frag} {H : Hp} {p : Addr} {fs : List (Str × Dt)} (h : DicQ K H p fs) : DicP K H p fs := by
  obtain ⟨kvs, e, _, k⟩ := h
  exact ⟨kvs, e, k⟩
end
end L2

set_option Elab.async false
set_option linter.all false
set_option maxRecDepth 100000
namespace L2
open PySem PySem.Spec PyProof.Rows
/-! ### list(enumerate(t)) -/
section
variable {prog : Program} {w : World} {A : Around} {E : Value → Shared → Prop} {s : Shared}
end
end L2

set_option Elab.async false
set_option linter.all false
set_option maxRecDepth 100000
namespace L2
open PySem PySem.Spec PyProof.Rows
section
variable {prog : Program} {w : World} {A : Around} {E : Value → Shared → Prop} {s : Shared}
end
end L2

set_option Elab.async false
set_option linter.all false
set_option maxRecDepth 100000
namespace L2
open PySem PySem.Spec PyProof.Rows
/-! ### several things laid at once -/
section
variable {X : Cx} {pins : List (Addr × Obj)} {σ : St} {H H' : Hp} {s : Shared} {h' : Heap}
theorem Inv.many {t' : Nat} (I : Inv X pins σ H s) (k : ∀ b u, s.heap.get? b = some u → h'.get? b = some u) (old : Same H H') (new : ∀ b o, H' b = some o → H b = some o ∨ s.heap.objs.size ≤ b ∧ ObjOk X.prog X.w H' h' b o) : Inv X pins σ H' { s with heap := h', toks := t' } := by
  refine I.un ⟨fun b u q _ _ _ => k b u q, fun b u q _ _ _ => ⟨u.slots, k b u q⟩, fun b u q n _ => ?_, fun b u q _ => ⟨u, k b u q⟩, fun b xs q => old _ _ q, fun b u xs q => old _ _ q, fun b ps q => ⟨#[], by rw [old _ _ q]; simp⟩⟩ fun b o e => ?_
  · cases e : H' b with
    | none => rfl
    | some o =>
      rcases new b o e with e' | ⟨l, _⟩
      · rw [n] at e'; cases e'
      · exact absurd (Heap.lt_size q) (Nat.not_lt.mpr l)
  · rcases new b o e with e' | ⟨_, ok⟩
    · exact (I.hok b o e').stay (fun c v _ q => k c v q) (fun c q => old _ _ q) fun c xs q => old _ _ q
    · exact ok
end
/-! ### list(enumerate(t)), t a plain tuple -/
noncomputable abbrev pairO (j tk : Nat) (x : Value) : Obj := { cls := .type "tuple", data := .seq #[.int j tk, x] }
inductive Rws (h : Heap) (lo : Nat) : Nat → List V → List (Addr × HO) → Prop
  | nil {j : Nat} : Rws h lo j [] []
  | cons {j T tk : Nat} {x : Value} {v : V} {vs : List V} {r : List (Addr × HO)} : lo < T → RelV v x → h.get? T = some (pairO j tk x) → Rws h lo (j + 1) vs r → Rws h lo j (v :: vs) ((T, plO [.int j, v] [.int j tk, x]) :: r)
theorem Rws.num {h : Heap} {lo : Nat} : ∀ {j : Nat} {vs : List V} {r : List (Addr × HO)}, Rws h lo j vs r → ∀ p ∈ r, lo < p.1 ∧ ∃ i tk x, j ≤ i ∧ h.get? p.1 = some (pairO i tk x)
  | _, _, _, .nil => fun p hp => by cases hp
  | j, _, _, .cons (tk := tk) (x := x) l _ e r => fun p hp => by
    rcases List.mem_cons.mp hp with rfl | hp
    · exact ⟨l, j, tk, x, Nat.le_refl _, e⟩
    · obtain ⟨a, i, tk, x, le, e⟩ := r.num p hp
      exact ⟨a, i, tk, x, Nat.le_of_succ_le le, e⟩
theorem Rws.nodup {h : Heap} {lo : Nat} : ∀ {j : Nat} {vs : List V} {r : List (Addr × HO)}, Rws h lo j vs r → (r.map (·.1)).Nodup
  | _, _, _, .nil => List.nodup_nil
  | j, _, _, .cons (T := T) (tk := tk) (x := x) l _ e r => by
    refine List.nodup_cons.mpr ⟨fun hm => ?_, r.nodup⟩
    obtain ⟨p, hp, ep⟩ := List.mem_map.mp hm
    obtain ⟨_, i, tk', x', le, e'⟩ := r.num p hp
    rw [show p.1 = T from ep, e] at e'
    have := Option.some.inj e'
    simp only [pairO, Obj.mk.injEq, Data.seq.injEq, Array.mk.injEq, List.cons.injEq, Value.int.injEq] at this
    omega
theorem Rws.ok {P : Program} {w : World} {h : Heap} {lo : Nat} {H' : Hp} : ∀ {j : Nat} {vs : List V} {r : List (Addr × HO)}, Rws h lo j vs r → ∀ p ∈ r, ObjOk P w H' h p.1 p.2
  | _, _, _, .nil => fun p hp => by cases hp
  | j, _, _, .cons (tk := tk) (x := x) l rv e r => fun p hp => by
    rcases List.mem_cons.mp hp with rfl | hp
    · exact ⟨e, by simp [sizeLine], _, .cons ⟨_, rfl⟩ (.cons rv .nil), ⟨_, e, rfl, _, rfl⟩⟩
    · exact r.ok p hp
theorem Rws.of {h : Heap} {lo : Nat} : ∀ {xs : List V} {its us : List Value} {j : Nat}, Vals xs its → us.length = its.length → (∀ (i : Nat) (v : Value), us[i]? = some v → ∃ (T : Addr) (tk : Nat) (x : Value), v = .ref T ∧ lo < T ∧ its[i]? = some x ∧ h.get? T = some (pairO (j + i) tk x)) → ∃ r, Rws h lo j xs r ∧ us = r.map fun p => Value.ref p.1
  | _, _, us, j, .nil, hl, _ => by
    obtain rfl := List.length_eq_zero_iff.mp hl
    exact ⟨[], .nil, rfl⟩
  | _, _, us, j, .cons (a := v) (b := x) rv rs, hl, f => by
    cases us with
    | nil => cases hl
    | cons u us =>
      obtain ⟨T, tk, x', rfl, lt, e1, e2⟩ := f 0 u rfl
      obtain rfl : x = x' := by simpa using e1
      obtain ⟨r, h1, h2⟩ := Rws.of (j := j + 1) rs (Nat.succ.inj hl) fun i v hi => by
        obtain ⟨T, tk, x, a, b, c, d⟩ := f (i + 1) v (by simpa using hi)
        exact ⟨T, tk, x, a, b, by simpa using c, by rw [show j + 1 + i = j + (i + 1) by omega]; exact d⟩
      exact ⟨_, .cons lt rv e2 h1, by rw [h2]; rfl⟩
theorem Rws.length {h : Heap} {lo : Nat} : ∀ {j : Nat} {vs : List V} {r : List (Addr × HO)}, Rws h lo j vs r → r.length = vs.length
  | _, _, _, .nil => rfl
  | _, _, _, .cons _ _ _ r => by rw [List.length_cons, List.length_cons, r.length]
section
variable {X : Cx}
end
end L2

set_option Elab.async false
set_option linter.all false
set_option maxRecDepth 100000
namespace L2
open PySem PySem.Spec PyProof.Rows
/-! ### sorted of a dict whose keys are numbers -/
section
variable {prog : Program} {w : World} {A : Around} {E : Value → Shared → Prop} {s : Shared}
end
section
variable {X : Cx}
end
end L2

set_option Elab.async false
set_option linter.all false
set_option maxRecDepth 100000
set_option maxHeartbeats 4000000
namespace L2
open PySem PySem.Spec PyProof.Rows
/-! ### a dict gone through by its keys: its object is known while the loop runs, and may be read in the body -/
noncomputable def Itd (a : Addr) (ob : Obj) (kvs : List (Key × V)) : It where
  go i H := H a = some (.frz ob (.dK kvs)) ∧ i < kvs.length
  yld i H x H' := H' = H ∧ ∀ p, kvs[i]? = some p → x = kV p.1
  stop i H := H a = some (.frz ob (.dK kvs)) ∧ kvs.length ≤ i
theorem key_rel {P : Program} {w : World} {k : Key} {v : Value} (h : (mixKind P w).is k v = true) : RelV (kV k) v := by
  rcases keyIs_shape (show keyIs k v = true from h) with ⟨i, t, rfl, rfl⟩ | ⟨x, t, rfl, rfl⟩
  · exact ⟨t, rfl⟩
  · exact ⟨t, rfl⟩
theorem frz_at {X : Cx} {pins : List (Addr × Obj)} {σ : St} {H : Hp} {s : Shared} {a : Addr} {ob : Obj} {kvs : List (Key × V)} {es : Array DictEntry} {ep : Nat} (I : Inv X pins σ H s) (ha : H a = some (.frz ob (.dK kvs))) (hep : ob.data = .dict es ep) :
    ∃ vs, KV kvs vs ∧ s.heap.DictAt (mixKind X.prog X.w) a vs ep ∧ (a == sysModules) = false := by
  obtain ⟨ho, _, hs, vs, r, o, es', ep', h1, h2, h3, h4⟩ := (show ObjOk X.prog X.w H s.heap a (.frz ob (.dK kvs)) from I.hok a _ ha)
  rw [ho] at h1
  obtain rfl := Option.some.inj h1
  have h3' := h3
  rw [hep] at h3'
  injection h3' with e1 e2
  subst e1 e2
  exact ⟨vs, r, ⟨ob, es, ho, h2, hep, h4⟩, hs⟩
theorem turn_dict {P : Program} {w : World} {K : PySem.W.Frag} {tg : Expr} (a it : Addr) (ob : Obj) (kvs : List (Key × V)) (es : Array DictEntry) (ep : Nat) (hep : ob.data = .dict es ep) :
    Turn P w K tg (Itd a ob kvs) [it] it (fun i h => h.IsKeyIter it a i kvs.length ep) where
  mem := by simp
  obj := fun i h st b hb => by
    have e : b = it := by simpa using hb
    subst e
    obtain ⟨o, e, c, d⟩ := st
    exact ⟨o, e, fun v z => by rw [d] at z; cases z⟩
  keep := fun i h h' st k => st.at fun o e => k it (by simp) o e
  item := by
    intro X hP hw hK hc i pins s σ H E I hf st hg
    subst hP hw hK
    obtain ⟨ha, hi⟩ := hg
    obtain ⟨vs, r, at0, _⟩ := frz_at I ha hep
    have hl := r.length
    obtain ⟨⟨k, v⟩, hk⟩ : ∃ p, vs[i]? = some p := ⟨_, List.getElem?_eq_getElem (by omega)⟩
    have hk' : (kvs.map (·.1))[i]? = some k := by rw [r.keys, List.getElem?_map, hk]; rfl
    obtain ⟨f0, f1, f2, f3, f4, f5⟩ := hf it (by simp)
    refine wpAny_pyNext_dict_item (knd := mixKind X.prog X.w) (show s.heap.IsKeyIter it a i vs.length ep by rw [← hl]; exact st) at0 hk fun key h' hkey st' sb => ?_
    have I1 : Inv X pins σ H { s with heap := h' } := I.turned (t' := s.toks) (fun b o hb e => (sb.2 b hb).trans e) f0 f1 f3 f4 f5
    rw [← hl] at st'
    obtain ⟨o, e, c, d⟩ := id st'
    refine ⟨key, rfl, go_of (s := { s with heap := h' }) e c d (by decide) ⟨kV k, H, I1, key_rel hkey, ⟨rfl, fun p hp => ?_⟩, st', fun b hb => (hf b hb).1⟩⟩
    rw [List.getElem?_map, hp] at hk'
    exact congrArg kV (Option.some.inj hk').symm
  done := by
    intro X hP hw hK hc i pins s σ H E I hf st hg
    subst hP hw hK
    obtain ⟨ha, hi⟩ := hg
    obtain ⟨vs, r, at0, _⟩ := frz_at I ha hep
    have hl := r.length
    obtain ⟨f0, f1, f2, f3, f4, f5⟩ := hf it (by simp)
    exact wpAny_pyNext_dict_end (knd := mixKind X.prog X.w) (I.ok.hd hc) (show s.heap.IsKeyIter it a i vs.length ep by rw [← hl]; exact st) at0 (List.getElem?_eq_none (by omega)) fun h' eb => ⟨rfl, I.turned (t' := s.toks) (fun b o hb e => eb b o hb e) f0 f1 f3 f4 f5⟩
  self := fun _ _ _ _ _ st h => wpAny_pyIter_keyiter st h
section
variable {X : Cx} {tg : Expr} {pins : List (Addr × Obj)} {σ : St} {H : Hp} {s : Shared}
/-- the dict's object is known from here on -/
theorem Inv.freeze {a : Addr} {ob : Obj} {kvs : List (Key × V)} (I : Inv X pins σ H s) (ha : H a = some (.dK kvs)) (ho : s.heap.get? a = some ob) : Inv X pins σ (upd H a (.frz ob (.dK kvs))) s := by
  refine I.step (h' := s.heap) (g' := s.gens) (d' := s.drawn) (t' := s.toks) (ch := []) (fun _ z => nomatch z) (fun b o _ _ _ e _ => e) (fun b o _ _ _ e _ => ⟨o.slots, e⟩) (fun b o _ e n => ?_) (fun b o _ e => ⟨o, e⟩) (fun b xs e => ?_) (fun b o u e => ?_) (fun b ps e => ?_) (fun m e => e) (fun b u e => ?_) I.bare
  · rw [upd_ne (fun z => by rw [z, ha] at n; cases n)]
    exact n
  · rw [upd_ne (fun z => by rw [z, ha] at e; cases e)]
    exact e
  · rw [upd_ne (fun z => by rw [z, ha] at e; cases e)]
    exact e
  · refine ⟨#[], ?_⟩
    rw [upd_ne (fun z => by rw [z, ha] at e; cases e), Array.append_empty]
    exact e
  · have st : ∀ {u : HO}, ObjOk X.prog X.w H s.heap b u → ObjOk X.prog X.w (upd H a (.frz ob (.dK kvs))) s.heap b u := fun q => q.stay (fun _ _ _ e => e) (fun c r => by rw [upd_ne (fun z => by rw [z, ha] at r; cases r)]; exact r) fun c xs r => by rw [upd_ne (fun z => by rw [z, ha] at r; cases r)]; exact r
    by_cases hb : b = a
    · subst hb
      rw [upd_same] at e
      obtain rfl := Option.some.inj e
      exact ⟨ho, st (I.hok b _ ha)⟩
    · rw [upd_ne hb] at e
      exact st (I.hok b _ e)
noncomputable def iDict (te : TE) : TI := fun σ H R => te σ H fun x H1 => ∃ a kvs, x = .ref a ∧ H1 a = some (.dK kvs) ∧ ∀ ob, R (Itd a ob kvs) (upd H1 a (.frz ob (.dK kvs)))
theorem pi_dict {l : Expr} {tl : TE} (hl : PE X l tl) : PI X tg l (iDict tl) := by
  intro pins s σ H R I h
  refine thn (hl pins s σ H _ I h) fun v s1 ⟨x, H1, I1, r1, q1⟩ => ?_
  obtain ⟨a, kvs, e, ha, q⟩ := q1
  subst e
  cases r1
  obtain ⟨_, hs, vs, r, o, es, ep, h1, h2, h3, h4⟩ := (show ObjOk X.prog X.w H1 s1.heap a (.dK kvs) from I1.hok a _ ha)
  have I2 := I1.freeze ha h1
  have at0 : s1.heap.DictAt (mixKind X.prog X.w) a vs ep := ⟨o, es, h1, h2, h3, h4⟩
  refine wpAny_pyIter_dict hs at0 ?_
  refine ⟨s1.heap.objs.size, [s1.heap.objs.size], _, _, _, rfl, I2.kept (t' := s1.toks) fun b o e => Heap.get?_push_of_some _ e, turn_dict a _ o kvs es ep h3, ?_, fun b hb => ?_, q o⟩
  · rw [r.length]
    exact ⟨_, Heap.get?_push_size _ rfl, rfl, rfl⟩
  · have e : b = s1.heap.objs.size := by simpa using hb
    subst e
    exact I2.fpOk (Nat.le_refl _) (I2.hok.fresh (Nat.le_refl _))
end
section
variable {X : Cx}
/-- dict(t), its keys' order known, and new -/
theorem call_dictF (hc : X.calm = true) : CallR X (.type "dict") (fun xs H Q => ∃ x fs, xs = [x] ∧ IsP X.K H (.tup (fs.map prD)) x ∧ (fs.map (·.1)).Nodup ∧ fs.length ≤ 1000 ∧ ∀ p H', H p = none → Same H H' → DicQ X.K H' p fs → Q (.ref p) H') := by
  intro pins s σ H xs us Q I r h
  obtain ⟨x, fs, rfl, dx, nd, hz, q⟩ := h
  obtain ⟨u, rfl, rx⟩ := vals1 r
  obtain ⟨a, ys, rfl, ha, ⟨o, ho, eo, dn⟩, ra⟩ := dx.unref
  cases rx
  obtain ⟨its, r', ⟨o', e', c', n', d'⟩, _⟩ := I.tuple ha
  have e0 : s.heap.get? a = some o := (I.hok a _ eo).1
  rw [e0] at e'
  obtain rfl := Option.some.inj e'
  obtain ⟨kvs, vs, k1, k2, k3, k4, k5, k6⟩ := pairs_of I ra r'
  have hl : vs.length = fs.length := by rw [← k1.length, k3]
  have big := I.big
  refine call_dict_pairs (knd := mixKind X.prog X.w) (kvs := vs) (I.ok.hd hc) e0 c' d' dn ⟨by rw [List.size_toArray]; exact k5, fun i kv z => ?_⟩ (Nat.le_trans (Nat.add_le_add (hl ▸ hz) (hl ▸ hz)) (by decide)) fun h' tk dd kp => ?_
  · obtain ⟨b, key, z1, z2, z3⟩ := k6 i kv z
    exact ⟨b, key, by simpa using z1, z2, z3⟩
  · have ndv : (vs.map (·.1)).Nodup := by
      rw [← k1.keys, k2]
      have z : fs.map (fun p => (Sum.inr p.1 : Key)) = (fs.map (·.1)).map Sum.inr := by rw [List.map_map]; rfl
      rw [z]
      exact List.Pairwise.map _ (fun a b n q => n (Sum.inr.inj q)) nd
    rw [merged_nil_of_nodup vs ndv] at dd
    have hf := I.hok.fresh (Nat.le_refl s.heap.objs.size)
    have I2 : Inv X pins σ (upd H s.heap.objs.size (.dK kvs)) { s with heap := h', toks := tk } := I.laid (t' := tk) kp (Nat.le_refl _)
      (dk_new (by rw [k3]; exact Nat.le_of_lt (small1000 hz)) (by simp; exact Nat.ne_of_gt big) k1 dd)
    refine ⟨.ref s.heap.objs.size, _, I2, rfl, q _ _ hf (same_new hf _) ⟨kvs, upd_same, k2, fun z => ⟨(k4 z).1, fun d l => ?_⟩⟩⟩
    obtain ⟨v, l1, l2⟩ := (k4 z).2 d l
    exact ⟨v, l1, l2.same (same_new hf _)⟩
/-- sorted of a dict whose keys are texts, which may be known -/
theorem call_sortDR (hc : X.calm = true) : CallR X (.builtin "sorted") (fun xs H Q => ∃ (p : Addr) (kvs : List (Key × V)) (ss : List Str), xs = [.ref p] ∧ Rd H p (.dK kvs) ∧ kvs.map (·.1) = ss.map Sum.inr ∧ ss.length < 64 ∧ ∀ (a : Addr) (ss' : List Str), H a = none → ss'.Perm ss → sortedS ss' = true → Q (.ref a) (upd H a (.lst (ss'.map V.str)))) := by
  intro pins s σ H xs us Q I r h
  obtain ⟨p, kvs, ss, rfl, hp, names, hl, q⟩ := h
  obtain ⟨u, rfl, rx⟩ := vals1 r
  cases rx
  obtain ⟨hz, hd, vs, kv, dof⟩ := dk_rd I.hok hp
  refine sortedD (ss := ss) (I.ok.hd hc) hd dof (by rw [← kv.keys]; exact names) hl fun h' t' a out ss' n kk low ea h1 h2 h3 => ?_
  have hn : H a = none := I.hok.fresh low
  refine ⟨.ref a, _, I.laid (t' := t') (o := .lst (ss'.map V.str)) kk low ?_, rfl, q a ss' hn h2 h3⟩
  have e2 : seqObj "list" out n = seqObj "list" out.toList.toArray n := by rw [Array.toArray_toList]
  refine ⟨?_, out.toList, n, vals_strs h1, ?_⟩
  · rw [List.length_map, h2.length_eq]
    exact Nat.le_of_lt (Nat.lt_trans hl (by decide))
  · rw [ea, e2]
end
section
variable {X : Cx}
/-- < of two numbers or of two texts -/
theorem op_ltIS : OpR X (compareOp .Lt) (fun x y H Q => (∃ i j : Int, x = .int i ∧ y = .int j ∧ Q (.bl (decide (i < j))) H) ∨ ∃ i j : Str, x = .str i ∧ y = .str j ∧ Q (.bl (decide (i.cps.toList < j.cps.toList))) H) := op_lt.or op_lt_str
end
section
variable {K : PySem.W.Frag} {a b l : Addr} {xs ys : List V} {g : TG} {tb : List V → Addr → St → Hp → (List V → St → Hp → Prop) → Prop} {R : Hp → Prop} {σ0 : St} {H0 : Hp}
theorem comp_zipTR (Pv : Nat → List V → St → Hp → Prop) (h0 : Pv 0 [] σ0 H0) (hla : ∀ i us σ H, Pv i us σ H → SqT K H a xs ∧ SqT K H b ys)
    (hs : ∀ i x y T us σ H (N : List V → St → Hp → Prop), xs[i]? = some x → ys[i]? = some y → H T = none → Pv i us σ H → (∀ us' σ' H', Pv (i + 1) us' σ' H' → N us' σ' H') → g (.ref T) σ (upd H T (.tup [x, y])) fun σ2 H2 => tb us l σ2 H2 N)
    (hd : ∀ us σ H, Pv (min xs.length ys.length) us σ H → R H) :
    ∃ W : Nat → Nat → List V → St → Hp → Prop, (∃ m, W 0 m [] σ0 H0) ∧ ∀ i m us σ' H', W i m us σ' H' → ((ItzT K a b).stop i H' ∧ R H') ∨
      ((ItzT K a b).go i H' ∧ ∀ x H'', (ItzT K a b).yld i H' x H'' → g x σ' H'' fun σ2 H2 => tb us l σ2 H2 fun us' σ3 H3 => ∃ m', m' < m ∧ W (i + 1) m' us' σ3 H3) := comp_zipT (Q := fun _ H => R H) Pv h0 hla hs hd
end
section
variable {a : Addr} {ob : Obj} {kvs : List (Key × V)} {g : TG} {l : Addr} {σ0 : St} {H0 : Hp} {R : Hp → Prop} {tb : List V → Addr → St → Hp → (List V → St → Hp → Prop) → Prop}
theorem comp_dictR (Pv : Nat → List V → St → Hp → Prop) (h0 : Pv 0 [] σ0 H0) (hl : ∀ i ys σ H, i ≤ kvs.length → Pv i ys σ H → H a = some (.frz ob (.dK kvs)))
    (hs : ∀ i p ys σ H (N : List V → St → Hp → Prop), kvs[i]? = some p → Pv i ys σ H → (∀ ys' σ' H', Pv (i + 1) ys' σ' H' → N ys' σ' H') → g (kV p.1) σ H fun σ2 H2 => tb ys l σ2 H2 N)
    (hd : ∀ ys σ H, Pv kvs.length ys σ H → R H) :
    ∃ W : Nat → Nat → List V → St → Hp → Prop, (∃ m, W 0 m [] σ0 H0) ∧ ∀ i m ys σ' H', W i m ys σ' H' → ((Itd a ob kvs).stop i H' ∧ R H') ∨
      ((Itd a ob kvs).go i H' ∧ ∀ x H'', (Itd a ob kvs).yld i H' x H'' → g x σ' H'' fun σ2 H2 => tb ys l σ2 H2 fun ys' σ3 H3 => ∃ m', m' < m ∧ W (i + 1) m' ys' σ3 H3) := by
  refine ⟨fun i m ys σ H => m = kvs.length - i ∧ i ≤ kvs.length ∧ Pv i ys σ H, ⟨kvs.length, by simp, Nat.zero_le _, h0⟩, ?_⟩
  rintro i m ys σ H ⟨rfl, hi, p⟩
  by_cases hlt : i < kvs.length
  · refine .inr ⟨⟨hl i ys σ H hi p, hlt⟩, fun x H'' hy => ?_⟩
    obtain ⟨rfl, hx⟩ := hy
    obtain ⟨q, hq⟩ : ∃ q, kvs[i]? = some q := ⟨_, List.getElem?_eq_getElem hlt⟩
    rw [hx q hq]
    exact hs i q ys σ H'' _ hq p fun ys' σ' H' p' => ⟨kvs.length - (i + 1), by omega, rfl, hlt, p'⟩
  · have e : i = kvs.length := Nat.le_antisymm hi (Nat.not_lt.mp hlt)
    subst e
    exact .inl ⟨⟨hl _ ys σ H (Nat.le_refl _) p, Nat.le_refl _⟩, hd ys σ H p⟩
end
end L2

set_option Elab.async false
set_option linter.all false
set_option maxRecDepth 100000
set_option maxHeartbeats 4000000
namespace L2
open PySem PySem.Spec PyProof.Rows
section
variable {X : Cx}
end
end L2

set_option Elab.async false
set_option linter.all false
set_option maxRecDepth 100000
set_option maxHeartbeats 4000000
namespace K04
open PySem L2 PyProof.Rows
noncomputable def top (i : Nat) : Stmt := PySem.Challenge.pw_oldhands_k04_values_of_kinds.main.body.getD i (.Pass ⟨0, 0, 0, 0⟩)
noncomputable abbrev s_is_whole : Stmt := top 4
noncomputable abbrev s_is_whole_within : Stmt := top 5
noncomputable abbrev s_is_sign : Stmt := top 8
noncomputable abbrev s_is_of : Stmt := top 9
noncomputable abbrev s_made_value : Stmt := top 10
noncomputable abbrev s_is_text_of : Stmt := top 11
noncomputable abbrev s_holds_tuple : Stmt := top 12
noncomputable abbrev s_holds_items : Stmt := top 13
noncomputable abbrev s_is_record_of : Stmt := top 14
noncomputable abbrev s_is_pair_of : Stmt := top 15
noncomputable abbrev s_are_keyed : Stmt := top 16
noncomputable abbrev s_least_value : Stmt := top 17
noncomputable abbrev s_field_of : Stmt := top 18
noncomputable abbrev s_law_cell_at : Stmt := top 20
noncomputable abbrev s_law_mixed : Stmt := top 21
noncomputable abbrev s_law_own : Stmt := top 22
noncomputable abbrev s_law_digit : Stmt := top 23
noncomputable abbrev s_law_names : Stmt := top 24
noncomputable abbrev s_law_number_kind : Stmt := top 25
noncomputable abbrev s_law_leaf_kind : Stmt := top 26
noncomputable abbrev s_law_record_kind : Stmt := top 27
noncomputable abbrev s_law_rows_kind : Stmt := top 28
noncomputable abbrev s_law_kind : Stmt := top 29
noncomputable abbrev s_law_text : Stmt := top 30
noncomputable abbrev s_law_keys : Stmt := top 31
noncomputable abbrev s_law_row_values : Stmt := top 32
noncomputable abbrev s_law_value : Stmt := top 33
noncomputable abbrev s_law_least : Stmt := top 34
noncomputable abbrev s_law_same : Stmt := top 35
noncomputable abbrev s_law : Stmt := top 36
theorem sc_is_whole : FnScope ["thing"] ["thing"] (defScope s_is_whole) := ⟨rfl, rfl, rfl, by decide +kernel, rfl, by decide +kernel, by decide +kernel⟩
theorem sc_is_whole_within : FnScope ["thing", "low", "high"] ["thing", "low", "high"] (defScope s_is_whole_within) := ⟨rfl, rfl, rfl, by decide +kernel, rfl, by decide +kernel, by decide +kernel⟩
theorem sc_is_sign : FnScope ["letter"] ["letter"] (defScope s_is_sign) := ⟨rfl, rfl, rfl, by decide +kernel, rfl, by decide +kernel, by decide +kernel⟩
theorem sc_is_of : FnScope ["value", "kind", "word"] ["value", "kind"] (defScope s_is_of) := ⟨rfl, rfl, rfl, by decide +kernel, rfl, by decide +kernel, by decide +kernel⟩
theorem sc_made_value : FnScope ["value", "kind"] ["value", "kind"] (defScope s_made_value) := ⟨rfl, rfl, rfl, by decide +kernel, rfl, by decide +kernel, by decide +kernel⟩
theorem sc_is_text_of : FnScope ["value", "most"] ["value", "most"] (defScope s_is_text_of) := ⟨rfl, rfl, rfl, by decide +kernel, rfl, by decide +kernel, by decide +kernel⟩
theorem sc_holds_tuple : FnScope ["value", "word"] ["value", "word"] (defScope s_holds_tuple) := ⟨rfl, rfl, rfl, by decide +kernel, rfl, by decide +kernel, by decide +kernel⟩
theorem sc_holds_items : FnScope ["value", "word", "kind", "most"] ["value", "word", "kind", "most"] (defScope s_holds_items) := ⟨rfl, rfl, rfl, by decide +kernel, rfl, by decide +kernel, by decide +kernel⟩
theorem sc_is_record_of : FnScope ["value", "fields"] ["value", "fields"] (defScope s_is_record_of) := ⟨rfl, rfl, rfl, by decide +kernel, rfl, by decide +kernel, by decide +kernel⟩
theorem sc_is_pair_of : FnScope ["pair", "field"] ["pair", "field"] (defScope s_is_pair_of) := ⟨rfl, rfl, rfl, by decide +kernel, rfl, by decide +kernel, by decide +kernel⟩
theorem sc_are_keyed : FnScope ["items", "key", "keys"] ["items", "key"] (defScope s_are_keyed) := ⟨rfl, rfl, rfl, by decide +kernel, rfl, by decide +kernel, by decide +kernel⟩
theorem sc_least_value : FnScope ["kind", "word"] ["kind"] (defScope s_least_value) := ⟨rfl, rfl, rfl, by decide +kernel, rfl, by decide +kernel, by decide +kernel⟩
theorem sc_field_of : FnScope ["record", "name", "own", "value"] ["record", "name"] (defScope s_field_of) := ⟨rfl, rfl, rfl, by decide +kernel, rfl, by decide +kernel, by decide +kernel⟩
theorem sc_law_cell_at : FnScope ["script", "k"] ["script", "k"] (defScope s_law_cell_at) := ⟨rfl, rfl, rfl, by decide +kernel, rfl, by decide +kernel, by decide +kernel⟩
theorem sc_law_mixed : FnScope ["cell", "k", "stir"] ["cell", "k"] (defScope s_law_mixed) := ⟨rfl, rfl, rfl, by decide +kernel, rfl, by decide +kernel, by decide +kernel⟩
theorem sc_law_own : FnScope ["script", "k", "cell", "found", "j"] ["script", "k"] (defScope s_law_own) := ⟨rfl, rfl, rfl, by decide +kernel, rfl, by decide +kernel, by decide +kernel⟩
theorem sc_law_digit : FnScope ["row", "many", "digit"] ["row", "many"] (defScope s_law_digit) := ⟨rfl, rfl, rfl, by decide +kernel, rfl, by decide +kernel, by decide +kernel⟩
theorem sc_law_names : FnScope ["row", "many", "base", "tail", "way", "words"] ["row", "many"] (defScope s_law_names) := ⟨rfl, rfl, rfl, by decide +kernel, rfl, by decide +kernel, by decide +kernel⟩
theorem sc_law_number_kind : FnScope ["row", "low", "high"] ["row"] (defScope s_law_number_kind) := ⟨rfl, rfl, rfl, by decide +kernel, rfl, by decide +kernel, by decide +kernel⟩
theorem sc_law_leaf_kind : FnScope ["row", "way", "words"] ["row"] (defScope s_law_leaf_kind) := ⟨rfl, rfl, rfl, by decide +kernel, rfl, by decide +kernel, by decide +kernel⟩
theorem sc_law_record_kind : FnScope ["row", "deep", "room", "many", "fields", "name"] ["row", "deep", "room"] (defScope s_law_record_kind) := ⟨rfl, rfl, rfl, by decide +kernel, rfl, by decide +kernel, by decide +kernel⟩
theorem sc_law_rows_kind : FnScope ["row", "deep", "room", "names", "key", "fields", "name", "inner"] ["row", "deep", "room"] (defScope s_law_rows_kind) := ⟨rfl, rfl, rfl, by decide +kernel, rfl, by decide +kernel, by decide +kernel⟩
theorem sc_law_kind : FnScope ["row", "deep", "room", "way"] ["row", "deep", "room"] (defScope s_law_kind) := ⟨rfl, rfl, rfl, by decide +kernel, rfl, by decide +kernel, by decide +kernel⟩
theorem sc_law_text : FnScope ["row", "most", "signs"] ["row", "most"] (defScope s_law_text) := ⟨rfl, rfl, rfl, by decide +kernel, rfl, by decide +kernel, by decide +kernel⟩
theorem sc_law_keys : FnScope ["row", "kind", "many", "start"] ["row", "kind"] (defScope s_law_keys) := ⟨rfl, rfl, rfl, by decide +kernel, rfl, by decide +kernel, by decide +kernel⟩
theorem sc_law_row_values : FnScope ["row", "kind", "fields", "items", "most", "key", "pairs", "name", "value"] ["row", "kind"] (defScope s_law_row_values) := ⟨rfl, rfl, rfl, by decide +kernel, rfl, by decide +kernel, by decide +kernel⟩
theorem sc_law_value : FnScope ["row", "kind", "word", "edge", "many"] ["row", "kind"] (defScope s_law_value) := ⟨rfl, rfl, rfl, by decide +kernel, rfl, by decide +kernel, by decide +kernel⟩
theorem sc_law_least : FnScope ["kind", "word"] ["kind"] (defScope s_law_least) := ⟨rfl, rfl, rfl, by decide +kernel, rfl, by decide +kernel, by decide +kernel⟩
theorem sc_law_same : FnScope ["one", "other"] ["one", "other"] (defScope s_law_same) := ⟨rfl, rfl, rfl, by decide +kernel, rfl, by decide +kernel, by decide +kernel⟩
theorem sc_law : FnScope ["script", "k", "row", "turn", "kind", "value", "least"] ["script"] (defScope s_law) := ⟨rfl, rfl, rfl, by decide +kernel, rfl, by decide +kernel, by decide +kernel⟩
/-- where the classes stand -/
structure Ads where
  HandError : Addr
  BadValue : Addr
/-- what the top has written -/
structure Tx (K : PySem.W.Frag) (mg : Str → Option Value) (ad : Ads) : Prop where
  is_whole : ∃ f fd, Gn K mg "is_whole" s_is_whole ["thing"] f fd
  is_whole_within : ∃ f fd, Gn K mg "is_whole_within" s_is_whole_within ["thing", "low", "high"] f fd
  is_sign : ∃ f fd, Gn K mg "is_sign" s_is_sign ["letter"] f fd
  is_of : ∃ f fd, Gn K mg "is_of" s_is_of ["value", "kind"] f fd
  made_value : ∃ f fd, Gn K mg "made_value" s_made_value ["value", "kind"] f fd
  is_text_of : ∃ f fd, Gn K mg "is_text_of" s_is_text_of ["value", "most"] f fd
  holds_tuple : ∃ f fd, Gn K mg "holds_tuple" s_holds_tuple ["value", "word"] f fd
  holds_items : ∃ f fd, Gn K mg "holds_items" s_holds_items ["value", "word", "kind", "most"] f fd
  is_record_of : ∃ f fd, Gn K mg "is_record_of" s_is_record_of ["value", "fields"] f fd
  is_pair_of : ∃ f fd, Gn K mg "is_pair_of" s_is_pair_of ["pair", "field"] f fd
  are_keyed : ∃ f fd, Gn K mg "are_keyed" s_are_keyed ["items", "key"] f fd
  least_value : ∃ f fd, Gn K mg "least_value" s_least_value ["kind"] f fd
  field_of : ∃ f fd, Gn K mg "field_of" s_field_of ["record", "name"] f fd
  law_cell_at : ∃ f fd, Gn K mg "_law_cell_at" s_law_cell_at ["script", "k"] f fd
  law_mixed : ∃ f fd, Gn K mg "_law_mixed" s_law_mixed ["cell", "k"] f fd
  law_own : ∃ f fd, Gn K mg "_law_own" s_law_own ["script", "k"] f fd
  law_digit : ∃ f fd, Gn K mg "_law_digit" s_law_digit ["row", "many"] f fd
  law_names : ∃ f fd, Gn K mg "_law_names" s_law_names ["row", "many"] f fd
  law_number_kind : ∃ f fd, Gn K mg "_law_number_kind" s_law_number_kind ["row"] f fd
  law_leaf_kind : ∃ f fd, Gn K mg "_law_leaf_kind" s_law_leaf_kind ["row"] f fd
  law_record_kind : ∃ f fd, Gn K mg "_law_record_kind" s_law_record_kind ["row", "deep", "room"] f fd
  law_rows_kind : ∃ f fd, Gn K mg "_law_rows_kind" s_law_rows_kind ["row", "deep", "room"] f fd
  law_kind : ∃ f fd, Gn K mg "_law_kind" s_law_kind ["row", "deep", "room"] f fd
  law_text : ∃ f fd, Gn K mg "_law_text" s_law_text ["row", "most"] f fd
  law_keys : ∃ f fd, Gn K mg "_law_keys" s_law_keys ["row", "kind"] f fd
  law_row_values : ∃ f fd, Gn K mg "_law_row_values" s_law_row_values ["row", "kind"] f fd
  law_value : ∃ f fd, Gn K mg "_law_value" s_law_value ["row", "kind"] f fd
  law_least : ∃ f fd, Gn K mg "_law_least" s_law_least ["kind"] f fd
  law_same : ∃ f fd, Gn K mg "_law_same" s_law_same ["one", "other"] f fd
  law : ∃ f fd, Gn K mg "law" s_law ["script"] f fd
  x_HandError : ExC K mg "HandError" ad.HandError
  x_BadValue : ExC K mg "BadValue" ad.BadValue
  PERCENT : ∃ t, mg "PERCENT" = some (.int 37 t)
  z_all : mg "all" = none
  z_any : mg "any" = none
  z_bool : mg "bool" = none
  z_dict : mg "dict" = none
  z_int : mg "int" = none
  z_isinstance : mg "isinstance" = none
  z_len : mg "len" = none
  z_max : mg "max" = none
  z_min : mg "min" = none
  z_ord : mg "ord" = none
  z_range : mg "range" = none
  z_sorted : mg "sorted" = none
  z_str : mg "str" = none
  z_sum : mg "sum" = none
  z_tuple : mg "tuple" = none
  z_zip : mg "zip" = none
noncomputable abbrev depth : Nat := 60
noncomputable abbrev letters : Str := "abcdefghijklmnopqrstuvwxyz"
noncomputable def inB (c : Nat) : Bool := !(Builtin.Str.occurrences letters ⟨#[c]⟩ 0 letters.length 1).isEmpty
/-- what is_name tells -/
noncomputable def nameB (z : Str) : Bool := decide (1 ≤ z.length) && decide (z.length ≤ 8) && !decide (z = "each") && z.cps.toList.all inB
noncomputable def ltS (a b : Str) : Prop := a.cps.toList < b.cps.toList
noncomputable instance (a b : Str) : Decidable (ltS a b) := inferInstanceAs (Decidable (a.cps.toList < b.cps.toList))
noncomputable def wordsB (ws : List Str) : Bool := decide (1 ≤ ws.length) && decide (ws.length ≤ 8) && ws.all nameB && decide ws.Nodup
/-- a field: its name, its kind, how deep it is, how many it is -/
noncomputable abbrev G4 := Str × Dt × Nat × Nat
noncomputable abbrev nk (g : G4) : Str × Dt := (g.1, g.2.1)
noncomputable abbrev prG (g : G4) : Dt := .tup [.str g.1, g.2.1]
noncomputable def sumN : List Nat → Nat
  | [] => 0
  | n :: r => n + sumN r
noncomputable def maxN : List Nat → Nat
  | [] => 0
  | n :: r => max n (maxN r)
noncomputable def keyL (l : List Dt) (z : Str) : Prop := ∃ w r, Dt.tup [.str z, .tup (.str w :: r)] ∈ l ∧ (w = "number" ∨ w = "text")
/-- a kind: how deep, how many -/
inductive FK : Nat → Nat → Dt → Prop
  | text (i : Int) : 0 ≤ i → i ≤ 60 → FK 1 1 (.tup [.str "text", .int i])
  | choice (ws : List Str) : wordsB ws = true → FK 1 1 (.tup [.str "choice", .tup (ws.map Dt.str)])
  | number (i j : Int) : -1000000000000000000000000000000 ≤ i → i ≤ j → j ≤ 1000000000000000000000000000000 → FK 1 1 (.tup [.str "number", .int i, .int j])
  | list {a c : Nat} {k : Dt} {i : Int} : FK a c k → 0 ≤ i → i ≤ 8 → FK (a + 1) (c + 1) (.tup [.str "list", k, .int i])
  | rows {a c : Nat} {z : Str} {l : List Dt} {i : Int} : FK a c (.tup [.str "record", .tup l]) → keyL l z → 0 ≤ i → i ≤ 8 → FK (a + 1) (c + 1) (.tup [.str "rows", .str z, .tup [.str "record", .tup l], .int i])
  | rcd {gs : List G4} : (∀ g ∈ gs, FK g.2.2.1 g.2.2.2 g.2.1) → (gs.map (·.1)).Pairwise ltS → (∀ g ∈ gs, nameB g.1 = true ∧ g.1 ≠ "noneone") → gs.length ≤ 8 → FK (maxN (gs.map (·.2.2.1)) + 1) (sumN (gs.map (·.2.2.2)) + 1) (.tup [.str "record", .tup (gs.map prG)])
theorem FK.pos {a c : Nat} {d : Dt} (h : FK a c d) : 1 ≤ a := by cases h <;> omega
theorem le_max {n : Nat} : ∀ {l : List Nat}, n ∈ l → n ≤ maxN l
  | m :: l, h => by
    show n ≤ max m (maxN l)
    rcases List.mem_cons.mp h with rfl | h
    · exact Nat.le_max_left _ _
    · exact Nat.le_trans (le_max h) (Nat.le_max_right _ _)
theorem max_le {b : Nat} : ∀ {l : List Nat}, (∀ n ∈ l, n ≤ b) → maxN l ≤ b
  | [], _ => Nat.zero_le _
  | m :: l, h => by
    show max m (maxN l) ≤ b
    exact Nat.max_le.mpr ⟨h m List.mem_cons_self, max_le fun n hn => h n (List.mem_cons_of_mem _ hn)⟩
noncomputable def sp_law_mixed (_ : PySem.W.Frag) (_ : Ads) : Sp := fun vs H Q _ => ∃ i k : Int, vs = [.int i, .int k] ∧ ∀ c, Q (.int c) H
noncomputable def sp_law_digit (_ : PySem.W.Frag) (_ : Ads) : Sp := fun vs H Q _ => ∃ (r : Addr) (n m : Int), vs = [.ref r, .int m] ∧ H r = some (.lst [.int n]) ∧ 0 < m ∧ m < 10000000000000000000000000000000000000000000000000000000000000 ∧ Q (.int (n % m)) (upd H r (.lst [.int (n / m)]))
noncomputable def sp_law_cell_at (K : PySem.W.Frag) (_ : Ads) : Sp := fun vs H Q _ => ∃ (a : Addr) (ns : List Int) (k : Nat), vs = [.ref a, .int k] ∧ SqL K H a (ns.map V.int) ∧ ns.length ≤ 63 ∧ ∀ c, Q (.int c) H
noncomputable def sp_law_own (K : PySem.W.Frag) (_ : Ads) : Sp := fun vs H Q _ => ∃ (a : Addr) (ns : List Int) (k : Nat), vs = [.ref a, .int k] ∧ SqL K H a (ns.map V.int) ∧ ns.length ≤ 63 ∧ k < 1000 ∧
  ∀ r n H', H r = none → Same H H' → H' r = some (.lst [.int n]) → Q (.ref r) H'
noncomputable def spLaw (K : PySem.W.Frag) : Sp := fun vs H Q _ => ∃ (a : Addr) (ns : List Int), vs = [.ref a] ∧ SqL K H a (ns.map V.int) ∧ ns.length ≤ 63 ∧ ∀ H', Q (.bl true) H'
noncomputable abbrev sp_law (K : PySem.W.Frag) (_ : Ads) : Sp := spLaw K
theorem small {n : Nat} (h : n ≤ 1000) : n ≤ sizeLine := Nat.le_of_lt (small1000 h)
theorem take_next {α β : Type} {xs : List α} {i : Nat} {x : α} (f : α → β) (h : xs[i]? = some x) : (xs.take i).map f ++ [f x] = (xs.take (i + 1)).map f := by
  rw [List.take_add_one, h, List.map_append]; rfl
theorem lt_nodup {l : List Str} (h : l.Pairwise ltS) : l.Nodup := List.Pairwise.imp (fun {a b} hab e => by
  subst e
  exact absurd hab (List.lt_irrefl _)) h
section
variable {P : Program} {w : World} {K : PySem.W.Frag} {mg : Str → Option Value} {base : Heap} {ad : Ads}
theorem ok_law_mixed (T : Tx K mg ad) {f : Addr} {fd : FuncData} (F : Gn K mg "_law_mixed" s_law_mixed ["cell", "k"] f fd) : FnOk P w K mg base CX0 1 f fd ["cell", "k"] (sp_law_mixed K ad) := by
  refine F.F.ok sc_law_mixed (fun vs H Q E h => ?_) (fun cdv A outer s H vs Q E hr h => ?_)
  · obtain ⟨i, k, rfl, _⟩ := h
    rfl
  obtain ⟨i, k, rfl, q⟩ := h
  refine ⟨_, (@pss_cons _ _ _ _ _ (@ps_set _ _ 2 _ _ _ _ sc_law_mixed.nd rfl (Or.inl rfl) (@pe_op _ _ _ _ _ _ _ _ op_mod (@pe_op _ _ _ _ _ _ _ _ op_mul (@pe_op _ _ _ _ _ _ _ _ op_add (@pe_op _ _ _ _ _ _ _ _ op_add (@pe_op _ _ _ _ _ _ _ _ op_mod (pv 0) pe_int) (@pe_op _ _ _ _ _ _ _ _ op_mul pe_int (pv 1))) pe_int) pe_int) pe_int) (by rfl) (by first | exact .inl rfl | exact .inr rfl | assumption)) (@pss_one _ _ _ (@ps_ret _ _ _ _ (@pe_op _ _ _ _ _ _ _ _ op_mod (@pe_op _ _ _ _ _ _ _ _ op_mul (@pe_op _ _ _ _ _ _ _ _ op_mod (@pe_op _ _ _ _ _ _ _ _ op_mul (pv 2) (pv 2)) pe_int) pe_int) pe_int)))), ?_⟩
  refine ⟨_, rfl, _, _, rfl, rfl, (by show (0 : Int) < 1000000007; decide), _, rfl, _, _, rfl, rfl, .inl ⟨by decide, by decide⟩, _, _, rfl, rfl, _, _, rfl, rfl, _, _, rfl, rfl, .inr ⟨by decide, by decide⟩, _, _, rfl, rfl, (by show (0 : Int) < 2147483647; decide), ?_⟩
  have b0 : (0 : Int) ≤ (i % 1000000007 + 7919 * k + 1) * 48271 % 2147483647 := Int.emod_nonneg _ (by decide)
  have b1 : (i % 1000000007 + 7919 * k + 1) * 48271 % 2147483647 < 2147483647 := Int.emod_lt_of_pos _ (by decide)
  exact ⟨_, rfl, _, rfl, _, _, rfl, rfl, .inl ⟨by omega, by omega⟩, _, _, rfl, rfl, (by show (0 : Int) < 2147483629; decide), _, _, rfl, rfl, .inr ⟨by decide, by decide⟩, _, _, rfl, rfl, (by show (0 : Int) < 2147483647; decide), q _⟩
theorem ok_law_digit (T : Tx K mg ad) {f : Addr} {fd : FuncData} (F : Gn K mg "_law_digit" s_law_digit ["row", "many"] f fd) : FnOk P w K mg base CX0 1 f fd ["row", "many"] (sp_law_digit K ad) := by
  refine F.F.ok sc_law_digit (fun vs H Q E h => ?_) (fun cdv A outer s H vs Q E hr h => ?_)
  · obtain ⟨r, n, m, rfl, _⟩ := h
    rfl
  obtain ⟨r, n, m, rfl, hr0, h0, h1, q⟩ := h
  refine ⟨_, (@pss_cons _ _ _ _ _ (@ps_set _ _ 2 _ _ _ _ sc_law_digit.nd rfl (Or.inl rfl) (@pe_op _ _ _ _ _ _ _ _ op_mod (@pe_ix _ _ _ _ _ _ _ (ix_listK (K := K) rfl) (pv 0) pe_int (fun _ _ => rfl)) (pv 1)) (by rfl) (by first | exact .inl rfl | exact .inr rfl | assumption)) (@pss_cons _ _ _ _ _ (ps_asg (@pe_op _ _ _ _ _ _ _ _ op_fdivB (@pe_ix _ _ _ _ _ _ _ (ix_listK (K := K) rfl) (pv 0) pe_int (fun _ _ => rfl)) (pv 1)) (pg_sub (pv 0) pe_int set_list)) (@pss_one _ _ _ (@ps_ret _ _ _ _ (pv 2))))), ?_⟩
  have e0 : atI [V.int n] 0 = some (.int n) := rfl
  exact ⟨_, rfl, r, _, _, _, rfl, rfl, SqL.of hr0, e0, _, rfl, _, _, rfl, rfl, h0, _, rfl, r, _, _, _, rfl, rfl, SqL.of hr0, e0, _, rfl, _, _, rfl, rfl, ⟨h0, h1⟩, _, rfl, r, _, _, _, rfl, rfl, hr0, rfl, _, rfl, q⟩
theorem pick {α : Type} {xs : List α} {d : Int} (h0 : 0 ≤ d) (h1 : d < (xs.length : Int)) : ∃ v, v ∈ xs ∧ atI xs d = some v := by
  have hk : d.toNat < xs.length := by omega
  have ek : ((d.toNat : Nat) : Int) = d := by omega
  have e : atI xs ((d.toNat : Nat) : Int) = some xs[d.toNat] := atI_nat (by simp [hk])
  rw [ek] at e
  exact ⟨xs[d.toNat], List.getElem_mem hk, e⟩
theorem mod_lt (n : Int) {m : Int} (h : 0 < m) : 0 ≤ n % m ∧ n % m < m := ⟨Int.emod_nonneg _ (by omega), Int.emod_lt_of_pos _ h⟩
theorem ok_law_cell_at (T : Tx K mg ad) {f : Addr} {fd : FuncData} (F : Gn K mg "_law_cell_at" s_law_cell_at ["script", "k"] f fd) : FnOk P w K mg base CX0 1 f fd ["script", "k"] (sp_law_cell_at K ad) := by
  refine F.F.ok sc_law_cell_at (fun vs H Q E h => ?_) (fun cdv A outer s H vs Q E hr h => ?_)
  · obtain ⟨a, ns, k, rfl, _⟩ := h
    rfl
  obtain ⟨a, ns, k, rfl, hS, h63, q⟩ := h
  refine ⟨_, (@pss_cons _ _ _ _ _ (@ps_if _ _ _ _ _ _ _ _ (pt_cmpR op_lt (pv 1) (pe_callB call_len_seq rfl T.z_len PySem.boot_len (@pa_cons _ _ _ _ _ (pv 0) pa_nil (by rfl))) (nomark _)) (@pss_one _ _ _ (@ps_ret _ _ _ _ (@pe_ix _ _ _ _ _ _ _ (ix_listK (K := K) rfl) (pv 0) (pv 1) (fun _ _ => rfl)))) pss_nil) (@pss_one _ _ _ (@ps_ret _ _ _ _ pe_int))), ?_⟩
  refine ⟨_, rfl, _, rfl, a, _, rfl, .inl hS, _, _, rfl, rfl, _, rfl, ?_⟩
  rw [List.length_map]
  refine ite2 (fun c => ?_) (fun c => ?_)
  · have c' : (k : Int) < ns.length := of_decide_eq_true c
    obtain ⟨v, hv, e⟩ := pick (xs := ns.map V.int) (d := (k : Int)) (by omega) (by rw [List.length_map]; exact c')
    obtain ⟨i, _, rfl⟩ := List.mem_map.mp hv
    exact ⟨_, rfl, _, rfl, a, _, _, _, rfl, rfl, hS, e, q i⟩
  · exact q 0
theorem ok_law_own (T : Tx K mg ad) {f : Addr} {fd : FuncData} (F : Gn K mg "_law_own" s_law_own ["script", "k"] f fd) : FnOk P w K mg base CX0 2 f fd ["script", "k"] (sp_law_own K ad) := by
  obtain ⟨f_law_cell_at, fd_law_cell_at, D_law_cell_at⟩ := T.law_cell_at
  have G_law_cell_at := ok_law_cell_at (P := P) (w := w) (base := base) T D_law_cell_at
  obtain ⟨f_law_mixed, fd_law_mixed, D_law_mixed⟩ := T.law_mixed
  have G_law_mixed := ok_law_mixed (P := P) (w := w) (base := base) T D_law_mixed
  refine F.F.ok sc_law_own (fun vs H Q E h => ?_) (fun cdv A outer s H vs Q E hr h => ?_)
  · obtain ⟨a, ns, k, rfl, _⟩ := h
    rfl
  obtain ⟨a, ns, k, rfl, hS, h63, hk, q⟩ := h
  refine ⟨_, (@pss_cons _ _ _ _ _ (@ps_set _ _ 2 _ _ _ _ sc_law_own.nd rfl (Or.inl rfl) (pe_call G_law_cell_at (hr.mono (by first | decide | omega)) rfl D_law_cell_at.m D_law_cell_at.F.kp D_law_cell_at.b .nil pass0 (@pa_cons _ _ _ _ _ (pv 0) (@pa_cons _ _ _ _ _ (pv 1) pa_nil (by rfl)) (by rfl))) (by rfl) (by first | exact .inl rfl | exact .inr rfl | assumption)) (@pss_cons _ _ _ _ _ (@ps_if _ _ _ _ _ _ _ _ (pt_cmpR op_ge (pv 2) (@pe_op _ _ _ _ _ _ _ _ op_pow pe_int pe_int) (nomark _)) (@pss_one _ _ _ (@ps_ret _ _ _ _ (@pe_lst _ _ _ _ (@pa_cons _ _ _ _ _ (pv 2) pa_nil (by rfl))))) pss_nil) (@pss_cons _ _ _ _ _ (@ps_set _ _ 3 _ _ _ _ sc_law_own.nd rfl (Or.inl rfl) pe_int (by rfl) (by first | exact .inl rfl | exact .inr rfl | assumption)) (@pss_cons _ _ _ _ _ (ps_for PassesOwn.never rfl (pi_range1 rfl T.z_range (@pa_cons _ _ _ _ _ pe_int pa_nil (by rfl))) (pg_name (i := 4) sc_law_own.nd rfl (Or.inl rfl))
        (@pss_one _ _ _ (@ps_set _ _ 3 _ _ _ _ sc_law_own.nd rfl (Or.inl rfl) (@pe_op _ _ _ _ _ _ _ _ op_add (@pe_op _ _ _ _ _ _ _ _ op_mul (pv 3) pe_int) (pe_call G_law_mixed (hr.mono (by first | decide | omega)) rfl D_law_mixed.m D_law_mixed.F.kp D_law_mixed.b .nil pass0 (@pa_cons _ _ _ _ _ (@pe_op _ _ _ _ _ _ _ _ op_add (@pe_op _ _ _ _ _ _ _ _ op_add (@pe_op _ _ _ _ _ _ _ _ op_mod (pe_callB call_sum rfl T.z_sum boot_sum (@pa_cons _ _ _ _ _ (pv 0) pa_nil (by rfl))) (@pe_op _ _ _ _ _ _ _ _ op_pow pe_int pe_int)) (pv 2)) (pv 1)) (@pa_cons _ _ _ _ _ (@pe_op _ _ _ _ _ _ _ _ op_add (@pe_op _ _ _ _ _ _ _ _ op_mul pe_int (pv 1)) (pv 4)) pa_nil (by rfl)) (by rfl)))) (by rfl) (by first | exact .inl rfl | exact .inr rfl | assumption)))) (@pss_one _ _ _ (@ps_ret _ _ _ _ (@pe_lst _ _ _ _ (@pa_cons _ _ _ _ _ (@pe_op _ _ _ _ _ _ _ _ op_fdivB (pv 3) pe_int) pa_nil (by rfl))))))))), ?_⟩
  refine ⟨_, rfl, _, rfl, a, ns, k, rfl, hS, h63, fun x => ?_⟩
  refine ⟨_, rfl, _, _, rfl, rfl, ⟨by decide, by decide, by decide⟩, _, _, rfl, rfl, _, rfl, ?_⟩
  refine ite2 (fun c1 => ?_) (fun c1 => ?_)
  · exact ⟨_, rfl, (by show 1 ≤ sizeLine; decide), fun r hr' => q r x _ hr' (same_new hr' _) upd_same⟩
  refine ⟨24, rfl, by decide, by decide, for_range (lo := 0) (n := (24 : Int).toNat) (fun i σ H1 => H1 = H ∧ ∃ y v, σ = [some (.ref a), some (.int k), some (.int x), some (.int y), v]) ⟨rfl, 0, _, rfl⟩ ?_ ?_⟩
  · rintro i σ H1 hi ⟨rfl, y, v, rfl⟩
    refine ⟨_, rfl, _, _, rfl, rfl, .inr ⟨by decide, by decide⟩, ?_⟩
    refine ⟨_, rfl, a, ns, rfl, rfl, hS, _, _, rfl, rfl, ⟨by decide, by decide, by decide⟩, _, _, rfl, rfl, (by show (0 : Int) < 10 ^ (60 : Int).toNat; decide +kernel), ?_⟩
    refine ⟨_, rfl, _, _, rfl, rfl, _, rfl, _, _, rfl, rfl, ?_⟩
    refine ⟨_, rfl, _, _, rfl, rfl, .inl ⟨by decide, by decide⟩, _, rfl, _, _, rfl, rfl, _, _, rfl, fun m => ?_⟩
    exact ⟨_, _, rfl, rfl, rfl, _, _, rfl⟩
  · rintro σ H1 ⟨rfl, y, v, rfl⟩
    exact ⟨_, rfl, _, _, rfl, rfl, ⟨by decide, by decide⟩, (by show 1 ≤ sizeLine; decide), fun r hr' => q r _ _ hr' (same_new hr' _) upd_same⟩
/-- names as they are drawn: many of them, ascending -/
structure Nam (m : Nat) (ss : List Str) : Prop where
  len : ss.length = m
  asc : ss.Pairwise ltS
  ok : ∀ z ∈ ss, nameB z = true ∧ z ≠ "noneone"
theorem lt_total {a b : Str} (h : ¬ ltS b a) (n : a ≠ b) : ltS a b := by
  by_cases c : ltS a b
  · exact c
  · refine absurd ?_ n
    have e : a.cps.toList = b.cps.toList := List.le_antisymm (List.not_lt.mp h) (List.not_lt.mp c)
    cases a
    cases b
    simp only at e
    rw [Array.toList_inj.mp e]
theorem rising_pw : ∀ (l : List Str) (p : Str), risingS p l = true → (p :: l).Nodup → (p :: l).Pairwise ltS
  | [], p, _, _ => List.pairwise_singleton _ _
  | x :: l, p, h, nd => by
    simp only [risingS, ltCps_eq, Bool.and_eq_true, Bool.not_eq_true', decide_eq_false_iff_not] at h
    have nd' := List.nodup_cons.mp nd
    have ih := rising_pw l x h.2 nd'.2
    have px : ltS p x := lt_total h.1 fun e => nd'.1 (e ▸ List.mem_cons_self)
    refine List.pairwise_cons.mpr ⟨fun y hy => ?_, ih⟩
    rcases List.mem_cons.mp hy with rfl | hy
    · exact px
    · exact List.lt_trans px ((List.pairwise_cons.mp ih).1 y hy)
theorem sorted_pw {l : List Str} (h : sortedS l = true) (nd : l.Nodup) : l.Pairwise ltS := by
  cases l with
  | nil => exact .nil
  | cons x l => exact rising_pw l x h nd
/-- a row of names, unlike, sorted -/
theorem nam_sorted {ss l : List Str} (hp : ss.Perm l) (hs : sortedS ss = true) (nd : l.Nodup) (ok : ∀ z ∈ l, nameB z = true ∧ z ≠ "noneone") : Nam l.length ss :=
  ⟨hp.length_eq, sorted_pw hs (hp.nodup_iff.mpr nd), fun z hz => ok z (hp.mem_iff.mp hz)⟩
noncomputable def f1 (k : Nat) : Str := Txt.slice "abcdefgh" none (some (0 + (k : Int) + 1))
theorem fact1 : ∀ m, m < 9 → ((List.range m).map f1).Pairwise ltS ∧ ∀ z ∈ (List.range m).map f1, nameB z = true ∧ z ≠ "noneone" := by decide +kernel
noncomputable def words8 : List Str := ["eac", "eachx", "list", "lists", "number", "rows", "text", "words"]
noncomputable def f2 (b k : Nat) : Str := words8.getD ((b + k) % 8) ""
theorem fact2 : ∀ b, b < 26 → ((List.range 8).map (f2 b)).Nodup ∧ ∀ z ∈ (List.range 8).map (f2 b), nameB z = true ∧ z ≠ "noneone" := by decide +kernel
noncomputable def tails : List Str := ["", "a", "zz", "eachone"]
noncomputable def f3 (b : Nat) (t : Str) (k : Nat) : Str := ⟨#[letters.cps.toList.getD ((b + 7 * k) % 26) 0]⟩ ++ t
theorem fact3 : ∀ b, b < 26 → ∀ t ∈ tails, ((List.range 8).map (f3 b t)).Nodup ∧ ∀ z ∈ (List.range 8).map (f3 b t), nameB z = true ∧ z ≠ "noneone" := by decide +kernel
theorem part8 {f : Nat → Str} {m : Nat} (hm : m ≤ 8) (h : ((List.range 8).map f).Nodup ∧ ∀ z ∈ (List.range 8).map f, nameB z = true ∧ z ≠ "noneone") : ((List.range m).map f).Nodup ∧ ∀ z ∈ (List.range m).map f, nameB z = true ∧ z ≠ "noneone" := by
  have s : ((List.range m).map f).Sublist ((List.range 8).map f) := (List.range_sublist.mpr hm).map f
  exact ⟨s.nodup h.1, fun z hz => h.2 z (s.subset hz)⟩
noncomputable def sp_law_names (K : PySem.W.Frag) (_ : Ads) : Sp := fun vs H Q _ => ∃ (r : Addr) (c : Int) (m : Nat), vs = [.ref r, .int m] ∧ H r = some (.lst [.int c]) ∧ m ≤ 8 ∧
  ∀ p ss c' H', But r H H' → H p = none → H' r = some (.lst [.int c']) → H' p = some (.lst (ss.map V.str)) → Nam m ss → Q (.ref p) H'
theorem getD_at {α : Type} {l : List α} {n : Nat} {e : α} (h : n < l.length) : l.getD n e = l[n] := by simp [List.getD, h]
theorem at_getD {α : Type} (f : α → V) (ws : List α) (d : Int) (e : α) (h0 : 0 ≤ d) (h1 : d < (ws.length : Int)) : atI (ws.map f) d = some (f (ws.getD d.toNat e)) := by
  have hk : d.toNat < ws.length := by omega
  have ek : ((d.toNat : Nat) : Int) = d := by omega
  have e' : atI (ws.map f) ((d.toNat : Nat) : Int) = some (f ws[d.toNat]) := atI_nat (by simp [hk])
  rw [ek] at e'
  rw [e', getD_at hk]
theorem range_next (f : Nat → Str) (i : Nat) : ((List.range i).map f).map V.str ++ [V.str (f i)] = ((List.range (i + 1)).map f).map V.str := by simp [List.range_succ]
theorem range_few (f : Nat → Str) {i : Nat} (h : i ≤ 8) : (((List.range i).map f).map V.str).length < sizeLine := by rw [List.length_map, List.length_map, List.length_range]; exact small1000 (by omega)
theorem but_upd {r l : Addr} {o : HO} {H H' : Hp} (b : But r H H') (hl : H l = none) : But r H (upd H' l o) := fun x u n e => by rw [upd_ne (ne_of_none e hl)]; exact b x u n e
theorem f2_at {b k : Nat} : atI (words8.map V.str) (((b : Int) + (0 + (k : Int))) % 8) = some (.str (f2 b k)) := by
  obtain ⟨h0, h1⟩ := mod_lt ((b : Int) + (0 + (k : Int))) (m := 8) (by decide)
  rw [at_getD V.str words8 _ "" h0 h1, show (((b : Int) + (0 + (k : Int))) % 8).toNat = (b + k) % 8 by omega]
  rfl
theorem f3_at {b k : Nat} : atI letters.cps.toList (((b : Int) + 7 * (0 + (k : Int))) % 26) = some (letters.cps.toList.getD ((b + 7 * k) % 26) 0) := by
  obtain ⟨h0, h1⟩ := mod_lt ((b : Int) + 7 * (0 + (k : Int))) (m := 26) (by decide)
  have hk : (b + 7 * k) % 26 < letters.cps.toList.length := by
    rw [show letters.cps.toList.length = 26 by decide +kernel]
    omega
  have ek : (((b + 7 * k) % 26 : Nat) : Int) = ((b : Int) + 7 * (0 + (k : Int))) % 26 := by omega
  have e' : atI letters.cps.toList ((((b + 7 * k) % 26 : Nat)) : Int) = some letters.cps.toList[(b + 7 * k) % 26] := atI_nat (by simp [hk])
  rw [ek] at e'
  rw [e', getD_at hk]
theorem ok_law_names (T : Tx K mg ad) {f : Addr} {fd : FuncData} (F : Gn K mg "_law_names" s_law_names ["row", "many"] f fd) : FnOk P w K mg base CX0 2 f fd ["row", "many"] (sp_law_names K ad) := by
  obtain ⟨f_law_digit, fd_law_digit, D_law_digit⟩ := T.law_digit
  have G_law_digit := ok_law_digit (P := P) (w := w) (base := base) T D_law_digit
  refine F.F.ok sc_law_names (fun vs H Q E h => ?_) (fun cdv A outer s H vs Q E hr h => ?_)
  · obtain ⟨r, c, m, rfl, _⟩ := h
    rfl
  obtain ⟨r, c, m, rfl, hr0, hm, q⟩ := h
  refine ⟨_, (@pss_cons _ _ _ _ _ (@ps_set _ _ 2 _ _ _ _ sc_law_names.nd rfl (Or.inr rfl) (pe_call G_law_digit (hr.mono (by first | decide | omega)) rfl D_law_digit.m D_law_digit.F.kp D_law_digit.b .nil pass0 (@pa_cons _ _ _ _ _ (pv 0) (@pa_cons _ _ _ _ _ pe_int pa_nil (by rfl)) (by rfl))) (by rfl) (by first | exact .inl rfl | exact .inr rfl | assumption)) (@pss_cons _ _ _ _ _ (@ps_set _ _ 3 _ _ _ _ sc_law_names.nd rfl (Or.inr rfl) (@pe_ix _ _ _ _ _ _ _ (ix_listK (K := K) rfl) (@pe_lst _ _ _ _ (@pa_cons _ _ _ _ _ pe_str (@pa_cons _ _ _ _ _ pe_str (@pa_cons _ _ _ _ _ pe_str (@pa_cons _ _ _ _ _ pe_str pa_nil (by rfl)) (by rfl)) (by rfl)) (by rfl))) (pe_call G_law_digit (hr.mono (by first | decide | omega)) rfl D_law_digit.m D_law_digit.F.kp D_law_digit.b .nil pass0 (@pa_cons _ _ _ _ _ (pv 0) (@pa_cons _ _ _ _ _ pe_int pa_nil (by rfl)) (by rfl))) (fun _ _ => rfl)) (by rfl) (by first | exact .inl rfl | exact .inr rfl | assumption)) (@pss_cons _ _ _ _ _ (@ps_set _ _ 4 _ _ _ _ sc_law_names.nd rfl (Or.inl rfl) (pe_call G_law_digit (hr.mono (by first | decide | omega)) rfl D_law_digit.m D_law_digit.F.kp D_law_digit.b .nil pass0 (@pa_cons _ _ _ _ _ (pv 0) (@pa_cons _ _ _ _ _ pe_int pa_nil (by rfl)) (by rfl))) (by rfl) (by first | exact .inl rfl | exact .inr rfl | assumption)) (@pss_cons _ _ _ _ _ (@ps_if _ _ _ _ _ _ _ _ (pt_cmpR op_eq (pv 4) pe_int (nomark _)) (@pss_one _ _ _ (@ps_ret _ _ _ _ (pe_comp rfl (cs0 (NL := ["k"]) rfl (by decide +kernel) (by decide +kernel)) (pi_range1 rfl T.z_range (@pa_cons _ _ _ _ _ (pv 1) pa_nil (by rfl))) (fun _ _ _ _ => (pg_name (i := 0) (show List.Nodup (α := Str) ["k"] by decide +kernel) rfl (Or.inl rfl))) (fun _ _ _ _ => (pe_slice sl_str pe_str po_none (po_some (@pe_op _ _ _ _ _ _ _ _ op_add (pv 0) pe_int))))))) pss_nil) (@pss_cons _ _ _ _ _ (@ps_if _ _ _ _ _ _ _ _ (pt_cmpR op_eq (pv 4) pe_int (nomark _)) (@pss_cons _ _ _ _ _ (@ps_set _ _ 5 _ _ _ _ sc_law_names.nd rfl (Or.inr rfl) (@pe_lst _ _ _ _ (@pa_cons _ _ _ _ _ pe_str (@pa_cons _ _ _ _ _ pe_str (@pa_cons _ _ _ _ _ pe_str (@pa_cons _ _ _ _ _ pe_str (@pa_cons _ _ _ _ _ pe_str (@pa_cons _ _ _ _ _ pe_str (@pa_cons _ _ _ _ _ pe_str (@pa_cons _ _ _ _ _ pe_str pa_nil (by rfl)) (by rfl)) (by rfl)) (by rfl)) (by rfl)) (by rfl)) (by rfl)) (by rfl))) (by rfl) (by first | exact .inl rfl | exact .inr rfl | assumption)) (@pss_one _ _ _ (@ps_ret _ _ _ _ (pe_callB call_sortS rfl T.z_sorted boot_sorted (@pa_cons _ _ _ _ _ (pe_comp rfl (csR (sc := defScope s_law_names) (NL := ["k"]) (N := ["row", "many", "base", "tail", "way", "words"]) (ρ := [2, 5]) (N' := ["k", "base", "words"]) rfl rfl rfl (by decide +kernel) (by decide +kernel) (by decide +kernel) rfl (by decide +kernel)) (pi_range1 rfl T.z_range (@pa_cons _ _ _ _ _ (pv 1) pa_nil (by rfl))) (fun _ _ _ _ => (pg_name (i := 0) (show List.Nodup (α := Str) ["k", "base", "words"] by decide +kernel) rfl (Or.inl rfl))) (fun _ _ _ _ => (@pe_ix _ _ _ _ _ _ _ (ix_listK (K := K) rfl) (pv 2) (@pe_op _ _ _ _ _ _ _ _ op_mod (@pe_op _ _ _ _ _ _ _ _ op_add (pv 1) (pv 0)) pe_int) (fun _ _ => rfl)))) pa_nil (by rfl)))))) pss_nil) (@pss_one _ _ _ (@ps_ret _ _ _ _ (pe_callB call_sortS rfl T.z_sorted boot_sorted (@pa_cons _ _ _ _ _ (pe_comp rfl (csR (sc := defScope s_law_names) (NL := ["k"]) (N := ["row", "many", "base", "tail", "way", "words"]) (ρ := [2, 3]) (N' := ["k", "base", "tail"]) rfl rfl rfl (by decide +kernel) (by decide +kernel) (by decide +kernel) rfl (by decide +kernel)) (pi_range1 rfl T.z_range (@pa_cons _ _ _ _ _ (pv 1) pa_nil (by rfl))) (fun _ _ _ _ => (pg_name (i := 0) (show List.Nodup (α := Str) ["k", "base", "tail"] by decide +kernel) rfl (Or.inl rfl))) (fun _ _ _ _ => (@pe_op _ _ _ _ _ _ _ _ op_add_str (@pe_ix _ _ _ _ _ _ _ ix_str pe_str (@pe_op _ _ _ _ _ _ _ _ op_mod (@pe_op _ _ _ _ _ _ _ _ op_add (pv 1) (@pe_op _ _ _ _ _ _ _ _ op_mul pe_int (pv 0))) pe_int) (fun _ _ => rfl)) (pv 2)))) pa_nil (by rfl)))))))))), ?_⟩
  refine ⟨_, rfl, r, c, 26, rfl, hr0, by decide, by decide, ?_⟩
  obtain ⟨b0, b1⟩ := mod_lt c (m := 26) (by decide)
  obtain ⟨b, hb⟩ : ∃ b : Nat, ((b : Nat) : Int) = c % 26 := ⟨(c % 26).toNat, by omega⟩
  have b26 : b < 26 := by omega
  rw [← hb]
  refine ⟨(by show 4 ≤ sizeLine; decide), fun pl hpl => ?_⟩
  have hrp : r ≠ pl := fun e => by rw [← e, upd_same] at hpl; cases hpl
  have hplH : H pl = none := by rw [upd_ne hrp.symm] at hpl; exact hpl
  refine ⟨_, rfl, r, c / 26, 4, rfl, by rw [upd_ne hrp]; exact upd_same, by decide, by decide, ?_⟩
  obtain ⟨t0, t1⟩ := mod_lt (c / 26) (m := 4) (by decide)
  refine ⟨pl, _, _, _, rfl, rfl, SqL.of (by rw [upd_ne hrp.symm]; exact upd_same), at_getD V.str tails _ "" t0 t1, ?_⟩
  have ht : tails.getD (c / 26 % 4).toNat "" ∈ tails := by
    rw [getD_at (show (c / 26 % 4).toNat < tails.length by show _ < 4; omega)]
    exact List.getElem_mem _
  generalize tails.getD (c / 26 % 4).toNat "" = t at ht
  refine ⟨_, rfl, r, c / 26 / 4, 5, rfl, upd_same, by decide, by decide, ?_⟩
  have B1 := (((But.put (H := H) (r := r) (o := .lst [.int (c / 26)])).trans (But.same (same_new hpl (.lst [.str "", .str "a", .str "zz", .str "eachone"])))).trans (But.put (o := .lst [.int (c / 26 / 4)]))).trans (But.put (o := .lst [.int (c / 26 / 4 / 5)]))
  have r1 : (upd (upd (upd (upd H r (.lst [.int (c / 26)])) pl (.lst [.str "", .str "a", .str "zz", .str "eachone"])) r (.lst [.int (c / 26 / 4)])) r (.lst [.int (c / 26 / 4 / 5)])) r = some (.lst [.int (c / 26 / 4 / 5)]) := upd_same
  have mN : ((m : Nat) : Int).toNat = m := Int.toNat_natCast m
  have free : ∀ {l : Addr} {Hx : Hp}, But r H Hx → r ≠ l → Hx l = none → H l = none := fun {l Hx} B n e => by
    cases e' : H l with
    | none => rfl
    | some o => rw [B l o n.symm e'] at e; cases e
  refine ⟨_, rfl, rfl, _, rfl, ite2 (fun c1 => ?_) (fun c1 => ?_)⟩
  · refine ⟨_, rfl, (m : Int), rfl, by omega, by omega, fun l hln => ?_⟩
    rw [mN]
    have lr : r ≠ l := ne_of_none r1 hln
    have lH : H l = none := free B1 lr hln
    refine comp_rangeR (fun i ys σ H' => i ≤ 8 ∧ ys = ((List.range i).map f1).map V.str ∧ But r H H' ∧ H' r = some (.lst [.int (c / 26 / 4 / 5)]) ∧ H' l = some (.lst ys) ∧ σ.length = 1) ⟨Nat.zero_le _, rfl, B1.trans (But.same (same_new hln _)), (by rw [upd_ne lr]; exact r1), upd_same, rfl⟩ ?_ ?_
    · rintro i ys σ H' N hi ⟨h8, rfl, B2, r2, l2, hσ⟩ next
      match σ, hσ with
      | [_], _ =>
        exact ⟨_, rfl, _, _, rfl, rfl, _, rfl, _, rfl, (by decide), l2, range_few f1 (by omega), next _ _ _ ⟨by omega, range_next f1 i, but_upd B2 lH, (by rw [upd_ne lr]; exact r2), upd_same, rfl⟩⟩
    · rintro ys σ H' ⟨h8, rfl, B2, r2, l2, hσ⟩
      obtain ⟨u1, u2⟩ := fact1 m (by omega)
      exact q l _ _ _ B2 lH r2 l2 ⟨by rw [List.length_map, List.length_range], u1, u2⟩
  refine ⟨_, rfl, rfl, _, rfl, ite2 (fun c2 => ?_) (fun c2 => ?_)⟩
  · refine ⟨(by show 8 ≤ sizeLine; decide), fun pw hpw => ?_⟩
    have wr : r ≠ pw := ne_of_none r1 hpw
    have wH : H pw = none := free B1 wr hpw
    refine ⟨_, rfl, (m : Int), rfl, by omega, by omega, fun l hln => ?_⟩
    rw [mN]
    have r2 := (same_new hpw (.lst (words8.map V.str))) _ _ r1
    have lr : r ≠ l := ne_of_none r2 hln
    have lw : pw ≠ l := ne_of_none (upd_same (o := .lst (words8.map V.str))) hln
    have lH : H l = none := free (B1.trans (But.same (same_new hpw _))) lr hln
    refine comp_rangeR (fun i ys σ H' => i ≤ 8 ∧ ys = ((List.range i).map (f2 b)).map V.str ∧ But r H H' ∧ H' r = some (.lst [.int (c / 26 / 4 / 5)]) ∧ H' l = some (.lst ys) ∧ H' pw = some (.lst (words8.map V.str)) ∧ ∃ v, σ = [v, some (.int b), some (.ref pw)]) ⟨Nat.zero_le _, rfl, (B1.trans (But.same (same_new hpw _))).trans (But.same (same_new hln _)), (by rw [upd_ne lr]; exact r2), upd_same, (by rw [upd_ne lw]; exact upd_same), _, rfl⟩ ?_ ?_
    · rintro i ys σ H' N hi ⟨h8, rfl, B2, r2, l2, w2, v, rfl⟩ next
      exact ⟨_, rfl, _, rfl, _, rfl, _, _, rfl, rfl, _, _, rfl, rfl, (show (0 : Int) < 8 by decide), pw, _, _, _, rfl, rfl, SqL.of w2, f2_at, l2, range_few (f2 b) (by omega), next _ _ _ ⟨by omega, range_next (f2 b) i, but_upd B2 lH, (by rw [upd_ne lr]; exact r2), upd_same, (by rw [upd_ne lw]; exact w2), _, rfl⟩⟩
    · rintro ys σ H' ⟨h8, rfl, B2, r2, l2, w2, v, rfl⟩
      obtain ⟨u1, u2⟩ := part8 hm (fact2 b b26)
      refine ⟨l, _, rfl, SqL.of l2, by rw [List.length_map, List.length_range]; omega, fun a ss' ha hp hs => ?_⟩
      have ar : r ≠ a := ne_of_none r2 ha
      have n := nam_sorted hp hs u1 u2
      rw [List.length_map, List.length_range] at n
      exact q a ss' _ _ (B2.trans (But.same (same_new ha _))) (free B2 ar ha) (by rw [upd_ne ar]; exact r2) upd_same n
  · refine ⟨_, rfl, (m : Int), rfl, by omega, by omega, fun l hln => ?_⟩
    rw [mN]
    have lr : r ≠ l := ne_of_none r1 hln
    have lH : H l = none := free B1 lr hln
    refine comp_rangeR (fun i ys σ H' => i ≤ 8 ∧ ys = ((List.range i).map (f3 b t)).map V.str ∧ But r H H' ∧ H' r = some (.lst [.int (c / 26 / 4 / 5)]) ∧ H' l = some (.lst ys) ∧ ∃ v, σ = [v, some (.int b), some (.str t)]) ⟨Nat.zero_le _, rfl, B1.trans (But.same (same_new hln _)), (by rw [upd_ne lr]; exact r1), upd_same, _, rfl⟩ ?_ ?_
    · rintro i ys σ H' N hi ⟨h8, rfl, B2, r2, l2, v, rfl⟩ next
      have tl : t.length ≤ 10 := (show ∀ t ∈ tails, t.length ≤ 10 by decide +kernel) t ht
      exact ⟨_, rfl, _, rfl, _, _, rfl, rfl, .inl ⟨by decide, by decide⟩, _, _, rfl, rfl, _, _, rfl, rfl, (show (0 : Int) < 26 by decide), _, _, _, rfl, rfl, (by decide), f3_at, _, rfl, _, _, rfl, rfl, small (by show 1 + t.length ≤ 1000; omega), l2, range_few (f3 b t) (by omega), next _ _ _ ⟨by omega, range_next (f3 b t) i, but_upd B2 lH, (by rw [upd_ne lr]; exact r2), upd_same, _, rfl⟩⟩
    · rintro ys σ H' ⟨h8, rfl, B2, r2, l2, v, rfl⟩
      obtain ⟨u1, u2⟩ := part8 hm (fact3 b b26 t ht)
      refine ⟨l, _, rfl, SqL.of l2, by rw [List.length_map, List.length_range]; omega, fun a ss' ha hp hs => ?_⟩
      have ar : r ≠ a := ne_of_none r2 ha
      have n := nam_sorted hp hs u1 u2
      rw [List.length_map, List.length_range] at n
      exact q a ss' _ _ (B2.trans (But.same (same_new ha _))) (free B2 ar ha) (by rw [upd_ne ar]; exact r2) upd_same n
/-- a number kind as it is drawn -/
noncomputable def GenN (K : PySem.W.Frag) (r : Addr) (H : Hp) (Q : VK) : Prop := ∀ v (i j n' : Int) H', But r H H' → H' r = some (.lst [.int n']) → IsP K H' (.tup [.str "number", .int i, .int j]) v → FK 1 1 (.tup [.str "number", .int i, .int j]) → Q v H'
noncomputable def sp_law_number_kind (K : PySem.W.Frag) (_ : Ads) : Sp := fun vs H Q _ => ∃ (r : Addr) (c : Int), vs = [.ref r] ∧ H r = some (.lst [.int c]) ∧ GenN K r H Q
theorem p30 : (10 : Int) ^ (30 : Int).toNat = 1000000000000000000000000000000 := by decide +kernel
theorem p29 : (10 : Int) ^ (29 : Int).toNat = 100000000000000000000000000000 := by decide +kernel
theorem pickM {ns : List Int} {d : Int} (h0 : 0 ≤ d) (h1 : d < (ns.length : Int)) : ∃ i : Int, i ∈ ns ∧ atI (ns.map V.int) d = some (.int i) := by
  obtain ⟨v, hv, e⟩ := pick (xs := ns.map V.int) h0 (by rw [List.length_map]; exact h1)
  obtain ⟨i, hi, rfl⟩ := List.mem_map.mp hv
  exact ⟨i, hi, e⟩
theorem pick2 (a b : Int) (k : Bool) : ∃ i : Int, (i = a ∨ i = b) ∧ atI [V.int a, V.int b] (if k = true then 1 else 0) = some (.int i) := by
  cases k with
  | true => exact ⟨b, .inr rfl, rfl⟩
  | false => exact ⟨a, .inl rfl, rfl⟩
theorem ok_law_number_kind (T : Tx K mg ad) {f : Addr} {fd : FuncData} (F : Gn K mg "_law_number_kind" s_law_number_kind ["row"] f fd) : FnOk P w K mg base CX0 2 f fd ["row"] (sp_law_number_kind K ad) := by
  obtain ⟨f_law_digit, fd_law_digit, D_law_digit⟩ := T.law_digit
  have G_law_digit := ok_law_digit (P := P) (w := w) (base := base) T D_law_digit
  refine F.F.ok sc_law_number_kind (fun vs H Q E h => ?_) (fun cdv A outer s H vs Q E hr h => ?_)
  · obtain ⟨r, c, rfl, _⟩ := h
    rfl
  obtain ⟨r, c, rfl, hr0, q⟩ := h
  refine ⟨_, (@pss_cons _ _ _ _ _ (@ps_set _ _ 1 _ _ _ _ sc_law_number_kind.nd rfl (Or.inl rfl) (@pe_ix _ _ _ _ _ _ _ (ix_listK (K := K) rfl) (@pe_lst _ _ _ _ (@pa_cons _ _ _ _ _ (@pe_op _ _ _ _ _ _ _ _ op_sub (pe_call G_law_digit (hr.mono (by first | decide | omega)) rfl D_law_digit.m D_law_digit.F.kp D_law_digit.b .nil pass0 (@pa_cons _ _ _ _ _ (pv 0) (@pa_cons _ _ _ _ _ pe_int pa_nil (by rfl)) (by rfl))) pe_int) (@pa_cons _ _ _ _ _ (@pe_op _ _ _ _ _ _ _ _ op_sub (pe_call G_law_digit (hr.mono (by first | decide | omega)) rfl D_law_digit.m D_law_digit.F.kp D_law_digit.b .nil pass0 (@pa_cons _ _ _ _ _ (pv 0) (@pa_cons _ _ _ _ _ (@pe_op _ _ _ _ _ _ _ _ op_add (@pe_op _ _ _ _ _ _ _ _ op_mulB pe_int (@pe_op _ _ _ _ _ _ _ _ op_pow pe_int pe_int)) pe_int) pa_nil (by rfl)) (by rfl))) (@pe_op _ _ _ _ _ _ _ _ op_pow pe_int pe_int)) pa_nil (by rfl)) (by rfl))) (pe_callTy call_int1 rfl T.z_int boot_int (@pa_cons _ _ _ _ _ (pe_cmpR op_eq (pe_call G_law_digit (hr.mono (by first | decide | omega)) rfl D_law_digit.m D_law_digit.F.kp D_law_digit.b .nil pass0 (@pa_cons _ _ _ _ _ (pv 0) (@pa_cons _ _ _ _ _ pe_int pa_nil (by rfl)) (by rfl))) pe_int (nomark _)) pa_nil (by rfl))) (fun _ _ => rfl)) (by rfl) (by first | exact .inl rfl | exact .inr rfl | assumption)) (@pss_cons _ _ _ _ _ (@ps_set _ _ 2 _ _ _ _ sc_law_number_kind.nd rfl (Or.inl rfl) (pe_callB (call_min2 rfl) rfl T.z_min boot_min (@pa_cons _ _ _ _ _ (@pe_op _ _ _ _ _ _ _ _ op_pow pe_int pe_int) (@pa_cons _ _ _ _ _ (@pe_op _ _ _ _ _ _ _ _ op_add (pv 1) (@pe_ix _ _ _ _ _ _ _ (ix_listK (K := K) rfl) (@pe_lst _ _ _ _ (@pa_cons _ _ _ _ _ (pe_call G_law_digit (hr.mono (by first | decide | omega)) rfl D_law_digit.m D_law_digit.F.kp D_law_digit.b .nil pass0 (@pa_cons _ _ _ _ _ (pv 0) (@pa_cons _ _ _ _ _ pe_int pa_nil (by rfl)) (by rfl))) (@pa_cons _ _ _ _ _ (@pe_op _ _ _ _ _ _ _ _ op_pow pe_int pe_int) (@pa_cons _ _ _ _ _ (pe_call G_law_digit (hr.mono (by first | decide | omega)) rfl D_law_digit.m D_law_digit.F.kp D_law_digit.b .nil pass0 (@pa_cons _ _ _ _ _ (pv 0) (@pa_cons _ _ _ _ _ pe_int pa_nil (by rfl)) (by rfl))) pa_nil (by rfl)) (by rfl)) (by rfl))) (pe_call G_law_digit (hr.mono (by first | decide | omega)) rfl D_law_digit.m D_law_digit.F.kp D_law_digit.b .nil pass0 (@pa_cons _ _ _ _ _ (pv 0) (@pa_cons _ _ _ _ _ pe_int pa_nil (by rfl)) (by rfl))) (fun _ _ => rfl))) pa_nil (by rfl)) (by rfl))) (by rfl) (by first | exact .inl rfl | exact .inr rfl | assumption)) (@pss_one _ _ _ (@ps_ret _ _ _ _ (@pe_tupPK _ K _ _ _ _ rfl (@pa_cons _ _ _ _ _ pe_str (@pa_cons _ _ _ _ _ (pv 1) (@pa_cons _ _ _ _ _ (pv 2) pa_nil (by rfl)) (by rfl)) (by rfl))))))), ?_⟩
  refine ⟨_, rfl, r, c, 12, rfl, hr0, by decide, by decide, _, _, rfl, rfl, ?_⟩
  obtain ⟨a0, a1⟩ := mod_lt c (m := 12) (by decide)
  refine ⟨_, rfl, _, _, rfl, rfl, ⟨by decide, by decide, by decide⟩, ?_⟩
  have m30 : (0 : Int) < 2 * 10 ^ (30 : Int).toNat + 1 := by rw [p30]; decide
  refine ⟨_, _, rfl, rfl, mulOk_of_bits (m := 2) (n := 100) (by decide +kernel) (by decide +kernel) (by decide), _, _, rfl, rfl, r, c / 12, 2 * 10 ^ (30 : Int).toNat + 1, rfl, upd_same, m30, by rw [p30]; decide, ?_⟩
  obtain ⟨d0, d1⟩ := mod_lt (c / 12) m30
  refine ⟨_, _, rfl, rfl, ⟨by decide, by decide, by decide⟩, _, _, rfl, rfl, (by show 2 ≤ sizeLine; decide), fun p hp => ?_⟩
  have hrp : r ≠ p := fun e => by rw [← e, upd_same] at hp; cases hp
  obtain ⟨low, hlow, elow⟩ := pick2 (c % 12 - 6) (c / 12 % (2 * 10 ^ (30 : Int).toNat + 1) - 10 ^ (30 : Int).toNat) (decide (V.int (c / 12 / (2 * 10 ^ (30 : Int).toNat + 1) % 4) = V.int 1))
  have l0 : -1000000000000000000000000000000 ≤ low := by
    rw [p30] at hlow d0 d1
    rcases hlow with h | h <;> omega
  have l1 : low ≤ 1000000000000000000000000000000 := by
    rw [p30] at hlow d0 d1
    rcases hlow with h | h <;> omega
  refine ⟨_, rfl, r, c / 12 / (2 * 10 ^ (30 : Int).toNat + 1), 4, rfl, (by rw [upd_ne hrp]; exact upd_same), by decide, by decide, rfl, .inr ⟨_, rfl, p, _, _, _, rfl, rfl, SqL.of (by rw [upd_ne hrp.symm]; exact upd_same), elow, ?_⟩⟩
  have B1 := (((But.put (H := H) (r := r) (o := .lst [.int (c / 12)])).trans (But.put (o := .lst [.int (c / 12 / (2 * 10 ^ (30 : Int).toNat + 1))]))).trans (But.same (same_new hp (.lst [.int (c % 12 - 6), .int (c / 12 % (2 * 10 ^ (30 : Int).toNat + 1) - 10 ^ (30 : Int).toNat)])))).trans (But.put (o := .lst [.int (c / 12 / (2 * 10 ^ (30 : Int).toNat + 1) / 4)]))
  generalize hc2 : c / 12 / (2 * 10 ^ (30 : Int).toNat + 1) / 4 = c2 at B1
  refine ⟨_, _, rfl, rfl, ⟨by decide, by decide, by decide⟩, _, rfl, _, rfl, r, c2, 9, rfl, hc2 ▸ upd_same, by decide, by decide, _, _, rfl, rfl, ⟨by decide, by decide, by decide⟩, _, rfl, r, c2 / 9, 2, rfl, upd_same, by decide, by decide, (by show 3 ≤ sizeLine; decide), fun p2 hp2 => ?_⟩
  have hrp2 : r ≠ p2 := fun e => by rw [← e, upd_same] at hp2; cases hp2
  obtain ⟨e0, e1⟩ := mod_lt (c2 / 9 / 2) (m := 3) (by decide)
  obtain ⟨x, hx, ex⟩ := pickM (ns := [c2 % 9, 10 ^ (29 : Int).toNat, c2 / 9 % 2]) e0 e1
  have x0 : 0 ≤ x := by
    have h1 := (mod_lt c2 (m := 9) (by decide)).1
    have h2 := (mod_lt (c2 / 9) (m := 2) (by decide)).1
    simp only [p29, List.mem_cons, List.not_mem_nil, or_false] at hx
    omega
  refine ⟨_, rfl, r, c2 / 9 / 2, 3, rfl, (by rw [upd_ne hrp2]; exact upd_same), by decide, by decide, p2, _, _, _, rfl, rfl, SqL.of (by rw [upd_ne hrp2.symm]; exact upd_same), ex, _, _, rfl, rfl, _, _, rfl, ?_⟩
  refine ⟨_, rfl, _, rfl, [.str "number", .int low, .int _], .cons .str (.cons .int (.cons .int .nil)), (by show 3 ≤ sizeLine; decide), fun v H4 g4 hv => ?_⟩
  refine q v low _ (c2 / 9 / 2 / 3) H4 ?_ (g4 _ _ upd_same) hv (.number _ _ l0 ?_ ?_)
  · exact ((((B1.trans But.put).trans But.put).trans (But.same (same_new hp2 _))).trans But.put).trans (But.same g4)
  · rw [p30]
    split <;> omega
  · rw [p30]
    split <;> omega
/-- a kind as it is drawn, the row moved on -/
noncomputable def GenL (K : PySem.W.Frag) (r : Addr) (H : Hp) (Q : VK) : Prop := ∀ v d (n' : Int) H', But r H H' → H' r = some (.lst [.int n']) → IsP K H' d v → FK 1 1 d → Q v H'
noncomputable def sp_law_leaf_kind (K : PySem.W.Frag) (_ : Ads) : Sp := fun vs H Q _ => ∃ (r : Addr) (c : Int), vs = [.ref r] ∧ H r = some (.lst [.int c]) ∧ GenL K r H Q
theorem Nam.words {m : Nat} {ss : List Str} (h : Nam m ss) (h1 : 1 ≤ m) (h8 : m ≤ 8) : wordsB ss = true ∧ wordsB ss.reverse = true := by
  have l := h.len
  have nd := lt_nodup h.asc
  have al : ss.all nameB = true := List.all_eq_true.mpr fun z hz => (h.ok z hz).1
  constructor
  · simp only [wordsB, Bool.and_eq_true, decide_eq_true_eq]
    exact ⟨⟨⟨by omega, by omega⟩, al⟩, nd⟩
  · simp only [wordsB, Bool.and_eq_true, decide_eq_true_eq, List.length_reverse, List.all_reverse]
    exact ⟨⟨⟨by omega, by omega⟩, al⟩, List.pairwise_reverse.mpr (nd.imp fun n e => n e.symm)⟩
theorem strs_is {K : PySem.W.Frag} {H : Hp} : ∀ ss : List Str, IsPs K H (ss.map Dt.str) (ss.map V.str)
  | [] => .nil
  | z :: ss => .cons .str (strs_is ss)
theorem ok_law_leaf_kind (T : Tx K mg ad) {f : Addr} {fd : FuncData} (F : Gn K mg "_law_leaf_kind" s_law_leaf_kind ["row"] f fd) : FnOk P w K mg base CX0 3 f fd ["row"] (sp_law_leaf_kind K ad) := by
  obtain ⟨f_law_digit, fd_law_digit, D_law_digit⟩ := T.law_digit
  have G_law_digit := ok_law_digit (P := P) (w := w) (base := base) T D_law_digit
  obtain ⟨f_law_number_kind, fd_law_number_kind, D_law_number_kind⟩ := T.law_number_kind
  have G_law_number_kind := ok_law_number_kind (P := P) (w := w) (base := base) T D_law_number_kind
  obtain ⟨f_law_names, fd_law_names, D_law_names⟩ := T.law_names
  have G_law_names := ok_law_names (P := P) (w := w) (base := base) T D_law_names
  refine F.F.ok sc_law_leaf_kind (fun vs H Q E h => ?_) (fun cdv A outer s H vs Q E hr h => ?_)
  · obtain ⟨r, c, rfl, _⟩ := h
    rfl
  obtain ⟨r, c, rfl, hr0, q⟩ := h
  refine ⟨_, (@pss_cons _ _ _ _ _ (@ps_set _ _ 1 _ _ _ _ sc_law_leaf_kind.nd rfl (Or.inl rfl) (pe_call G_law_digit (hr.mono (by first | decide | omega)) rfl D_law_digit.m D_law_digit.F.kp D_law_digit.b .nil pass0 (@pa_cons _ _ _ _ _ (pv 0) (@pa_cons _ _ _ _ _ pe_int pa_nil (by rfl)) (by rfl))) (by rfl) (by first | exact .inl rfl | exact .inr rfl | assumption)) (@pss_cons _ _ _ _ _ (@ps_if _ _ _ _ _ _ _ _ (pt_cmpR op_eq (pv 1) pe_int (nomark _)) (@pss_one _ _ _ (@ps_ret _ _ _ _ (pe_call G_law_number_kind (hr.mono (by first | decide | omega)) rfl D_law_number_kind.m D_law_number_kind.F.kp D_law_number_kind.b .nil pass0 (@pa_cons _ _ _ _ _ (pv 0) pa_nil (by rfl))))) pss_nil) (@pss_cons _ _ _ _ _ (@ps_if _ _ _ _ _ _ _ _ (pt_cmpR op_eq (pv 1) pe_int (nomark _)) (@pss_one _ _ _ (@ps_ret _ _ _ _ (@pe_tupPK _ K _ _ _ _ rfl (@pa_cons _ _ _ _ _ pe_str (@pa_cons _ _ _ _ _ (@pe_ix _ _ _ _ _ _ _ (ix_listK (K := K) rfl) (@pe_lst _ _ _ _ (@pa_cons _ _ _ _ _ (pe_call G_law_digit (hr.mono (by first | decide | omega)) rfl D_law_digit.m D_law_digit.F.kp D_law_digit.b .nil pass0 (@pa_cons _ _ _ _ _ (pv 0) (@pa_cons _ _ _ _ _ pe_int pa_nil (by rfl)) (by rfl))) (@pa_cons _ _ _ _ _ (pe_call G_law_digit (hr.mono (by first | decide | omega)) rfl D_law_digit.m D_law_digit.F.kp D_law_digit.b .nil pass0 (@pa_cons _ _ _ _ _ (pv 0) (@pa_cons _ _ _ _ _ pe_int pa_nil (by rfl)) (by rfl))) pa_nil (by rfl)) (by rfl))) (pe_call G_law_digit (hr.mono (by first | decide | omega)) rfl D_law_digit.m D_law_digit.F.kp D_law_digit.b .nil pass0 (@pa_cons _ _ _ _ _ (pv 0) (@pa_cons _ _ _ _ _ pe_int pa_nil (by rfl)) (by rfl))) (fun _ _ => rfl)) pa_nil (by rfl)) (by rfl))))) pss_nil) (@pss_cons _ _ _ _ _ (@ps_set _ _ 2 _ _ _ _ sc_law_leaf_kind.nd rfl (Or.inl rfl) (pe_call G_law_names (hr.mono (by first | decide | omega)) rfl D_law_names.m D_law_names.F.kp D_law_names.b .nil pass0 (@pa_cons _ _ _ _ _ (pv 0) (@pa_cons _ _ _ _ _ (@pe_op _ _ _ _ _ _ _ _ op_add pe_int (pe_call G_law_digit (hr.mono (by first | decide | omega)) rfl D_law_digit.m D_law_digit.F.kp D_law_digit.b .nil pass0 (@pa_cons _ _ _ _ _ (pv 0) (@pa_cons _ _ _ _ _ pe_int pa_nil (by rfl)) (by rfl)))) pa_nil (by rfl)) (by rfl))) (by rfl) (by first | exact .inl rfl | exact .inr rfl | assumption)) (@pss_cons _ _ _ _ _ (@ps_if _ _ _ _ _ _ _ _ (pt_cmpR op_eq (pe_call G_law_digit (hr.mono (by first | decide | omega)) rfl D_law_digit.m D_law_digit.F.kp D_law_digit.b .nil pass0 (@pa_cons _ _ _ _ _ (pv 0) (@pa_cons _ _ _ _ _ pe_int pa_nil (by rfl)) (by rfl))) pe_int (nomark _)) (@pss_one _ _ _ (@ps_expr _ _ _ _ (pe_bm0 PySem.F.plainAttrs_list PySem.F.slot_list_reverse PySem.F.type_list_reverse mt_reverse (pv 2)) (by rfl))) pss_nil) (@pss_one _ _ _ (@ps_ret _ _ _ _ (@pe_tupPK _ K _ _ _ _ rfl (@pa_cons _ _ _ _ _ pe_str (@pa_cons _ _ _ _ _ (pe_callTy (call_tuplePN (K := K) rfl) rfl T.z_tuple boot_tuple (@pa_cons _ _ _ _ _ (pv 2) pa_nil (by rfl))) pa_nil (by rfl)) (by rfl)))))))))), ?_⟩
  refine ⟨_, rfl, r, c, 3, rfl, hr0, by decide, by decide, ?_⟩
  have B1 := But.put (H := H) (r := r) (o := .lst [.int (c / 3)])
  refine ⟨_, rfl, rfl, _, rfl, ite2 (fun c1 => ?_) (fun c1 => ?_)⟩
  · exact ⟨_, rfl, r, c / 3, rfl, upd_same, fun v i j n' H' b e hv fk => q v _ n' H' (B1.trans b) e hv fk⟩
  refine ⟨_, rfl, rfl, _, rfl, ite2 (fun c2 => ?_) (fun c2 => ?_)⟩
  · refine ⟨_, rfl, r, c / 3, 4, rfl, upd_same, by decide, by decide, _, rfl, r, c / 3 / 4, 61, rfl, upd_same, by decide, by decide, (by show 2 ≤ sizeLine; decide), fun p hp => ?_⟩
    have hrp : r ≠ p := fun e => by rw [← e, upd_same] at hp; cases hp
    obtain ⟨e0, e1⟩ := mod_lt (c / 3 / 4 / 61) (m := 2) (by decide)
    obtain ⟨x, hx, ex⟩ := pickM (ns := [c / 3 % 4, c / 3 / 4 % 61]) e0 e1
    have xb : 0 ≤ x ∧ x ≤ 60 := by
      have h1 := mod_lt (c / 3) (m := 4) (by decide)
      have h2 := mod_lt (c / 3 / 4) (m := 61) (by decide)
      simp only [List.mem_cons, List.not_mem_nil, or_false] at hx
      omega
    refine ⟨_, rfl, r, c / 3 / 4 / 61, 2, rfl, (by rw [upd_ne hrp]; exact upd_same), by decide, by decide, p, _, _, _, rfl, rfl, SqL.of (by rw [upd_ne hrp.symm]; exact upd_same), ex, ?_⟩
    refine ⟨[.str "text", .int x], .cons .str (.cons .int .nil), (by show 2 ≤ sizeLine; decide), fun v H4 g4 hv => ?_⟩
    exact q v _ (c / 3 / 4 / 61 / 2) H4 (((((B1.trans But.put).trans But.put).trans (But.same (same_new hp _))).trans But.put).trans (But.same g4)) (g4 _ _ upd_same) hv (.text x xb.1 xb.2)
  · obtain ⟨m0, m1⟩ := mod_lt (c / 3) (m := 8) (by decide)
    obtain ⟨m, hm⟩ : ∃ m : Nat, ((m : Nat) : Int) = 1 + c / 3 % 8 := ⟨(1 + c / 3 % 8).toNat, by omega⟩
    refine ⟨_, rfl, _, rfl, r, c / 3, 8, rfl, upd_same, by decide, by decide, _, _, rfl, rfl, ?_⟩
    refine ⟨r, c / 3 / 8, m, (by show [V.ref r, V.int (1 + c / 3 % 8)] = _; rw [hm]), upd_same, by omega, fun p ss c' H2 b2 hp r2 p2 nam => ?_⟩
    have B2 := (B1.trans But.put).trans b2
    have hpH : H p = none := by
      cases e : H p with
      | none => rfl
      | some o =>
        have : r ≠ p := fun h => by rw [← h, upd_same] at hp; cases hp
        rw [upd_ne this.symm, upd_ne this.symm, e] at hp
        cases hp
    have hrp : r ≠ p := fun h => by rw [← h, hr0] at hpH; cases hpH
    obtain ⟨w1, w2⟩ := nam.words (by omega) (by omega)
    refine ⟨_, rfl, r, c', 2, rfl, r2, by decide, by decide, rfl, _, rfl, ite2 (fun c3 => ?_) (fun c3 => ?_)⟩
    · have p3 : (upd H2 r (.lst [.int (c' / 2)])) p = some (.lst (ss.map V.str)) := by rw [upd_ne hrp.symm]; exact p2
      refine ⟨_, rfl, .inl ⟨rfl, _, SqL.of p3⟩, p, _, rfl, rfl, p3, ?_⟩
      refine ⟨_, rfl, p, _, _, rfl, SqL.of upd_same, (by rw [← List.map_reverse]; exact strs_is ss.reverse), fun v H4 g4 hv => ?_⟩
      refine ⟨[.str "choice", .tup (ss.reverse.map Dt.str)], .cons .str (.cons hv .nil), (by show 2 ≤ sizeLine; decide), fun v5 H5 g5 hv5 => ?_⟩
      exact q v5 _ (c' / 2) H5 (((but_upd (B2.trans But.put) hpH).trans (But.same g4)).trans (But.same g5)) (g5 _ _ (g4 _ _ (by rw [upd_ne hrp]; exact upd_same))) hv5 (.choice _ w2)
    · refine ⟨_, rfl, p, _, _, rfl, SqL.of (by rw [upd_ne hrp.symm]; exact p2), strs_is ss, fun v H4 g4 hv => ?_⟩
      refine ⟨[.str "choice", .tup (ss.map Dt.str)], .cons .str (.cons hv .nil), (by show 2 ≤ sizeLine; decide), fun v5 H5 g5 hv5 => ?_⟩
      exact q v5 _ (c' / 2) H5 (((B2.trans But.put).trans (But.same g4)).trans (But.same g5)) (g5 _ _ (g4 _ _ upd_same)) hv5 (.choice ss w1)
/-- all but two as it was -/
noncomputable def But2 (r p : Addr) (H H' : Hp) : Prop := ∀ x o, x ≠ r → x ≠ p → H x = some o → H' x = some o
theorem But2.refl (r p : Addr) (H : Hp) : But2 r p H H := fun _ _ _ _ e => e
theorem But2.trans {r p : Addr} {H H' H'' : Hp} (a : But2 r p H H') (b : But2 r p H' H'') : But2 r p H H'' := fun x o h1 h2 e => b x o h1 h2 (a x o h1 h2 e)
theorem But2.one {r p : Addr} {H H' : Hp} (b : But r H H') : But2 r p H H' := fun x o h1 _ e => b x o h1 e
theorem But2.two {r p : Addr} {H H' : Hp} (b : But p H H') : But2 r p H H' := fun x o _ h2 e => b x o h2 e
theorem But2.same {r p : Addr} {H H' : Hp} (b : Same H H') : But2 r p H H' := fun x o _ _ e => b x o e
theorem But2.upd {r p l : Addr} {o : HO} {H H' : Hp} (b : But2 r p H H') (hl : H l = none) : But2 r p H (upd H' l o) := fun x u h1 h2 e => by rw [upd_ne (ne_of_none e hl)]; exact b x u h1 h2 e
theorem But2.mid {r p : Addr} {H H' : Hp} (b : But2 r p H H') : ∃ M : Hp, But r H M ∧ But p M H' ∧ M p = H p := by
  refine ⟨fun x => if x = p then H p else H' x, fun x o n e => ?_, fun x o n e => ?_, by simp⟩
  · by_cases h : x = p
    · subst h; simpa using e
    · simp only [if_neg h]; exact b x o n h e
  · simpa only [if_neg n] using e
theorem is_but2 {K : PySem.W.Frag} {r p : Addr} {H H' : Hp} {d : Dt} {v : V} {xs ys : List V} (hr : H r = some (.lst xs)) (hp : H p = some (.lst ys)) (b : But2 r p H H') (h : IsP K H d v) : IsP K H' d v := by
  obtain ⟨M, b1, b2, e⟩ := b.mid
  exact (h.but hr b1).but (e.trans hp) b2
theorem iss_but2 {K : PySem.W.Frag} {r p : Addr} {H H' : Hp} {d : List Dt} {v : List V} {xs ys : List V} (hr : H r = some (.lst xs)) (hp : H p = some (.lst ys)) (b : But2 r p H H') (h : IsPs K H d v) : IsPs K H' d v := by
  obtain ⟨M, b1, b2, e⟩ := b.mid
  exact (h.but hr b1).but (e.trans hp) b2
/-- how many more may hold kinds -/
noncomputable def bud (x : Int) : Nat := (x / 5).toNat
theorem bud_less (x : Int) : bud (x - 5) ≤ bud x := by unfold bud; omega
theorem bud_step {x : Int} (h : 0 ≤ x - 5) : bud x = bud (x - 5) + 1 := by unfold bud; omega
noncomputable def GenK (K : PySem.W.Frag) (r p : Addr) (H : Hp) (D u : Nat) (x : Int) (Q : VK) : Prop := ∀ v d a c (n' x' : Int) H', But2 r p H H' → H' r = some (.lst [.int n']) → H' p = some (.lst [.int x']) → IsP K H' d v → FK a c d → a ≤ D → c + 4 * bud x' ≤ u + 4 * bud x → Q v H'
noncomputable def skind (K : PySem.W.Frag) (n : Nat) : Sp := fun vs H Q _ => ∃ (r p : Addr) (c x : Int) (m : Nat), 1 ≤ m ∧ m ≤ n ∧ vs = [.ref r, .int m, .ref p] ∧ r ≠ p ∧ H r = some (.lst [.int c]) ∧ H p = some (.lst [.int x]) ∧ GenK K r p H m 1 x Q
noncomputable def srecord (K : PySem.W.Frag) (n : Nat) : Sp := fun vs H Q _ => ∃ (r p : Addr) (c x : Int) (m : Nat), 1 ≤ m ∧ m ≤ n ∧ vs = [.ref r, .int (m + 1 : Nat), .ref p] ∧ r ≠ p ∧ H r = some (.lst [.int c]) ∧ H p = some (.lst [.int x]) ∧ GenK K r p H (m + 1) 4 x Q
noncomputable def srows (K : PySem.W.Frag) (n : Nat) : Sp := fun vs H Q _ => ∃ (r p : Addr) (c x : Int) (m : Nat), 1 ≤ m ∧ m ≤ n ∧ vs = [.ref r, .int (m + 2 : Nat), .ref p] ∧ r ≠ p ∧ H r = some (.lst [.int c]) ∧ H p = some (.lst [.int x]) ∧ GenK K r p H (m + 2) 5 x Q
theorem sum_snoc : ∀ (l : List Nat) (n : Nat), sumN (l ++ [n]) = sumN l + n
  | [], n => by show n + 0 = 0 + n; omega
  | m :: l, n => by
    show m + sumN (l ++ [n]) = m + sumN l + n
    rw [sum_snoc l n]
    omega
theorem rec_fk {ss : List Str} {gs : List G4} {m D : Nat} (nam : Nam m ss) (h8 : m ≤ 8) (e : gs.map (·.1) = ss) (fk : ∀ g ∈ gs, FK g.2.2.1 g.2.2.2 g.2.1) (hd : ∀ g ∈ gs, g.2.2.1 ≤ D) :
    FK (maxN (gs.map (·.2.2.1)) + 1) (sumN (gs.map (·.2.2.2)) + 1) (.tup [.str "record", .tup (gs.map prG)]) ∧ maxN (gs.map (·.2.2.1)) + 1 ≤ D + 1 := by
  refine ⟨.rcd fk (by rw [e]; exact nam.asc) (fun g hg => ?_) ?_, ?_⟩
  · exact nam.ok g.1 (by rw [← e]; exact List.mem_map.mpr ⟨g, hg, rfl⟩)
  · have := congrArg List.length e
    rw [List.length_map, nam.len] at this
    omega
  · exact Nat.succ_le_succ (max_le fun n hn => by
      obtain ⟨g, hg, rfl⟩ := List.mem_map.mp hn
      exact hd g hg)
theorem ok_law_record_kind (T : Tx K mg ad) {f fk : Addr} {fd fdk : FuncData} (n : Nat) (F : Gn K mg "_law_record_kind" s_law_record_kind ["row", "deep", "room"] f fd) (D_law_kind : Gn K mg "_law_kind" s_law_kind ["row", "deep", "room"] fk fdk)
    (G_law_kind : FnOk P w K mg base CX0 (3 * n + 6) fk fdk ["row", "deep", "room"] (skind K n)) : FnOk P w K mg base CX0 (3 * n + 6 + 1) f fd ["row", "deep", "room"] (srecord K n) := by
  obtain ⟨f_law_digit, fd_law_digit, D_law_digit⟩ := T.law_digit
  have G_law_digit := ok_law_digit (P := P) (w := w) (base := base) T D_law_digit
  obtain ⟨f_law_names, fd_law_names, D_law_names⟩ := T.law_names
  have G_law_names := ok_law_names (P := P) (w := w) (base := base) T D_law_names
  refine F.F.ok sc_law_record_kind (fun vs H Q E h => ?_) (fun cdv A outer s H vs Q E hr h => ?_)
  · obtain ⟨r, p, c, x, m, _, _, rfl, _⟩ := h
    rfl
  obtain ⟨r, p, c, x, m, hm1, hmn, rfl, nrp, hr0, hp0, q⟩ := h
  refine ⟨_, (@pss_cons _ _ _ _ _ (@ps_set _ _ 3 _ _ _ _ sc_law_record_kind.nd rfl (Or.inl rfl) (pe_call G_law_digit (hr.mono (by first | decide | omega)) rfl D_law_digit.m D_law_digit.F.kp D_law_digit.b .nil pass0 (@pa_cons _ _ _ _ _ (pv 0) (@pa_cons _ _ _ _ _ pe_int pa_nil (by rfl)) (by rfl))) (by rfl) (by first | exact .inl rfl | exact .inr rfl | assumption)) (@pss_cons _ _ _ _ _ (@ps_set _ _ 4 _ _ _ _ sc_law_record_kind.nd rfl (Or.inl rfl) (@pe_lst _ _ _ _ pa_nil) (by rfl) (by first | exact .inl rfl | exact .inr rfl | assumption)) (@pss_cons _ _ _ _ _ (ps_for PassesOwn.never rfl (pi_listN (K := K) rfl (pe_call G_law_names (hr.mono (by first | decide | omega)) rfl D_law_names.m D_law_names.F.kp D_law_names.b .nil pass0 (@pa_cons _ _ _ _ _ (pv 0) (@pa_cons _ _ _ _ _ (pv 3) pa_nil (by rfl)) (by rfl)))) (pg_name (i := 5) sc_law_record_kind.nd rfl (Or.inl rfl))
        (@pss_one _ _ _ (@ps_expr _ _ _ _ (pe_bm PySem.F.plainAttrs_list PySem.F.slot_list_append PySem.F.type_list_append mt_append (pv 4) (@pa_cons _ _ _ _ _ (@pe_tupPK _ K _ _ _ _ rfl (@pa_cons _ _ _ _ _ (pv 5) (@pa_cons _ _ _ _ _ (pe_call G_law_kind (hr.mono (by first | decide | omega)) rfl D_law_kind.m D_law_kind.F.kp D_law_kind.b .nil pass0 (@pa_cons _ _ _ _ _ (pv 0) (@pa_cons _ _ _ _ _ (@pe_op _ _ _ _ _ _ _ _ op_sub (pv 1) pe_int) (@pa_cons _ _ _ _ _ (pv 2) pa_nil (by rfl)) (by rfl)) (by rfl))) pa_nil (by rfl)) (by rfl))) pa_nil (by rfl))) (by rfl)))) (@pss_one _ _ _ (@ps_ret _ _ _ _ (@pe_tupPK _ K _ _ _ _ rfl (@pa_cons _ _ _ _ _ pe_str (@pa_cons _ _ _ _ _ (pe_callTy (call_tuplePN (K := K) rfl) rfl T.z_tuple boot_tuple (@pa_cons _ _ _ _ _ (pv 4) pa_nil (by rfl))) pa_nil (by rfl)) (by rfl)))))))), ?_⟩
  refine ⟨_, rfl, r, c, 4, rfl, hr0, by decide, by decide, ?_⟩
  obtain ⟨k0, k1⟩ := mod_lt c (m := 4) (by decide)
  obtain ⟨k, hk⟩ : ∃ k : Nat, ((k : Nat) : Int) = c % 4 := ⟨(c % 4).toNat, by omega⟩
  have B1 : But2 r p H (upd H r (.lst [.int (c / 4)])) := .one But.put
  refine ⟨(by show 0 ≤ sizeLine; decide), fun pf hpf => ?_⟩
  have nrf : r ≠ pf := fun e => by rw [← e, upd_same] at hpf; cases hpf
  have hfH : H pf = none := by rw [upd_ne nrf.symm] at hpf; exact hpf
  have npf : p ≠ pf := ne_of_none hp0 hfH
  refine ⟨_, rfl, _, rfl, r, c / 4, k, (by show [V.ref r, V.int (c % 4)] = _; rw [hk]), (by rw [upd_ne nrf]; exact upd_same), by omega, fun pn ss c2 H2 b2 hpn r2 n2 nam => ?_⟩
  have nfn : pf ≠ pn := ne_of_none (upd_same (o := .lst [])) hpn
  have p1 : (upd (upd H r (.lst [.int (c / 4)])) pf (.lst [])) p = some (.lst [.int x]) := by rw [upd_ne npf, upd_ne nrp.symm]; exact hp0
  have npn : p ≠ pn := ne_of_none p1 hpn
  have nrn : r ≠ pn := ne_of_none (by rw [upd_ne nrf]; exact upd_same) hpn
  have hnH : H pn = none := by
    have := hpn
    rw [upd_ne nfn.symm, upd_ne nrn.symm] at this
    exact this
  have B2 : But2 r p H H2 := (B1.trans (.same (same_new hpf _))).trans (.one b2)
  have p2 : H2 p = some (.lst [.int x]) := b2 _ _ nrp.symm p1
  have f2 : H2 pf = some (.lst []) := b2 _ _ nrf.symm upd_same
  refine ⟨pn, rfl, ⟨_, SqL.of n2⟩, for_list (xs := ss.map V.str) (fun i σ H' => ∃ (gs : List G4) (ys : List V) (c' x' : Int) (v6 : Option V), But2 r p H H' ∧ H' r = some (.lst [.int c']) ∧ H' p = some (.lst [.int x']) ∧ H' pn = some (.lst (ss.map V.str)) ∧ H' pf = some (.lst ys) ∧ IsPs K H' (gs.map prG) ys ∧ gs.map (·.1) = ss.take i ∧ (∀ g ∈ gs, FK g.2.2.1 g.2.2.2 g.2.1) ∧ (∀ g ∈ gs, g.2.2.1 ≤ m) ∧ sumN (gs.map (·.2.2.2)) + 4 * bud x' ≤ i + 4 * bud x ∧ σ = [some (.ref r), some (.int (m + 1 : Nat)), some (.ref p), some (.int (c % 4)), some (.ref pf), v6])
    ⟨[], [], c2, x, _, B2, r2, p2, n2, f2, .nil, rfl, (fun g hg => by cases hg), (fun g hg => by cases hg), (by show 0 + 4 * bud x ≤ 0 + 4 * bud x; omega), rfl⟩ (fun i σ H' _ h => by obtain ⟨_, _, _, _, _, _, _, _, h, _⟩ := h; exact SqL.of h) ?_ ?_⟩
  · rintro i u σ H3 hu ⟨gs, ys, c3, x3, v6, B3, r3, p3, n3, f3, hys, nms, fk, hd, hsum, rfl⟩
    rw [List.getElem?_map] at hu
    obtain ⟨z, hz, rfl⟩ := Option.map_eq_some_iff.mp hu
    have li := (List.getElem?_eq_some_iff.mp hz).1
    have lss := nam.len
    have lgs : gs.length = i := by
      have := congrArg List.length nms
      rw [List.length_map, List.length_take] at this
      omega
    have lys := hys.length
    rw [List.length_map] at lys
    have e1 : (((m + 1 : Nat) : Int)) - 1 = ((m : Nat) : Int) := by omega
    refine ⟨_, rfl, .inl ⟨rfl, _, SqL.of f3⟩, _, rfl, _, rfl, _, rfl, _, _, rfl, rfl, _, rfl, r, p, c3, x3, m, hm1, hmn, (by show [V.ref r, V.int (((m + 1 : Nat) : Int) - 1), V.ref p] = _; rw [e1]), nrp, r3, p3, fun v d a c4 n4 x4 H4 b4 r4 p4 hv fk4 ha hc4 => ?_⟩
    refine ⟨[.str z, d], .cons .str (.cons hv .nil), (by show 2 ≤ sizeLine; decide), fun v5 H5 g5 hv5 => ?_⟩
    have f5 : H5 pf = some (.lst ys) := g5 _ _ (b4 _ _ nrf.symm npf.symm f3)
    refine ⟨pf, ys, v5, rfl, rfl, f5, small1000 (by omega), ?_⟩
    refine ⟨gs ++ [(z, d, a, c4)], ys ++ [v5], n4, x4, _, ((B3.trans b4).trans (.same g5)).upd hfH, (by rw [upd_ne nrf]; exact g5 _ _ r4), (by rw [upd_ne npf]; exact g5 _ _ p4), (by rw [upd_ne nfn.symm]; exact g5 _ _ (b4 _ _ nrn.symm npn.symm n3)), upd_same, ?_, ?_, ?_, ?_, ?_, rfl⟩
    · rw [List.map_append]
      exact (((iss_but2 r3 p3 b4 hys).same g5).append (.cons hv5 .nil)).but f5 But.put
    · rw [List.map_append, nms, List.take_add_one, hz]
      rfl
    · intro g hg
      rcases List.mem_append.mp hg with h | h
      · exact fk g h
      · obtain rfl := List.mem_singleton.mp h
        exact fk4
    · intro g hg
      rcases List.mem_append.mp hg with h | h
      · exact hd g h
      · obtain rfl := List.mem_singleton.mp h
        exact ha
    · rw [List.map_append]
      show sumN (gs.map (·.2.2.2) ++ [c4]) + _ ≤ _
      rw [sum_snoc]
      omega
  · rintro σ H3 ⟨gs, ys, c3, x3, v6, B3, r3, p3, n3, f3, hys, nms, fk, hd, hsum, rfl⟩
    have lss := nam.len
    rw [List.length_map, List.take_length] at nms
    rw [List.length_map] at hsum
    obtain ⟨F1, F2⟩ := rec_fk (D := m) nam (by omega) nms fk hd
    refine ⟨_, rfl, pf, _, _, rfl, SqL.of f3, hys, fun v4 H4 g4 hv4 => ?_⟩
    refine ⟨[.str "record", .tup (gs.map prG)], .cons .str (.cons hv4 .nil), (by show 2 ≤ sizeLine; decide), fun v5 H5 g5 hv5 => ?_⟩
    exact q v5 _ _ _ c3 x3 H5 ((B3.trans (.same g4)).trans (.same g5)) (g5 _ _ (g4 _ _ r3)) (g5 _ _ (g4 _ _ p3)) hv5 F1 F2 (by omega)
theorem ok_law_kind (T : Tx K mg ad) {f fr fw : Addr} {fd fdr fdw : FuncData} (n : Nat) (D_law_kind : Gn K mg "_law_kind" s_law_kind ["row", "deep", "room"] f fd) (D_law_record_kind : Gn K mg "_law_record_kind" s_law_record_kind ["row", "deep", "room"] fr fdr) (D_law_rows_kind : Gn K mg "_law_rows_kind" s_law_rows_kind ["row", "deep", "room"] fw fdw)
    (G_law_kind : FnOk P w K mg base CX0 (3 * n + 6) f fd ["row", "deep", "room"] (skind K n)) (G_law_record_kind : FnOk P w K mg base CX0 (3 * n + 7) fr fdr ["row", "deep", "room"] (srecord K n)) (G_law_rows_kind : FnOk P w K mg base CX0 (3 * n + 7) fw fdw ["row", "deep", "room"] (srows K (n - 1))) :
    FnOk P w K mg base CX0 (3 * n + 8 + 1) f fd ["row", "deep", "room"] (skind K (n + 1)) := by
  obtain ⟨f_law_digit, fd_law_digit, D_law_digit⟩ := T.law_digit
  have G_law_digit := ok_law_digit (P := P) (w := w) (base := base) T D_law_digit
  obtain ⟨f_law_leaf_kind, fd_law_leaf_kind, D_law_leaf_kind⟩ := T.law_leaf_kind
  have G_law_leaf_kind := ok_law_leaf_kind (P := P) (w := w) (base := base) T D_law_leaf_kind
  refine D_law_kind.F.ok sc_law_kind (fun vs H Q E h => ?_) (fun cdv A outer s H vs Q E hr h => ?_)
  · obtain ⟨r, p, c, x, m, _, _, rfl, _⟩ := h
    rfl
  obtain ⟨r, p, c, x, m, hm1, hmn, rfl, nrp, hr0, hp0, q⟩ := h
  refine ⟨_, (@pss_cons _ _ _ _ _ (@ps_set _ _ 3 _ _ _ _ sc_law_kind.nd rfl (Or.inl rfl) (pe_call G_law_digit (hr.mono (by first | decide | omega)) rfl D_law_digit.m D_law_digit.F.kp D_law_digit.b .nil pass0 (@pa_cons _ _ _ _ _ (pv 0) (@pa_cons _ _ _ _ _ pe_int pa_nil (by rfl)) (by rfl))) (by rfl) (by first | exact .inl rfl | exact .inr rfl | assumption)) (@pss_cons _ _ _ _ _ (ps_asg (@pe_op _ _ _ _ _ _ _ _ op_sub (@pe_ix _ _ _ _ _ _ _ (ix_listK (K := K) rfl) (pv 2) pe_int (fun _ _ => rfl)) pe_int) (pg_sub (pv 2) pe_int set_list)) (@pss_cons _ _ _ _ _ (@ps_if _ _ _ _ _ _ _ _ (PW.pt (@pw_or _ _ _ _ _ _ _ (pt_cmpR op_lt (pv 3) pe_int (nomark _)) (@pw_or _ _ _ _ _ _ _ (pt_cmpR op_lt (pv 1) pe_int (nomark _)) (@pw_or1 _ _ _ _ (pt_cmpR op_lt (@pe_ix _ _ _ _ _ _ _ (ix_listK (K := K) rfl) (pv 2) pe_int (fun _ _ => rfl)) pe_int (nomark _)))))) (@pss_one _ _ _ (@ps_ret _ _ _ _ (pe_call G_law_leaf_kind (hr.mono (by first | decide | omega)) rfl D_law_leaf_kind.m D_law_leaf_kind.F.kp D_law_leaf_kind.b .nil pass0 (@pa_cons _ _ _ _ _ (pv 0) pa_nil (by rfl))))) pss_nil) (@pss_cons _ _ _ _ _ (@ps_if _ _ _ _ _ _ _ _ (pt_cmpR op_eq (pv 3) pe_int (nomark _)) (@pss_one _ _ _ (@ps_ret _ _ _ _ (@pe_tupPK _ K _ _ _ _ rfl (@pa_cons _ _ _ _ _ pe_str (@pa_cons _ _ _ _ _ (pe_call G_law_kind (hr.mono (by first | decide | omega)) rfl D_law_kind.m D_law_kind.F.kp D_law_kind.b .nil pass0 (@pa_cons _ _ _ _ _ (pv 0) (@pa_cons _ _ _ _ _ (@pe_op _ _ _ _ _ _ _ _ op_sub (pv 1) pe_int) (@pa_cons _ _ _ _ _ (pv 2) pa_nil (by rfl)) (by rfl)) (by rfl))) (@pa_cons _ _ _ _ _ (pe_call G_law_digit (hr.mono (by first | decide | omega)) rfl D_law_digit.m D_law_digit.F.kp D_law_digit.b .nil pass0 (@pa_cons _ _ _ _ _ (pv 0) (@pa_cons _ _ _ _ _ pe_int pa_nil (by rfl)) (by rfl))) pa_nil (by rfl)) (by rfl)) (by rfl))))) pss_nil) (@pss_cons _ _ _ _ _ (@ps_if _ _ _ _ _ _ _ _ (PW.pt (@pw_and _ _ _ _ _ _ _ (pt_cmpR op_eq (pv 3) pe_int (nomark _)) (@pw_and1 _ _ _ _ (pt_cmpR op_gt (pv 1) pe_int (nomark _))))) (@pss_one _ _ _ (@ps_ret _ _ _ _ (pe_call G_law_rows_kind (hr.mono (by first | decide | omega)) rfl D_law_rows_kind.m D_law_rows_kind.F.kp D_law_rows_kind.b .nil pass0 (@pa_cons _ _ _ _ _ (pv 0) (@pa_cons _ _ _ _ _ (pv 1) (@pa_cons _ _ _ _ _ (pv 2) pa_nil (by rfl)) (by rfl)) (by rfl))))) pss_nil) (@pss_one _ _ _ (@ps_ret _ _ _ _ (pe_call G_law_record_kind (hr.mono (by first | decide | omega)) rfl D_law_record_kind.m D_law_record_kind.F.kp D_law_record_kind.b .nil pass0 (@pa_cons _ _ _ _ _ (pv 0) (@pa_cons _ _ _ _ _ (pv 1) (@pa_cons _ _ _ _ _ (pv 2) pa_nil (by rfl)) (by rfl)) (by rfl)))))))))), ?_⟩
  refine ⟨_, rfl, r, c, 6, rfl, hr0, by decide, by decide, ?_⟩
  have p1 : (upd H r (.lst [.int (c / 6)])) p = some (.lst [.int x]) := by rw [upd_ne nrp.symm]; exact hp0
  have e0 : ∀ y : Int, atI [V.int y] 0 = some (.int y) := fun _ => rfl
  refine ⟨_, rfl, p, _, _, _, rfl, rfl, SqL.of p1, e0 x, _, _, rfl, rfl, _, rfl, p, _, _, _, rfl, rfl, p1, rfl, _, rfl, ?_⟩
  have B2 : But2 r p H (upd (upd H r (.lst [.int (c / 6)])) p (.lst [.int (x - 5)])) := (But2.one But.put).trans (.two But.put)
  have r2 : (upd (upd H r (.lst [.int (c / 6)])) p (.lst [.int (x - 5)])) r = some (.lst [.int (c / 6)]) := by rw [upd_ne nrp]; exact upd_same
  have p2 : (upd (upd H r (.lst [.int (c / 6)])) p (.lst [.int (x - 5)])) p = some (.lst [.int (x - 5)]) := upd_same
  have bl := bud_less x
  refine ⟨_, _, rfl, rfl, _, rfl, ite2 (fun c1 => iteT ?leaf) (fun c1 => ?_)⟩
  case leaf => exact ⟨_, rfl, r, c / 6, rfl, r2, fun v d n' H' b e hv fk => q v d 1 1 n' (x - 5) H' (B2.trans (.one b)) e (b _ _ nrp.symm p2) hv fk hm1 (by omega)⟩
  refine ⟨_, rfl, _, _, rfl, rfl, _, rfl, ite2 (fun c2 => iteT ?leaf) (fun c2 => ?_)⟩
  case leaf => exact ⟨_, rfl, r, c / 6, rfl, r2, fun v d n' H' b e hv fk => q v d 1 1 n' (x - 5) H' (B2.trans (.one b)) e (b _ _ nrp.symm p2) hv fk hm1 (by omega)⟩
  refine ⟨_, rfl, p, _, _, _, rfl, rfl, SqL.of p2, e0 (x - 5), _, _, rfl, rfl, _, rfl, ite2 (fun c3 => ?leaf) (fun c3 => ?_)⟩
  case leaf => exact ⟨_, rfl, r, c / 6, rfl, r2, fun v d n' H' b e hv fk => q v d 1 1 n' (x - 5) H' (B2.trans (.one b)) e (b _ _ nrp.symm p2) hv fk hm1 (by omega)⟩
  have m2 : 2 ≤ m := by
    have : ¬ ((m : Nat) : Int) < 2 := fun h => c2 (decide_eq_true h)
    omega
  have x5 : 0 ≤ x - 5 := by
    have : ¬ x - 5 < 0 := fun h => c3 (decide_eq_true h)
    omega
  have bs := bud_step x5
  obtain ⟨m, rfl⟩ : ∃ k, m = k + 1 := ⟨m - 1, by omega⟩
  have e1 : (((m + 1 : Nat) : Int)) - 1 = ((m : Nat) : Int) := by omega
  refine ⟨_, rfl, rfl, _, rfl, ite2 (fun c4 => ?_) (fun c4 => ?_)⟩
  · refine ⟨_, rfl, _, rfl, _, _, rfl, rfl, _, rfl, r, p, c / 6, x - 5, m, by omega, by omega, (by show [V.ref r, V.int (((m + 1 : Nat) : Int) - 1), V.ref p] = _; rw [e1]), nrp, r2, p2, fun v d a c4 n4 x4 H4 b4 r4 p4 hv fk4 ha hc4 => ?_⟩
    obtain ⟨k0, k1⟩ := mod_lt n4 (m := 9) (by decide)
    refine ⟨_, rfl, r, n4, 9, rfl, r4, by decide, by decide, [.str "list", d, .int _], .cons .str (.cons (hv.but r4 But.put) (.cons .int .nil)), (by show 3 ≤ sizeLine; decide), fun v5 H5 g5 hv5 => ?_⟩
    exact q v5 _ (a + 1) (c4 + 1) (n4 / 9) x4 H5 (((B2.trans b4).trans (.one But.put)).trans (.same g5)) (g5 _ _ upd_same) (g5 _ _ (by rw [upd_ne nrp.symm]; exact p4)) hv5 (.list fk4 k0 (by omega)) (by omega) (by omega)
  refine ⟨_, rfl, rfl, _, rfl, ite2 (fun c5 => ?_) (fun c5 => iteF ?_)⟩
  · refine ⟨_, rfl, _, _, rfl, rfl, _, rfl, ite2 (fun c6 => ?_) (fun c6 => ?_)⟩
    · have m3 : 3 ≤ m + 1 := by
        have : (2 : Int) < ((m + 1 : Nat) : Int) := of_decide_eq_true c6
        omega
      obtain ⟨m, rfl⟩ : ∃ k, m = k + 1 := ⟨m - 1, by omega⟩
      exact ⟨_, rfl, _, rfl, _, rfl, r, p, c / 6, x - 5, m, by omega, by omega, rfl, nrp, r2, p2, fun v d a c4 n4 x4 H4 b4 r4 p4 hv fk4 ha hc4 => q v d a c4 n4 x4 H4 (B2.trans b4) r4 p4 hv fk4 ha (by omega)⟩
    · exact ⟨_, rfl, _, rfl, _, rfl, r, p, c / 6, x - 5, m, by omega, by omega, rfl, nrp, r2, p2, fun v d a c4 n4 x4 H4 b4 r4 p4 hv fk4 ha hc4 => q v d a c4 n4 x4 H4 (B2.trans b4) r4 p4 hv fk4 ha (by omega)⟩
  · exact ⟨_, rfl, _, rfl, _, rfl, r, p, c / 6, x - 5, m, by omega, by omega, rfl, nrp, r2, p2, fun v d a c4 n4 x4 H4 b4 r4 p4 hv fk4 ha hc4 => q v d a c4 n4 x4 H4 (B2.trans b4) r4 p4 hv fk4 ha (by omega)⟩
noncomputable def keyK (d : Dt) : Prop := ∃ w r, d = .tup (.str w :: r) ∧ (w = "number" ∨ w = "text")
structure RkI (K : PySem.W.Frag) (r p pn pf : Addr) (ss : List Str) (key : Str) (m : Nat) (x : Int) (H : Hp) (i : Nat) (gs : List G4) (ys : List V) (c' x' : Int) (H' : Hp) : Prop where
  B : But2 r p H H'
  hr : H' r = some (.lst [.int c'])
  hp : H' p = some (.lst [.int x'])
  hn : H' pn = some (.lst (ss.map V.str))
  hf : H' pf = some (.lst ys)
  hys : IsPs K H' (gs.map prG) ys
  nms : gs.map (·.1) = ss.take i
  fk : ∀ g ∈ gs, FK g.2.2.1 g.2.2.2 g.2.1
  hd : ∀ g ∈ gs, g.2.2.1 ≤ m
  ky : ∀ g ∈ gs, g.1 = key → keyK g.2.1
  sum : sumN (gs.map (·.2.2.2)) + 4 * bud x' ≤ i + 4 * bud x
theorem RkI.next {K : PySem.W.Frag} {r p pn pf : Addr} {ss : List Str} {key z : Str} {m i a c4 : Nat} {x c3 x3 n4 x4 : Int} {H H3 H4 H5 : Hp} {gs : List G4} {ys : List V} {d : Dt} {v5 : V} (I : RkI K r p pn pf ss key m x H i gs ys c3 x3 H3) (hz : ss[i]? = some z)
    (nrf : r ≠ pf) (npf : p ≠ pf) (nrn : r ≠ pn) (npn : p ≠ pn) (nfn : pf ≠ pn) (hfH : H pf = none) (b4 : But2 r p H3 H4) (r4 : H4 r = some (.lst [.int n4])) (p4 : H4 p = some (.lst [.int x4])) (fk4 : FK a c4 d) (ha : a ≤ m) (hc4 : c4 + 4 * bud x4 ≤ 1 + 4 * bud x3) (hk : z = key → keyK d)
    (g5 : Same H4 H5) (hv5 : IsP K H5 (.tup [.str z, d]) v5) : RkI K r p pn pf ss key m x H (i + 1) (gs ++ [(z, d, a, c4)]) (ys ++ [v5]) n4 x4 (upd H5 pf (.lst (ys ++ [v5]))) := by
  obtain ⟨B3, r3, p3, n3, f3, hys, nms, fk, hd, ky, hsum⟩ := I
  have f5 : H5 pf = some (.lst ys) := g5 _ _ (b4 _ _ nrf.symm npf.symm f3)
  refine ⟨((B3.trans b4).trans (.same g5)).upd hfH, (by rw [upd_ne nrf]; exact g5 _ _ r4), (by rw [upd_ne npf]; exact g5 _ _ p4), (by rw [upd_ne nfn.symm]; exact g5 _ _ (b4 _ _ nrn.symm npn.symm n3)), upd_same, ?_, ?_, ?_, ?_, ?_, ?_⟩
  · rw [List.map_append]
    exact (((iss_but2 r3 p3 b4 hys).same g5).append (.cons hv5 .nil)).but f5 But.put
  · rw [List.map_append, nms, List.take_add_one, hz]
    rfl
  · intro g hg
    rcases List.mem_append.mp hg with h | h
    · exact fk g h
    · obtain rfl := List.mem_singleton.mp h
      exact fk4
  · intro g hg
    rcases List.mem_append.mp hg with h | h
    · exact hd g h
    · obtain rfl := List.mem_singleton.mp h
      exact ha
  · intro g hg
    rcases List.mem_append.mp hg with h | h
    · exact ky g h
    · obtain rfl := List.mem_singleton.mp h
      exact hk
  · rw [List.map_append]
    show sumN (gs.map (·.2.2.2) ++ [c4]) + _ ≤ _
    rw [sum_snoc]
    omega
theorem RkI.few {K : PySem.W.Frag} {r p pn pf : Addr} {ss : List Str} {key : Str} {m i : Nat} {x c3 x3 : Int} {H H3 : Hp} {gs : List G4} {ys : List V} (I : RkI K r p pn pf ss key m x H i gs ys c3 x3 H3) : ys.length ≤ ss.length := by
  have lys := I.hys.length
  have := congrArg List.length I.nms
  rw [List.length_map, List.length_take] at this
  rw [List.length_map] at lys
  omega
theorem ok_law_rows_kind (T : Tx K mg ad) {f fk : Addr} {fd fdk : FuncData} (n : Nat) (F : Gn K mg "_law_rows_kind" s_law_rows_kind ["row", "deep", "room"] f fd) (D_law_kind : Gn K mg "_law_kind" s_law_kind ["row", "deep", "room"] fk fdk)
    (G_law_kind : FnOk P w K mg base CX0 (3 * n + 6) fk fdk ["row", "deep", "room"] (skind K n)) : FnOk P w K mg base CX0 (3 * n + 6 + 1) f fd ["row", "deep", "room"] (srows K n) := by
  obtain ⟨f_law_digit, fd_law_digit, D_law_digit⟩ := T.law_digit
  have G_law_digit := ok_law_digit (P := P) (w := w) (base := base) T D_law_digit
  obtain ⟨f_law_names, fd_law_names, D_law_names⟩ := T.law_names
  have G_law_names := ok_law_names (P := P) (w := w) (base := base) T D_law_names
  obtain ⟨f_law_number_kind, fd_law_number_kind, D_law_number_kind⟩ := T.law_number_kind
  have G_law_number_kind := ok_law_number_kind (P := P) (w := w) (base := base) T D_law_number_kind
  refine F.F.ok sc_law_rows_kind (fun vs H Q E h => ?_) (fun cdv A outer s H vs Q E hr h => ?_)
  · obtain ⟨r, p, c, x, m, _, _, rfl, _⟩ := h
    rfl
  obtain ⟨r, p, c, x, m, hm1, hmn, rfl, nrp, hr0, hp0, q⟩ := h
  refine ⟨_, (@pss_cons _ _ _ _ _ (@ps_set _ _ 3 _ _ _ _ sc_law_rows_kind.nd rfl (Or.inl rfl) (pe_call G_law_names (hr.mono (by first | decide | omega)) rfl D_law_names.m D_law_names.F.kp D_law_names.b .nil pass0 (@pa_cons _ _ _ _ _ (pv 0) (@pa_cons _ _ _ _ _ (@pe_op _ _ _ _ _ _ _ _ op_add pe_int (pe_call G_law_digit (hr.mono (by first | decide | omega)) rfl D_law_digit.m D_law_digit.F.kp D_law_digit.b .nil pass0 (@pa_cons _ _ _ _ _ (pv 0) (@pa_cons _ _ _ _ _ pe_int pa_nil (by rfl)) (by rfl)))) pa_nil (by rfl)) (by rfl))) (by rfl) (by first | exact .inl rfl | exact .inr rfl | assumption)) (@pss_cons _ _ _ _ _ (@ps_set _ _ 4 _ _ _ _ sc_law_rows_kind.nd rfl (Or.inl rfl) (@pe_ix _ _ _ _ _ _ _ (ix_listK (K := K) rfl) (pv 3) (pe_call G_law_digit (hr.mono (by first | decide | omega)) rfl D_law_digit.m D_law_digit.F.kp D_law_digit.b .nil pass0 (@pa_cons _ _ _ _ _ (pv 0) (@pa_cons _ _ _ _ _ (pe_callB call_len_seq rfl T.z_len PySem.boot_len (@pa_cons _ _ _ _ _ (pv 3) pa_nil (by rfl))) pa_nil (by rfl)) (by rfl))) (fun _ _ => rfl)) (by rfl) (by first | exact .inl rfl | exact .inr rfl | assumption)) (@pss_cons _ _ _ _ _ (@ps_set _ _ 5 _ _ _ _ sc_law_rows_kind.nd rfl (Or.inl rfl) (@pe_lst _ _ _ _ pa_nil) (by rfl) (by first | exact .inl rfl | exact .inr rfl | assumption)) (@pss_cons _ _ _ _ _ (ps_for PassesOwn.never rfl (pi_listN (K := K) rfl (pv 3)) (pg_name (i := 6) sc_law_rows_kind.nd rfl (Or.inl rfl))
        (@pss_cons _ _ _ _ _ (@ps_set _ _ 7 _ _ _ _ sc_law_rows_kind.nd rfl (Or.inl rfl) (pe_call G_law_number_kind (hr.mono (by first | decide | omega)) rfl D_law_number_kind.m D_law_number_kind.F.kp D_law_number_kind.b .nil pass0 (@pa_cons _ _ _ _ _ (pv 0) pa_nil (by rfl))) (by rfl) (by first | exact .inl rfl | exact .inr rfl | assumption)) (@pss_cons _ _ _ _ _ (@ps_if _ _ _ _ _ _ _ _ (pt_cmpR op_eq (pe_call G_law_digit (hr.mono (by first | decide | omega)) rfl D_law_digit.m D_law_digit.F.kp D_law_digit.b .nil pass0 (@pa_cons _ _ _ _ _ (pv 0) (@pa_cons _ _ _ _ _ pe_int pa_nil (by rfl)) (by rfl))) pe_int (nomark _)) (@pss_one _ _ _ (@ps_set _ _ 7 _ _ _ _ sc_law_rows_kind.nd rfl (Or.inl rfl) (@pe_tupPK _ K _ _ _ _ rfl (@pa_cons _ _ _ _ _ pe_str (@pa_cons _ _ _ _ _ (pe_call G_law_digit (hr.mono (by first | decide | omega)) rfl D_law_digit.m D_law_digit.F.kp D_law_digit.b .nil pass0 (@pa_cons _ _ _ _ _ (pv 0) (@pa_cons _ _ _ _ _ pe_int pa_nil (by rfl)) (by rfl))) pa_nil (by rfl)) (by rfl))) (by rfl) (by first | exact .inl rfl | exact .inr rfl | assumption))) pss_nil) (@pss_cons _ _ _ _ _ (@ps_if _ _ _ _ _ _ _ _ (pt_cmpR op_ne (pv 6) (pv 4) (nomark _)) (@pss_one _ _ _ (@ps_set _ _ 7 _ _ _ _ sc_law_rows_kind.nd rfl (Or.inl rfl) (pe_call G_law_kind (hr.mono (by first | decide | omega)) rfl D_law_kind.m D_law_kind.F.kp D_law_kind.b .nil pass0 (@pa_cons _ _ _ _ _ (pv 0) (@pa_cons _ _ _ _ _ (@pe_op _ _ _ _ _ _ _ _ op_sub (pv 1) pe_int) (@pa_cons _ _ _ _ _ (pv 2) pa_nil (by rfl)) (by rfl)) (by rfl))) (by rfl) (by first | exact .inl rfl | exact .inr rfl | assumption))) pss_nil) (@pss_one _ _ _ (@ps_expr _ _ _ _ (pe_bm PySem.F.plainAttrs_list PySem.F.slot_list_append PySem.F.type_list_append mt_append (pv 5) (@pa_cons _ _ _ _ _ (@pe_tupPK _ K _ _ _ _ rfl (@pa_cons _ _ _ _ _ (pv 6) (@pa_cons _ _ _ _ _ (pv 7) pa_nil (by rfl)) (by rfl))) pa_nil (by rfl))) (by rfl))))))) (@pss_one _ _ _ (@ps_ret _ _ _ _ (@pe_tupPK _ K _ _ _ _ rfl (@pa_cons _ _ _ _ _ pe_str (@pa_cons _ _ _ _ _ (pv 4) (@pa_cons _ _ _ _ _ (@pe_tupPK _ K _ _ _ _ rfl (@pa_cons _ _ _ _ _ pe_str (@pa_cons _ _ _ _ _ (pe_callTy (call_tuplePN (K := K) rfl) rfl T.z_tuple boot_tuple (@pa_cons _ _ _ _ _ (pv 5) pa_nil (by rfl))) pa_nil (by rfl)) (by rfl))) (@pa_cons _ _ _ _ _ (pe_call G_law_digit (hr.mono (by first | decide | omega)) rfl D_law_digit.m D_law_digit.F.kp D_law_digit.b .nil pass0 (@pa_cons _ _ _ _ _ (pv 0) (@pa_cons _ _ _ _ _ pe_int pa_nil (by rfl)) (by rfl))) pa_nil (by rfl)) (by rfl)) (by rfl)) (by rfl))))))))), ?_⟩
  obtain ⟨k0, k1⟩ := mod_lt c (m := 3) (by decide)
  obtain ⟨k, hk⟩ : ∃ k : Nat, ((k : Nat) : Int) = 1 + c % 3 := ⟨(1 + c % 3).toNat, by omega⟩
  refine ⟨_, rfl, _, rfl, r, c, 3, rfl, hr0, by decide, by decide, _, _, rfl, rfl, r, c / 3, k, (by show [V.ref r, V.int (1 + c % 3)] = _; rw [hk]), upd_same, by omega, fun pn ss c2 H2 b2 hpn r2 n2 nam => ?_⟩
  have p1 : (upd H r (.lst [.int (c / 3)])) p = some (.lst [.int x]) := by rw [upd_ne nrp.symm]; exact hp0
  have npn : p ≠ pn := ne_of_none p1 hpn
  have nrn : r ≠ pn := ne_of_none upd_same hpn
  have hnH : H pn = none := by rw [upd_ne nrn.symm] at hpn; exact hpn
  have B2 : But2 r p H H2 := (But2.one But.put).trans (.one b2)
  have p2 : H2 p = some (.lst [.int x]) := b2 _ _ nrp.symm p1
  have lss := nam.len
  have ln : (0 : Int) < (((ss.map V.str).length : Nat) : Int) := by rw [List.length_map]; omega
  obtain ⟨d0, d1⟩ := mod_lt c2 ln
  obtain ⟨vk, hvk, ek⟩ := pick (xs := ss.map V.str) d0 d1
  obtain ⟨key, hkey, rfl⟩ := List.mem_map.mp hvk
  refine ⟨_, rfl, _, rfl, _, rfl, pn, _, rfl, .inl (SqL.of n2), r, c2, _, rfl, r2, ln, (by rw [List.length_map]; omega), pn, _, _, _, rfl, rfl, SqL.of (by rw [upd_ne nrn.symm]; exact n2), ek, ?_⟩
  generalize hL : (((ss.map V.str).length : Nat) : Int) = L at *
  have n3 : (upd H2 r (.lst [.int (c2 / L)])) pn = some (.lst (ss.map V.str)) := by rw [upd_ne nrn.symm]; exact n2
  have r3 : (upd H2 r (.lst [.int (c2 / L)])) r = some (.lst [.int (c2 / L)]) := upd_same
  have p3 : (upd H2 r (.lst [.int (c2 / L)])) p = some (.lst [.int x]) := by rw [upd_ne nrp.symm]; exact p2
  have B3 : But2 r p H (upd H2 r (.lst [.int (c2 / L)])) := B2.trans (.one But.put)
  generalize upd H2 r (.lst [.int (c2 / L)]) = H3 at *
  refine ⟨(by show 0 ≤ sizeLine; decide), fun pf hpf => ?_⟩
  have nrf : r ≠ pf := ne_of_none r3 hpf
  have npf : p ≠ pf := ne_of_none p3 hpf
  have nfn : pf ≠ pn := (ne_of_none n3 hpf).symm
  have hfH : H pf = none := by
    cases e : H pf with
    | none => rfl
    | some o => rw [B3 _ _ nrf.symm npf.symm e] at hpf; cases hpf
  refine ⟨_, rfl, pn, rfl, ⟨_, SqL.of (by rw [upd_ne nfn.symm]; exact n3)⟩, for_list (xs := ss.map V.str) (fun i σ H' => ∃ gs ys c' x' v6 v7, RkI K r p pn pf ss key m x H i gs ys c' x' H' ∧ σ = [some (.ref r), some (.int (m + 2 : Nat)), some (.ref p), some (.ref pn), some (.str key), some (.ref pf), v6, v7])
    ⟨[], [], c2 / L, x, none, none, ⟨B3.upd hfH, (by rw [upd_ne nrf]; exact r3), (by rw [upd_ne npf]; exact p3), (by rw [upd_ne nfn.symm]; exact n3), upd_same, .nil, rfl, (fun g hg => by cases hg), (fun g hg => by cases hg), (fun g hg => by cases hg), (by show 0 + 4 * bud x ≤ 0 + 4 * bud x; omega)⟩, rfl⟩ (fun i σ H' _ h => by obtain ⟨_, _, _, _, _, _, h, _⟩ := h; exact SqL.of h.hn) ?_ ?_⟩
  · rintro i u σ H4 hu ⟨gs, ys, c4, x4, v6, v7, I, rfl⟩
    rw [List.getElem?_map] at hu
    obtain ⟨z, hz, rfl⟩ := Option.map_eq_some_iff.mp hu
    have li := (List.getElem?_eq_some_iff.mp hz).1
    have few := I.few
    refine ⟨_, rfl, r, c4, rfl, I.hr, fun v5 lo hi n5 H5 b5 r5 hv5 fk5 => ?_⟩
    have p5 : H5 p = some (.lst [.int x4]) := b5 _ _ nrp.symm I.hp
    have e2 : (((m + 2 : Nat) : Int)) - 2 = ((m : Nat) : Int) := by omega
    refine ⟨_, rfl, r, n5, 2, rfl, r5, by decide, by decide, rfl, _, rfl, ite2 (fun c1 => ?_) (fun c1 => ?_)⟩
    · obtain ⟨k4, k5⟩ := mod_lt (n5 / 2) (m := 4) (by decide)
      refine ⟨_, rfl, r, n5 / 2, 4, rfl, upd_same, by decide, by decide, [.str "text", .int _], .cons .str (.cons .int .nil), (by show 2 ≤ sizeLine; decide), fun v6 H6 g6 hv6 => ?_⟩
      have B6 : But2 r p H4 H6 := (((But2.one b5).trans (.one But.put)).trans (.one But.put)).trans (.same g6)
      have r6 : H6 r = some (.lst [.int (n5 / 2 / 4)]) := g6 _ _ upd_same
      have p6 : H6 p = some (.lst [.int x4]) := g6 _ _ (by rw [upd_ne nrp.symm, upd_ne nrp.symm]; exact p5)
      refine ⟨_, rfl, _, rfl, rfl, _, rfl, ite2 (fun c2 => ?_) (fun c2 => ?_)⟩
      · refine ⟨_, rfl, _, rfl, _, _, rfl, rfl, _, rfl, r, p, n5 / 2 / 4, x4, m, hm1, hmn, (by show [V.ref r, V.int (((m + 2 : Nat) : Int) - 2), V.ref p] = _; rw [e2]), nrp, r6, p6, fun v d a c7 n7 x7 H7 b7 r7 p7 hv fk7 ha hc7 => ?_⟩
        refine ⟨_, rfl, .inl ⟨rfl, _, SqL.of (b7 _ _ nrf.symm npf.symm (B6 _ _ nrf.symm npf.symm I.hf))⟩, _, rfl, _, rfl, [.str z, d], .cons .str (.cons hv .nil), (by show 2 ≤ sizeLine; decide), fun v8 H8 g8 hv8 => ?_⟩
        exact ⟨pf, ys, v8, rfl, rfl, g8 _ _ (b7 _ _ nrf.symm npf.symm (B6 _ _ nrf.symm npf.symm I.hf)), small1000 (by omega), _, _, _, _, _, _, I.next hz nrf npf nrn npn nfn hfH (B6.trans b7) r7 p7 fk7 ha hc7 (fun e => by rw [e] at c2; simp at c2) g8 hv8, rfl⟩
      · refine ⟨_, rfl, .inl ⟨rfl, _, SqL.of (B6 _ _ nrf.symm npf.symm I.hf)⟩, _, rfl, _, rfl, [.str z, _], .cons .str (.cons hv6 .nil), (by show 2 ≤ sizeLine; decide), fun v8 H8 g8 hv8 => ?_⟩
        exact ⟨pf, ys, v8, rfl, rfl, g8 _ _ (B6 _ _ nrf.symm npf.symm I.hf), small1000 (by omega), _, _, _, _, _, _, I.next hz nrf npf nrn npn nfn hfH B6 r6 p6 (.text _ k4 (by omega)) hm1 (by omega) (fun _ => ⟨_, _, rfl, .inr rfl⟩) g8 hv8, rfl⟩
    · have B6 : But2 r p H4 (upd H5 r (.lst [.int (n5 / 2)])) := (But2.one b5).trans (.one But.put)
      have r6 : (upd H5 r (.lst [.int (n5 / 2)])) r = some (.lst [.int (n5 / 2)]) := upd_same
      have p6 : (upd H5 r (.lst [.int (n5 / 2)])) p = some (.lst [.int x4]) := by rw [upd_ne nrp.symm]; exact p5
      have hv6 := hv5.but r5 (But.put (o := .lst [.int (n5 / 2)]))
      refine ⟨_, rfl, _, rfl, rfl, _, rfl, ite2 (fun c2 => ?_) (fun c2 => ?_)⟩
      · refine ⟨_, rfl, _, rfl, _, _, rfl, rfl, _, rfl, r, p, n5 / 2, x4, m, hm1, hmn, (by show [V.ref r, V.int (((m + 2 : Nat) : Int) - 2), V.ref p] = _; rw [e2]), nrp, r6, p6, fun v d a c7 n7 x7 H7 b7 r7 p7 hv fk7 ha hc7 => ?_⟩
        refine ⟨_, rfl, .inl ⟨rfl, _, SqL.of (b7 _ _ nrf.symm npf.symm (B6 _ _ nrf.symm npf.symm I.hf))⟩, _, rfl, _, rfl, [.str z, d], .cons .str (.cons hv .nil), (by show 2 ≤ sizeLine; decide), fun v8 H8 g8 hv8 => ?_⟩
        exact ⟨pf, ys, v8, rfl, rfl, g8 _ _ (b7 _ _ nrf.symm npf.symm (B6 _ _ nrf.symm npf.symm I.hf)), small1000 (by omega), _, _, _, _, _, _, I.next hz nrf npf nrn npn nfn hfH (B6.trans b7) r7 p7 fk7 ha hc7 (fun e => by rw [e] at c2; simp at c2) g8 hv8, rfl⟩
      · refine ⟨_, rfl, .inl ⟨rfl, _, SqL.of (B6 _ _ nrf.symm npf.symm I.hf)⟩, _, rfl, _, rfl, [.str z, _], .cons .str (.cons hv6 .nil), (by show 2 ≤ sizeLine; decide), fun v8 H8 g8 hv8 => ?_⟩
        exact ⟨pf, ys, v8, rfl, rfl, g8 _ _ (B6 _ _ nrf.symm npf.symm I.hf), small1000 (by omega), _, _, _, _, _, _, I.next hz nrf npf nrn npn nfn hfH B6 r6 p6 fk5 hm1 (by omega) (fun _ => ⟨_, _, rfl, .inl rfl⟩) g8 hv8, rfl⟩
  · rintro σ H4 ⟨gs, ys, c4, x4, v6, v7, I, rfl⟩
    obtain ⟨B4, r4, p4, n4, f4, hys, nms, fk, hd, ky, hsum⟩ := I
    rw [List.length_map, List.take_length] at nms
    rw [List.length_map] at hsum
    obtain ⟨F1, F2⟩ := rec_fk (D := m) nam (by omega) nms fk hd
    have hK : keyL (gs.map prG) key := by
      obtain ⟨g, hg, rfl⟩ := List.mem_map.mp (nms ▸ hkey : key ∈ gs.map (·.1))
      obtain ⟨w, l, e, h⟩ := ky g hg rfl
      exact ⟨w, l, List.mem_map.mpr ⟨g, hg, by show Dt.tup [.str g.1, g.2.1] = _; rw [e]⟩, h⟩
    obtain ⟨k4, k5⟩ := mod_lt c4 (m := 9) (by decide)
    refine ⟨_, rfl, _, rfl, pf, _, _, rfl, SqL.of f4, hys, fun v5 H5 g5 hv5 => ?_⟩
    refine ⟨[.str "record", .tup (gs.map prG)], .cons .str (.cons hv5 .nil), (by show 2 ≤ sizeLine; decide), fun v6 H6 g6 hv6 => ?_⟩
    have r6 := g6 _ _ (g5 _ _ r4)
    refine ⟨_, rfl, r, c4, 9, rfl, r6, by decide, by decide, [.str "rows", .str key, .tup [.str "record", .tup (gs.map prG)], .int _], .cons .str (.cons .str (.cons (hv6.but r6 But.put) (.cons .int .nil))), (by show 4 ≤ sizeLine; decide), fun v7 H7 g7 hv7 => ?_⟩
    exact q v7 _ _ _ (c4 / 9) x4 H7 ((((B4.trans (.same g5)).trans (.same g6)).trans (.one But.put)).trans (.same g7)) (g7 _ _ upd_same) (g7 _ _ (by rw [upd_ne nrp.symm]; exact g6 _ _ (g5 _ _ p4))) hv7 (.rows F1 hK k4 (by omega)) (by omega) (by omega)
theorem kinds_all (T : Tx K mg ad) {f fr fw : Addr} {fd fdr fdw : FuncData} (D : Gn K mg "_law_kind" s_law_kind ["row", "deep", "room"] f fd) (Dr : Gn K mg "_law_record_kind" s_law_record_kind ["row", "deep", "room"] fr fdr) (Dw : Gn K mg "_law_rows_kind" s_law_rows_kind ["row", "deep", "room"] fw fdw) :
    ∀ n, FnOk P w K mg base CX0 (3 * n + 6) f fd ["row", "deep", "room"] (skind K n)
  | 0 => fn_none fun vs H Q E z => by obtain ⟨_, _, _, _, m, h1, h2, _⟩ := z; omega
  | n + 1 => by
    have ih := kinds_all T D Dr Dw n
    refine (ok_law_kind T n D Dr Dw ih (ok_law_record_kind T n Dr D ih) ((ok_law_rows_kind T n Dw D ih).imp ?_)).mono (by omega)
    rintro vs H Q E ⟨r, p, c, x, m, h1, h2, z⟩
    exact ⟨r, p, c, x, m, h1, by omega, z⟩
theorem iteY {A B : Prop} {x : V} (h : A) : if decide (x = x) = true then A else B := by rw [if_pos (decide_eq_true rfl)]; exact h
theorem iteN {A B : Prop} {x y : V} (n : x ≠ y) (h : B) : if decide (x = y) = true then A else B := by rw [if_neg (fun c => n (of_decide_eq_true c))]; exact h
theorem iteY' {A B : Prop} {x y : V} (n : x ≠ y) (h : A) : if (!decide (x = y)) = true then A else B := by rw [if_pos (by rw [decide_eq_false n]; rfl)]; exact h
theorem iteN' {A B : Prop} {x : V} (h : B) : if (!decide (x = x)) = true then A else B := by rw [if_neg (by rw [decide_eq_true rfl]; decide)]; exact h
theorem strNe {a b : Str} (h : a ≠ b) : V.str a ≠ V.str b := fun e => h (V.str.inj e)
theorem isStrV {K : PySem.W.Frag} {H : Hp} {z : Str} {v : V} (h : IsP K H (.str z) v) : v = .str z := by cases h; rfl
/-- a sign, by its number -/
noncomputable def okC (c : Nat) : Bool := decide (32 ≤ c) && decide (c ≤ 126) && !decide (c = 34) && !decide (c = 37)
noncomputable def okT (z : Str) : Prop := ∀ c ∈ z.cps.toList, okC c = true
theorem str_app (a b : Str) : (a ++ b).cps.toList = a.cps.toList ++ b.cps.toList := Array.toList_append
theorem join_mem {c : Nat} : ∀ {zs : List Str}, c ∈ (Str.join (Str.ofString "") zs).cps.toList → ∃ z ∈ zs, c ∈ z.cps.toList
  | [], h => by
    have h' : c ∈ ([] : List Nat) := h
    cases h'
  | [x], h => ⟨x, List.mem_cons_self, h⟩
  | x :: y :: r, h => by
    have h' : c ∈ (x ++ Str.ofString "" ++ Str.join (Str.ofString "") (y :: r)).cps.toList := h
    rw [str_app, str_app] at h'
    rcases List.mem_append.mp h' with h1 | h1
    · rcases List.mem_append.mp h1 with h2 | h2
      · exact ⟨x, List.mem_cons_self, h2⟩
      · have h3 : c ∈ ([] : List Nat) := h2
        cases h3
    · obtain ⟨z, hz, hc⟩ := join_mem h1
      exact ⟨z, List.mem_cons_of_mem _ hz, hc⟩
theorem join_okT {zs : List Str} (h : ∀ z ∈ zs, okT z) : okT (Txt.join (Str.ofString "") zs) := by
  intro c hc
  have hc' : c ∈ (Builtin.Str.glued (Str.ofString "") zs).cps.toList := hc
  rw [StrLaws.glued_eq_join] at hc'
  obtain ⟨z, hz, h1⟩ := join_mem hc'
  exact h z hz c h1
noncomputable abbrev signsL : Str := "ab Z09-,.:;/()[]{}'!~"
theorem signs_ok : ∀ c ∈ signsL.cps.toList, okC c = true := by decide +kernel
theorem signs_len : signsL.length = 21 := by decide +kernel
theorem pickC {z : Str} {d : Int} (h0 : 0 ≤ d) (h1 : d < (z.length : Int)) : ∃ c, c ∈ z.cps.toList ∧ atI z.cps.toList d = some c := pick (xs := z.cps.toList) (d := d) h0 (by simpa [Str.length] using h1)
noncomputable def sp_law_text (_ : PySem.W.Frag) (_ : Ads) : Sp := fun vs H Q _ => ∃ (r : Addr) (c i : Int), vs = [.ref r, .int i] ∧ H r = some (.lst [.int c]) ∧ 0 ≤ i ∧ i ≤ 60 ∧ ∀ z c' H', But r H H' → H' r = some (.lst [.int c']) → (z.length : Int) ≤ i → okT z → Q (.str z) H'
theorem ok_law_text (T : Tx K mg ad) {f : Addr} {fd : FuncData} (F : Gn K mg "_law_text" s_law_text ["row", "most"] f fd) : FnOk P w K mg base CX0 2 f fd ["row", "most"] (sp_law_text K ad) := by
  obtain ⟨f_law_digit, fd_law_digit, D_law_digit⟩ := T.law_digit
  have G_law_digit := ok_law_digit (P := P) (w := w) (base := base) T D_law_digit
  refine F.F.ok sc_law_text (fun vs H Q E h => ?_) (fun cdv A outer s H vs Q E hr h => ?_)
  · obtain ⟨r, c, i, rfl, _⟩ := h
    rfl
  obtain ⟨r, c, i, rfl, hr0, h1, h2, q⟩ := h
  refine ⟨_, (@pss_cons _ _ _ _ _ (@ps_set _ _ 2 _ _ _ _ sc_law_text.nd rfl (Or.inr rfl) pe_str (by rfl) (by first | exact .inl rfl | exact .inr rfl | assumption)) (@pss_one _ _ _ (@ps_ret _ _ _ _ (pe_bm PySem.F.plainAttrs_str PySem.F.slot_str_join PySem.F.type_str_join mt_join1 pe_str (@pa_cons _ _ _ _ _ (pe_comp rfl (csR (sc := defScope s_law_text) (NL := ["k"]) (N := ["row", "most", "signs"]) (ρ := [0, 2]) (N' := ["k", "row", "signs"]) rfl rfl rfl (by decide +kernel) (by decide +kernel) (by decide +kernel) rfl (by decide +kernel)) (pi_range1 rfl T.z_range (@pa_cons _ _ _ _ _ (pe_call G_law_digit (hr.mono (by first | decide | omega)) rfl D_law_digit.m D_law_digit.F.kp D_law_digit.b .nil pass0 (@pa_cons _ _ _ _ _ (pv 0) (@pa_cons _ _ _ _ _ (@pe_op _ _ _ _ _ _ _ _ op_add (pv 1) pe_int) pa_nil (by rfl)) (by rfl))) pa_nil (by rfl))) (fun _ _ _ _ => (pg_name (i := 0) (show List.Nodup (α := Str) ["k", "row", "signs"] by decide +kernel) rfl (Or.inl rfl))) (fun _ _ _ _ => (@pe_ix _ _ _ _ _ _ _ ix_str (pv 2) (pe_call G_law_digit (hr.mono (by first | decide | omega)) rfl D_law_digit.m D_law_digit.F.kp D_law_digit.b .nil pass0 (@pa_cons _ _ _ _ _ (pv 1) (@pa_cons _ _ _ _ _ (pe_callB call_len_str rfl T.z_len PySem.boot_len (@pa_cons _ _ _ _ _ (pv 2) pa_nil (by rfl))) pa_nil (by rfl)) (by rfl))) (fun _ _ => rfl)))) pa_nil (by rfl)))))), ?_⟩
  obtain ⟨d0, d1⟩ := mod_lt c (m := i + 1) (by omega)
  refine ⟨rfl, _, rfl, _, rfl, _, _, rfl, rfl, r, c, _, rfl, hr0, by omega, by omega, _, rfl, by omega, by omega, fun l hln => ?_⟩
  have b0 : But r H (upd H r (.lst [.int (c / (i + 1))])) := But.put
  have nlr : r ≠ l := ne_of_none upd_same hln
  have lH : H l = none := by rw [upd_ne nlr.symm] at hln; exact hln
  refine comp_rangeR (lo := 0) (n := (c % (i + 1)).toNat) (fun j ys σ H' => ∃ (zs : List Str) (c' : Int), But r H H' ∧ H' r = some (.lst [.int c']) ∧ H' l = some (.lst ys) ∧ ys = zs.map V.str ∧ (∀ z ∈ zs, z.length = 1 ∧ okT z) ∧ zs.length = j ∧ ∃ v1, σ = [v1, some (.ref r), some (.str signsL)])
    ⟨[], _, b0.trans (But.same (same_new hln _)), (by rw [upd_ne nlr]; exact upd_same), upd_same, rfl, (by intro z hz; cases hz), rfl, none, rfl⟩ ?_ ?_
  · rintro j ys σ H1 N hj ⟨zs, c', b1, e1, e2, rfl, hz, hle, v1, rfl⟩ next
    obtain ⟨g0, g1⟩ := mod_lt c' (m := ((signsL.length : Nat) : Int)) (by rw [signs_len]; decide)
    obtain ⟨ch, hm, hc⟩ := pickC (z := signsL) g0 g1
    refine ⟨_, rfl, _, rfl, _, rfl, _, rfl, (by decide +kernel), r, c', _, rfl, e1, by rw [signs_len]; decide, by rw [signs_len]; decide, _, _, _, rfl, rfl, (by decide +kernel), hc, ?_⟩
    have e3 : (upd H1 r (.lst [.int (c' / ((signsL.length : Nat) : Int))])) l = some (.lst (zs.map V.str)) := by rw [upd_ne nlr.symm]; exact e2
    refine ⟨e3, (by rw [List.length_map]; exact small1000 (by omega)), next _ _ _ ⟨zs ++ [⟨#[ch]⟩], _, fun x o nx ex => ?_, (by rw [upd_ne nlr]; exact upd_same), upd_same, (by rw [List.map_append]; rfl), fun z hz' => ?_, (by rw [List.length_append, hle]; rfl), _, rfl⟩⟩
    · rw [upd_ne (ne_of_none ex lH), upd_ne nx]
      exact b1 x o nx ex
    · rcases List.mem_append.mp hz' with h3 | h3
      · exact hz z h3
      · obtain rfl := List.mem_singleton.mp h3
        refine ⟨rfl, fun c hc' => ?_⟩
        obtain rfl : c = ch := by simpa using hc'
        exact signs_ok c hm
  · rintro ys σ H1 ⟨zs, c', b1, e1, e2, rfl, hz, hle, v1, rfl⟩
    refine ⟨l, zs, rfl, rfl, SqL.of e2, fun z h => (hz z h).1, by omega, ?_⟩
    refine q _ c' H1 b1 e1 ?_ (join_okT fun z h => (hz z h).2)
    rw [PySem.W.KT.join_ones zs fun z h => (hz z h).1]
    omega
/-- keys of a number or a text kind, ascending -/
noncomputable def KeysFor (d : Dt) (ks : List Key) : Prop := (∃ (i j : Int) (ns : List Int), d = .tup [.str "number", .int i, .int j] ∧ ks = ns.map Sum.inl ∧ ns.Pairwise (· < ·) ∧ ∀ n ∈ ns, i ≤ n ∧ n ≤ j) ∨
  (∃ (i : Int) (ss : List Str), d = .tup [.str "text", .int i] ∧ ks = ss.map Sum.inr ∧ ss.Pairwise ltS ∧ ∀ z ∈ ss, ((z : Str).length : Int) ≤ i ∧ okT z)
noncomputable def KeyFK (d : Dt) : Prop := (∃ i j : Int, d = .tup [.str "number", .int i, .int j] ∧ -1000000000000000000000000000000 ≤ i ∧ i ≤ j ∧ j ≤ 1000000000000000000000000000000) ∨ ∃ i : Int, d = .tup [.str "text", .int i] ∧ 0 ≤ i ∧ i ≤ 60
noncomputable def sp_law_keys (K : PySem.W.Frag) (_ : Ads) : Sp := fun vs H Q _ => ∃ (r : Addr) (c : Int) (d : Dt) (x : V), vs = [.ref r, x] ∧ H r = some (.lst [.int c]) ∧ IsP K H d x ∧ KeyFK d ∧
  ∀ p ks c' H', But r H H' → H p = none → H' r = some (.lst [.int c']) → H' p = some (.lst (ks.map kV)) → ks.length ≤ 8 → KeysFor d ks → Q (.ref p) H'
theorem isIntV {K : PySem.W.Frag} {H : Hp} {i : Int} {v : V} (h : IsP K H (.int i) v) : v = .int i := by cases h; rfl
noncomputable abbrev keys8 : List Str := ["", " ", "-", "0", "A", "a", "b", "~"]
theorem keys8_ok : keys8.Pairwise ltS ∧ ∀ z ∈ keys8, z.length ≤ 1 ∧ okT z := by
  refine ⟨by decide +kernel, ?_⟩
  have : ∀ z ∈ keys8, z.length ≤ 1 ∧ ∀ c ∈ z.cps.toList, okC c = true := by decide +kernel
  exact this
theorem cut_to (xs : List V) (m : Int) (h0 : 0 ≤ m) : L2.cutV xs none (some m) = xs.take m.toNat := by
  have e1 : HT.sIx xs.length 0 none = 0 := HT.sIx_none _ _
  have e2 : HT.sIx xs.length xs.length (some m) = min m.toNat xs.length := by
    have := HT.sIx_nat xs.length xs.length m.toNat
    rw [show ((m.toNat : Nat) : Int) = m by omega] at this
    exact this
  unfold L2.cutV
  rw [e1, e2, List.drop_zero, Nat.sub_zero]
  rcases Nat.le_total m.toNat xs.length with h | h
  · rw [Nat.min_eq_left h]
  · rw [Nat.min_eq_right h, List.take_length, List.take_of_length_le h]
theorem ok_law_keys (T : Tx K mg ad) {f : Addr} {fd : FuncData} (F : Gn K mg "_law_keys" s_law_keys ["row", "kind"] f fd) : FnOk P w K mg base CX0 2 f fd ["row", "kind"] (sp_law_keys K ad) := by
  obtain ⟨f_law_digit, fd_law_digit, D_law_digit⟩ := T.law_digit
  have G_law_digit := ok_law_digit (P := P) (w := w) (base := base) T D_law_digit
  refine F.F.ok sc_law_keys (fun vs H Q E h => ?_) (fun cdv A outer s H vs Q E hr h => ?_)
  · obtain ⟨r, c, d, x, rfl, _⟩ := h
    rfl
  obtain ⟨r, c, d, x, rfl, hr0, hd, kf, q⟩ := h
  refine ⟨_, (@pss_cons _ _ _ _ _ (@ps_set _ _ 2 _ _ _ _ sc_law_keys.nd rfl (Or.inl rfl) (pe_call G_law_digit (hr.mono (by first | decide | omega)) rfl D_law_digit.m D_law_digit.F.kp D_law_digit.b .nil pass0 (@pa_cons _ _ _ _ _ (pv 0) (@pa_cons _ _ _ _ _ pe_int pa_nil (by rfl)) (by rfl))) (by rfl) (by first | exact .inl rfl | exact .inr rfl | assumption)) (@pss_cons _ _ _ _ _ (@ps_if _ _ _ _ _ _ _ _ (pt_cmpR op_eq (@pe_ix _ _ _ _ _ _ _ (ix_tupPN (K := K) rfl) (pv 1) pe_int (fun _ _ => rfl)) pe_str (nomark _)) (@pss_cons _ _ _ _ _ (@ps_set _ _ 3 _ _ _ _ sc_law_keys.nd rfl (Or.inr rfl) (@pe_op _ _ _ _ _ _ _ _ op_add (@pe_ix _ _ _ _ _ _ _ (ix_tupPN (K := K) rfl) (pv 1) pe_int (fun _ _ => rfl)) (pe_call G_law_digit (hr.mono (by first | decide | omega)) rfl D_law_digit.m D_law_digit.F.kp D_law_digit.b .nil pass0 (@pa_cons _ _ _ _ _ (pv 0) (@pa_cons _ _ _ _ _ (@pe_op _ _ _ _ _ _ _ _ op_add (@pe_op _ _ _ _ _ _ _ _ op_sub (@pe_ix _ _ _ _ _ _ _ (ix_tupPN (K := K) rfl) (pv 1) pe_int (fun _ _ => rfl)) (@pe_ix _ _ _ _ _ _ _ (ix_tupPN (K := K) rfl) (pv 1) pe_int (fun _ _ => rfl))) pe_int) pa_nil (by rfl)) (by rfl)))) (by rfl) (by first | exact .inl rfl | exact .inr rfl | assumption)) (@pss_one _ _ _ (@ps_ret _ _ _ _ (pe_compIf rfl (csR (sc := defScope s_law_keys) (NL := ["k"]) (N := ["row", "kind", "many", "start"]) (ρ := [1, 3]) (N' := ["k", "kind", "start"]) rfl rfl rfl (by decide +kernel) (by decide +kernel) (by decide +kernel) rfl (by decide +kernel)) (pi_range1 rfl T.z_range (@pa_cons _ _ _ _ _ (pv 2) pa_nil (by rfl))) (fun _ _ _ _ => (pg_name (i := 0) (show List.Nodup (α := Str) ["k", "kind", "start"] by decide +kernel) rfl (Or.inl rfl))) (fun _ _ _ _ => (pt_cmpR op_le (@pe_op _ _ _ _ _ _ _ _ op_add (pv 2) (pv 0)) (@pe_ix _ _ _ _ _ _ _ (ix_tupPN (K := K) rfl) (pv 1) pe_int (fun _ _ => rfl)) (nomark _))) (fun _ _ _ _ => (@pe_op _ _ _ _ _ _ _ _ op_add (pv 2) (pv 0))))))) pss_nil) (@pss_cons _ _ _ _ _ (@ps_if _ _ _ _ _ _ _ _ (pt_cmpR op_eq (@pe_ix _ _ _ _ _ _ _ (ix_tupPN (K := K) rfl) (pv 1) pe_int (fun _ _ => rfl)) pe_int (nomark _)) (@pss_one _ _ _ (@ps_ret _ _ _ _ (pe_slice sl_list (@pe_lst _ _ _ _ (@pa_cons _ _ _ _ _ pe_str pa_nil (by rfl))) po_none (po_some (pv 2))))) pss_nil) (@pss_one _ _ _ (@ps_ret _ _ _ _ (pe_slice sl_list (@pe_lst _ _ _ _ (@pa_cons _ _ _ _ _ pe_str (@pa_cons _ _ _ _ _ pe_str (@pa_cons _ _ _ _ _ pe_str (@pa_cons _ _ _ _ _ pe_str (@pa_cons _ _ _ _ _ pe_str (@pa_cons _ _ _ _ _ pe_str (@pa_cons _ _ _ _ _ pe_str (@pa_cons _ _ _ _ _ pe_str pa_nil (by rfl)) (by rfl)) (by rfl)) (by rfl)) (by rfl)) (by rfl)) (by rfl)) (by rfl))) po_none (po_some (pv 2)))))))), ?_⟩
  obtain ⟨d0, d1⟩ := mod_lt c (m := 9) (by decide)
  refine ⟨_, rfl, r, c, 9, rfl, hr0, by decide, by decide, ?_⟩
  have b0 : But r H (upd H r (.lst [.int (c / 9)])) := But.put
  have hd1 := hd.but hr0 b0
  have r1 : (upd H r (.lst [.int (c / 9)])) r = some (.lst [.int (c / 9)]) := upd_same
  generalize upd H r (.lst [.int (c / 9)]) = H1 at b0 hd1 r1 ⊢
  have free : ∀ {l : Addr} {Hx : Hp}, But r H Hx → r ≠ l → Hx l = none → H l = none := fun {l Hx} B n e => by
    cases e' : H l with
    | none => rfl
    | some o => rw [B l o n.symm e'] at e; cases e
  rcases kf with ⟨i, j, rfl, k1, k2, k3⟩ | ⟨i, rfl, k1, k2⟩
  · refine ⟨_, rfl, _, _, _, hd1, rfl, rfl, fun v hv => ?_⟩
    obtain rfl := isStrV hv
    refine ⟨rfl, _, rfl, iteY ?_⟩
    refine ⟨_, rfl, _, _, _, hd1, rfl, rfl, fun v hv => ?_⟩
    obtain rfl := isIntV hv
    refine ⟨_, rfl, _, rfl, _, _, _, hd1, rfl, rfl, fun v hv => ?_⟩
    obtain rfl := isIntV hv
    refine ⟨_, rfl, _, _, _, hd1, rfl, rfl, fun v hv => ?_⟩
    obtain rfl := isIntV hv
    obtain ⟨s0, s1⟩ := mod_lt (c / 9) (m := j - i + 1) (by omega)
    refine ⟨_, _, rfl, rfl, _, _, rfl, rfl, r, c / 9, _, rfl, r1, by omega, by omega, _, _, rfl, rfl, ?_⟩
    have b2 : But r H1 (upd H1 r (.lst [.int (c / 9 / (j - i + 1))])) := But.put
    have r2 : (upd H1 r (.lst [.int (c / 9 / (j - i + 1))])) r = some (.lst [.int (c / 9 / (j - i + 1))]) := upd_same
    have hd2 := hd1.but r1 b2
    generalize upd H1 r (.lst [.int (c / 9 / (j - i + 1))]) = H2 at b2 r2 hd2 ⊢
    refine ⟨_, rfl, _, rfl, by omega, by omega, fun l hln => ?_⟩
    have nlr : r ≠ l := ne_of_none r2 hln
    have lH : H l = none := free (b0.trans b2) nlr hln
    generalize hst : i + c / 9 % (j - i + 1) = st
    have st1 : i ≤ st ∧ st ≤ j := by omega
    refine comp_rangeR (lo := 0) (n := (c % 9).toNat) (fun t ys σ H' => ∃ ns : List Int, But r H H' ∧ H' r = some (.lst [.int (c / 9 / (j - i + 1))]) ∧ H' l = some (.lst ys) ∧ ys = ns.map V.int ∧ ns.Pairwise (· < ·) ∧ (∀ n ∈ ns, i ≤ n ∧ n ≤ j ∧ n < st + t) ∧ ns.length ≤ t ∧ ∃ v1, σ = [v1, some x, some (.int st)])
      ⟨[], (b0.trans b2).trans (But.same (same_new hln _)), (by rw [upd_ne nlr]; exact r2), upd_same, rfl, .nil, (by intro n hn; cases hn), Nat.le_refl _, none, (by rw [← hst]; rfl)⟩ ?_ ?_
    · rintro t ys σ H3 N ht ⟨ns, b3, e3, e4, rfl, pw, bd, hle, v1, rfl⟩ next
      have hd3 := hd.but hr0 b3
      refine ⟨_, rfl, _, rfl, _, _, rfl, rfl, _, rfl, _, _, _, hd3, rfl, rfl, fun v hv => ?_⟩
      obtain rfl := isIntV hv
      refine ⟨_, _, rfl, rfl, _, rfl, ?_⟩
      refine ite2 (fun c1 => ?_) (fun c1 => ?_)
      · have c1' : st + (0 + (t : Int)) ≤ j := of_decide_eq_true c1
        refine ⟨_, rfl, _, rfl, _, _, rfl, rfl, e4, (by rw [List.length_map]; exact small1000 (by omega)), next _ _ _ ⟨ns ++ [st + (0 + (t : Int))], fun y o ny ey => ?_, (by rw [upd_ne nlr]; exact e3), upd_same, (by rw [List.map_append]; rfl), ?_, fun n hn => ?_, ?_, _, rfl⟩⟩
        · rw [upd_ne (ne_of_none ey lH)]
          exact b3 y o ny ey
        · refine List.pairwise_append.mpr ⟨pw, List.pairwise_singleton _ _, fun a ha b hb => ?_⟩
          obtain rfl := List.mem_singleton.mp hb
          have := bd a ha
          omega
        · rcases List.mem_append.mp hn with h1 | h1
          · have := bd n h1
            refine ⟨this.1, this.2.1, ?_⟩
            push_cast
            omega
          · obtain rfl := List.mem_singleton.mp h1
            refine ⟨by omega, c1', ?_⟩
            push_cast
            omega
        · rw [List.length_append]
          simp only [List.length_cons, List.length_nil]
          omega
      · refine next _ _ _ ⟨ns, b3, e3, e4, rfl, pw, fun n hn => ?_, by omega, _, rfl⟩
        have := bd n hn
        refine ⟨this.1, this.2.1, ?_⟩
        push_cast
        omega
    · rintro ys σ H3 ⟨ns, b3, e3, e4, rfl, pw, bd, hle, v1, rfl⟩
      refine q l (ns.map Sum.inl) _ H3 b3 lH e3 ?_ ?_ (.inl ⟨i, j, ns, rfl, rfl, pw, fun n hn => ⟨(bd n hn).1, (bd n hn).2.1⟩⟩)
      · rw [List.map_map]
        exact e4
      · rw [List.length_map]
        omega
  · refine ⟨_, rfl, _, _, _, hd1, rfl, rfl, fun v hv => ?_⟩
    obtain rfl := isStrV hv
    refine ⟨rfl, _, rfl, iteN (strNe (by decide)) ?_⟩
    refine ⟨_, rfl, _, _, _, hd1, rfl, rfl, fun v hv => ?_⟩
    obtain rfl := isIntV hv
    refine ⟨rfl, _, rfl, ite2 (fun c1 => ?_) (fun c1 => ?_)⟩
    · refine ⟨(by show 1 ≤ sizeLine; decide), fun p hp => ⟨_, rfl, _, rfl, p, [V.str ""], rfl, SqL.of upd_same, fun p2 hp2 => ?_⟩⟩
      have g2 := same_new hp (.lst [V.str ""])
      have nr2 : r ≠ p2 := ne_of_none (g2 _ _ r1) hp2
      rw [cut_to _ _ d0]
      refine q p2 ((([("" : Str)]).take (c % 9).toNat).map Sum.inr) _ _ ((b0.trans (But.same g2)).trans (But.same (same_new hp2 _))) (free (b0.trans (But.same g2)) nr2 hp2) (by rw [upd_ne nr2]; exact g2 _ _ r1) ?_ ?_ (.inr ⟨i, _, rfl, rfl, ?_, fun z hz => ?_⟩)
      · rw [upd_same, List.map_map, List.map_take]
        rfl
      · rw [List.length_map, List.length_take]
        exact Nat.le_trans (Nat.min_le_right _ _) (by decide)
      · exact (List.pairwise_singleton ltS ("" : Str)).sublist (List.take_sublist _ _)
      · obtain rfl := List.mem_singleton.mp (List.mem_of_mem_take hz)
        exact ⟨by show (0 : Int) ≤ i; exact k1, fun c hc => by cases (show c ∈ ([] : List Nat) from hc)⟩
    · refine ⟨(by show 8 ≤ sizeLine; decide), fun p hp => ⟨_, rfl, _, rfl, p, keys8.map V.str, rfl, SqL.of upd_same, fun p2 hp2 => ?_⟩⟩
      have g2 := same_new hp (.lst (keys8.map V.str))
      have nr2 : r ≠ p2 := ne_of_none (g2 _ _ r1) hp2
      have i1 : 1 ≤ i := by
        have : ¬ i = 0 := fun e => c1 (decide_eq_true (by rw [e]))
        omega
      rw [cut_to _ _ d0]
      refine q p2 ((keys8.take (c % 9).toNat).map Sum.inr) _ _ ((b0.trans (But.same g2)).trans (But.same (same_new hp2 _))) (free (b0.trans (But.same g2)) nr2 hp2) (by rw [upd_ne nr2]; exact g2 _ _ r1) ?_ ?_ (.inr ⟨i, _, rfl, rfl, keys8_ok.1.sublist (List.take_sublist _ _), fun z hz => ?_⟩)
      · rw [upd_same, List.map_map, ← List.map_take]
        rfl
      · rw [List.length_map, List.length_take]
        exact Nat.le_trans (Nat.min_le_right _ _) (by decide)
      · obtain ⟨z1, z2⟩ := keys8_ok.2 z (List.mem_of_mem_take hz)
        exact ⟨by omega, z2⟩
/-- the field of a record, as a datum -/
noncomputable def lookD : List Dt → Str → Option Dt
  | .tup [.str n, k] :: r, z => if n = z then some k else lookD r z
  | _, _ => none
theorem lookD_map (z : Str) : ∀ fs : List (Str × Dt), lookD (fs.map prD) z = lookS fs z
  | [] => rfl
  | (n, k) :: fs => by
    show (if n = z then some k else lookD (fs.map prD) z) = _
    rw [lookD_map z fs]
    by_cases h : n = z <;> simp [lookS, h]
noncomputable def keyD (v : Dt) (z : Str) : Dt := match v with
  | .tup [_, .tup l] => (lookD l z).getD .non
  | _ => .non
noncomputable def kD : Key → Dt
  | .inl i => .int i
  | .inr z => .str z
/-- keys, ascending -/
noncomputable def Asc (l : List Dt) : Prop := (∃ ns : List Int, l = ns.map Dt.int ∧ ns.Pairwise (· < ·)) ∨ ∃ ss : List Str, l = ss.map Dt.str ∧ ss.Pairwise ltS
/-- a value of a kind -/
inductive FV : Dt → Dt → Prop
  | number {i j x : Int} : i ≤ x → x ≤ j → FV (.tup [.str "number", .int i, .int j]) (.int x)
  | text {i : Int} {z : Str} : (z.length : Int) ≤ i → okT z → FV (.tup [.str "text", .int i]) (.str z)
  | choice {ws : List Str} {z : Str} : z ∈ ws → FV (.tup [.str "choice", .tup (ws.map Dt.str)]) (.str z)
  | list {k : Dt} {i : Int} {vs : List Dt} : (∀ v ∈ vs, FV k v) → (vs.length : Int) ≤ i → FV (.tup [.str "list", k, .int i]) (.tup [.str "list", .tup vs])
  | rows {k : Dt} {z : Str} {i : Int} {vs : List Dt} : (∀ v ∈ vs, FV k v) → (vs.length : Int) ≤ i → Asc (vs.map fun v => keyD v z) → FV (.tup [.str "rows", .str z, k, .int i]) (.tup [.str "rows", .tup vs])
  | rcd {fs gs : List (Str × Dt)} : gs.map (·.1) = fs.map (·.1) → (∀ (i : Nat) (f g : Str × Dt), fs[i]? = some f → gs[i]? = some g → FV f.2 g.2) → FV (.tup [.str "record", .tup (fs.map prD)]) (.tup [.str "record", .tup (gs.map prD)])
mutual
theorem isP_butD {K : PySem.W.Frag} {H H' : Hp} {p : Addr} {kvs : List (Key × V)} (hp : H p = some (.dK kvs)) (g : But p H H') : ∀ {d : Dt} {v : V}, IsP K H d v → IsP K H' d v
  | _, _, .non => .non
  | _, _, .bl => .bl
  | _, _, .int => .int
  | _, _, .str => .str
  | _, _, .tup h pl q => .tup (g.tup (by obtain ⟨o, u, e, dn⟩ := pl; exact ne_of e hp (by intro c; cases c)) h) (by
      obtain ⟨o, u, e, dn⟩ := pl
      exact ⟨o, u, g _ _ (ne_of e hp (by intro c; cases c)) e, dn⟩) (isPs_butD hp g q)
theorem isPs_butD {K : PySem.W.Frag} {H H' : Hp} {p : Addr} {kvs : List (Key × V)} (hp : H p = some (.dK kvs)) (g : But p H H') : ∀ {l : List Dt} {xs : List V}, IsPs K H l xs → IsPs K H' l xs
  | _, _, .nil => .nil
  | _, _, .cons h q => .cons (isP_butD hp g h) (isPs_butD hp g q)
end
/-- what is drawn of a kind at most n deep -/
noncomputable def svalue (K : PySem.W.Frag) (n : Nat) : Sp := fun vs H Q _ => ∃ (r : Addr) (c : Int) (a ct : Nat) (d : Dt) (x : V), a ≤ n ∧ vs = [.ref r, x] ∧ H r = some (.lst [.int c]) ∧ IsP K H d x ∧ FK a ct d ∧ ∀ (v : V) (e : Dt) (c' : Int) (H' : Hp), But r H H' → H' r = some (.lst [.int c']) → IsP K H' e v → FV d e → Q v H'
noncomputable def srowv (K : PySem.W.Frag) (n : Nat) : Sp := fun vs H Q _ => ∃ (r : Addr) (c i : Int) (z : Str) (fs : List (Str × Dt)) (kk : Dt) (x : V), vs = [.ref r, x] ∧ H r = some (.lst [.int c]) ∧ IsP K H (.tup [.str "rows", .str z, .tup [.str "record", .tup (fs.map prD)], .int i]) x ∧
  (∀ f ∈ fs, ∃ a ct, a ≤ n ∧ FK a ct f.2) ∧ (fs.map (·.1)).Pairwise ltS ∧ fs.length ≤ 8 ∧ lookS fs z = some kk ∧ KeyFK kk ∧ 0 ≤ i ∧ i ≤ 8 ∧
  ∀ (v : V) (vs' : List Dt) (c' : Int) (H' : Hp), But r H H' → H' r = some (.lst [.int c']) → IsP K H' (.tup [.str "rows", .tup vs']) v → FV (.tup [.str "rows", .str z, .tup [.str "record", .tup (fs.map prD)], .int i]) (.tup [.str "rows", .tup vs']) → Q v H'
theorem asc_perm : ∀ {a b : List Str}, a.Pairwise ltS → b.Pairwise ltS → a.Perm b → a = b
  | [], b, _, _, h => (List.nil_perm.mp h).symm
  | x :: a, [], _, _, h => absurd (List.perm_nil.mp h) (by simp)
  | x :: a, y :: b, ha, hb, h => by
    have ha' := List.pairwise_cons.mp ha
    have hb' := List.pairwise_cons.mp hb
    have e : x = y := by
      rcases List.mem_cons.mp (h.mem_iff.mp (List.mem_cons_self : x ∈ x :: a)) with e | hx
      · exact e
      · rcases List.mem_cons.mp (h.mem_iff.mpr (List.mem_cons_self : y ∈ y :: b)) with e | hy
        · exact e.symm
        · exact absurd (List.lt_trans (hb'.1 x hx) (ha'.1 y hy)) (List.lt_irrefl _)
    subst e
    rw [asc_perm ha'.2 hb'.2 (List.Perm.cons_inv h)]
theorem look_at' {z : Str} {v : Dt} : ∀ {fs : List (Str × Dt)} {i : Nat}, (fs.map (·.1)).Nodup → fs[i]? = some (z, v) → lookS fs z = some v
  | [], i, _, h => by simp at h
  | f :: fs, 0, nd, h => by
    obtain rfl : f = (z, v) := by simpa using h
    simp [lookS]
  | f :: fs, i + 1, nd, h => by
    have nd' := List.nodup_cons.mp (show (f.1 :: fs.map (·.1)).Nodup from nd)
    have h2 : fs[i]? = some (z, v) := by simpa using h
    have hz : ¬ f.1 = z := fun c => nd'.1 (List.mem_map.mpr ⟨(z, v), List.mem_of_getElem? h2, c.symm⟩)
    rw [← look_at' nd'.2 h2]
    simp [lookS, hz]
theorem fk_head {a c : Nat} {d : Dt} (h : FK a c d) : ∃ w rest, d = .tup (.str w :: rest) := by
  cases h <;> exact ⟨_, _, rfl⟩
theorem keysFor_fv {d : Dt} {ks : List Key} {k : Key} (h : KeysFor d ks) (hk : k ∈ ks) : FV d (kD k) := by
  rcases h with ⟨i, j, ns, rfl, rfl, _, b⟩ | ⟨i, ss, rfl, rfl, _, b⟩
  · obtain ⟨n, hn, rfl⟩ := List.mem_map.mp hk
    exact .number (b n hn).1 (b n hn).2
  · obtain ⟨s, hs, rfl⟩ := List.mem_map.mp hk
    exact .text (b s hs).1 (b s hs).2
theorem keysFor_asc {d : Dt} {ks : List Key} (h : KeysFor d ks) (t : Nat) : Asc ((ks.take t).map kD) := by
  rcases h with ⟨i, j, ns, rfl, rfl, pw, _⟩ | ⟨i, ss, rfl, rfl, pw, _⟩
  · refine .inl ⟨ns.take t, ?_, pw.sublist (List.take_sublist _ _)⟩
    rw [← List.map_take, List.map_map]
    rfl
  · refine .inr ⟨ss.take t, ?_, pw.sublist (List.take_sublist _ _)⟩
    rw [← List.map_take, List.map_map]
    rfl
theorem look_names {z : Str} {kk : Dt} : ∀ {fs gs : List (Str × Dt)}, gs.map (·.1) = fs.map (·.1) → lookS fs z = some kk → ∃ e, lookS gs z = some e ∧ (z, e) ∈ gs
  | [], _, _, h => by simp [lookS] at h
  | f :: fs, [], e, _ => by simp at e
  | f :: fs, g :: gs, e, h => by
    have e1 : g.1 = f.1 := (List.cons.inj (show g.1 :: gs.map (·.1) = f.1 :: fs.map (·.1) from e)).1
    have e2 : gs.map (·.1) = fs.map (·.1) := (List.cons.inj (show g.1 :: gs.map (·.1) = f.1 :: fs.map (·.1) from e)).2
    by_cases hz : f.1 = z
    · refine ⟨g.2, by simp [lookS, e1, hz], ?_⟩
      have : g = (z, g.2) := by rw [← hz, ← e1]
      rw [← this]
      exact List.mem_cons_self
    · have h' : lookS (f :: fs) z = lookS fs z := by simp [lookS, hz]
      rw [h'] at h
      obtain ⟨d, h1, h2⟩ := look_names e2 h
      exact ⟨d, by rw [← h1]; simp [lookS, e1, hz], List.mem_cons_of_mem _ h2⟩
theorem ok_law_row_values (T : Tx K mg ad) {f fk : Addr} {fd fdk : FuncData} (n : Nat) (F : Gn K mg "_law_row_values" s_law_row_values ["row", "kind"] f fd) (D_law_value : Gn K mg "_law_value" s_law_value ["row", "kind"] fk fdk)
    (G_law_value : FnOk P w K mg base CX0 (2 * n + 3) fk fdk ["row", "kind"] (svalue K n)) : FnOk P w K mg base CX0 (2 * n + 3 + 1) f fd ["row", "kind"] (srowv K n) := by
  obtain ⟨f_law_keys, fd_law_keys, D_law_keys⟩ := T.law_keys
  have G_law_keys := ok_law_keys (P := P) (w := w) (base := base) T D_law_keys
  refine F.F.ok sc_law_row_values (fun vs H Q E h => ?_) (fun cdv A outer s H vs Q E hr h => ?_)
  · obtain ⟨r, c, i, z, fs, kk, x, rfl, _⟩ := h
    rfl
  obtain ⟨r, c, i, z, fs, kk, x, rfl, hr0, hd, gk, asc, hl, lk, kf, i0, i8, q⟩ := h
  refine ⟨_, (@pss_cons _ _ _ _ _ (@ps_set _ _ 2 _ _ _ _ sc_law_row_values.nd rfl (Or.inr rfl) (pe_callTy (call_dictF rfl) rfl T.z_dict boot_dict (@pa_cons _ _ _ _ _ (@pe_ix _ _ _ _ _ _ _ (ix_tupPN (K := K) rfl) (@pe_ix _ _ _ _ _ _ _ (ix_tupPN (K := K) rfl) (pv 1) pe_int (fun _ _ => rfl)) pe_int (fun _ _ => rfl)) pa_nil (by rfl))) (by rfl) (by first | exact .inl rfl | exact .inr rfl | assumption)) (@pss_cons _ _ _ _ _ (@ps_set _ _ 3 _ _ _ _ sc_law_row_values.nd rfl (Or.inl rfl) (@pe_lst _ _ _ _ pa_nil) (by rfl) (by first | exact .inl rfl | exact .inr rfl | assumption)) (@pss_cons _ _ _ _ _ (@ps_set _ _ 4 _ _ _ _ sc_law_row_values.nd rfl (Or.inl rfl) (@pe_ix _ _ _ _ _ _ _ (ix_tupPN (K := K) rfl) (pv 1) pe_int (fun _ _ => rfl)) (by rfl) (by first | exact .inl rfl | exact .inr rfl | assumption)) (@pss_cons _ _ _ _ _ (@ps_if _ _ _ _ _ _ _ _ (@pt_val _ _ _ (pe_callB call_any rfl T.z_any boot_any (@pa_cons _ _ _ _ _ (pe_comp rfl (csR (sc := defScope s_law_row_values) (NL := ["name"]) (N := ["row", "kind", "fields", "items", "most", "key", "pairs", "name", "value"]) (ρ := [2]) (N' := ["name", "fields"]) rfl rfl rfl (by decide +kernel) (by decide +kernel) (by decide +kernel) rfl (by decide +kernel)) (pi_dict (pv 2)) (fun _ _ _ _ => (pg_name (i := 0) (show List.Nodup (α := Str) ["name", "fields"] by decide +kernel) rfl (Or.inl rfl))) (fun _ _ _ _ => (pe_cmpR (op_in_seqK (K := K) rfl) (@pe_ix _ _ _ _ _ _ _ (ix_tupPN (K := K) rfl) (pe_dget (u1 hr.units) (pv 1) (pv 0) (fun _ _ => rfl)) pe_int (fun _ _ => rfl)) (@pe_lst _ _ _ _ (@pa_cons _ _ _ _ _ pe_str (@pa_cons _ _ _ _ _ pe_str (@pa_cons _ _ _ _ _ pe_str pa_nil (by rfl)) (by rfl)) (by rfl))) rfl))) pa_nil (by rfl))) (by intro _; rfl)) (@pss_one _ _ _ (@ps_set _ _ 4 _ _ _ _ sc_law_row_values.nd rfl (Or.inl rfl) (pe_callB (call_min2 rfl) rfl T.z_min boot_min (@pa_cons _ _ _ _ _ (pv 4) (@pa_cons _ _ _ _ _ pe_int pa_nil (by rfl)) (by rfl))) (by rfl) (by first | exact .inl rfl | exact .inr rfl | assumption))) pss_nil) (@pss_cons _ _ _ _ _ (ps_for PassesOwn.never rfl (pi_listN (K := K) rfl (pe_slice sl_list (pe_call G_law_keys (hr.mono (by first | decide | omega)) rfl D_law_keys.m D_law_keys.F.kp D_law_keys.b .nil pass0 (@pa_cons _ _ _ _ _ (pv 0) (@pa_cons _ _ _ _ _ (pe_dget (u1 hr.units) (pv 2) (@pe_ix _ _ _ _ _ _ _ (ix_tupPN (K := K) rfl) (pv 1) pe_int (fun _ _ => rfl)) (fun _ _ => rfl)) pa_nil (by rfl)) (by rfl))) po_none (po_some (pv 4)))) (pg_name (i := 5) sc_law_row_values.nd rfl (Or.inl rfl))
        (@pss_cons _ _ _ _ _ (@ps_set _ _ 6 _ _ _ _ sc_law_row_values.nd rfl (Or.inl rfl) (@pe_lst _ _ _ _ pa_nil) (by rfl) (by first | exact .inl rfl | exact .inr rfl | assumption)) (@pss_cons _ _ _ _ _ (ps_for PassesOwn.never rfl (pi_listN (K := K) rfl (pe_callB (call_sortDR rfl) rfl T.z_sorted boot_sorted (@pa_cons _ _ _ _ _ (pv 2) pa_nil (by rfl)))) (pg_name (i := 7) sc_law_row_values.nd rfl (Or.inl rfl))
        (@pss_cons _ _ _ _ _ (@ps_set _ _ 8 _ _ _ _ sc_law_row_values.nd rfl (Or.inl rfl) (pv 5) (by rfl) (by first | exact .inl rfl | exact .inr rfl | assumption)) (@pss_cons _ _ _ _ _ (@ps_if _ _ _ _ _ _ _ _ (pt_cmpR op_ne (pv 7) (@pe_ix _ _ _ _ _ _ _ (ix_tupPN (K := K) rfl) (pv 1) pe_int (fun _ _ => rfl)) (nomark _)) (@pss_one _ _ _ (@ps_set _ _ 8 _ _ _ _ sc_law_row_values.nd rfl (Or.inl rfl) (pe_call G_law_value (hr.mono (by first | decide | omega)) rfl D_law_value.m D_law_value.F.kp D_law_value.b .nil pass0 (@pa_cons _ _ _ _ _ (pv 0) (@pa_cons _ _ _ _ _ (pe_dget (u1 hr.units) (pv 2) (pv 7) (fun _ _ => rfl)) pa_nil (by rfl)) (by rfl))) (by rfl) (by first | exact .inl rfl | exact .inr rfl | assumption))) pss_nil) (@pss_one _ _ _ (@ps_expr _ _ _ _ (pe_bm PySem.F.plainAttrs_list PySem.F.slot_list_append PySem.F.type_list_append mt_append (pv 6) (@pa_cons _ _ _ _ _ (@pe_tupPK _ K _ _ _ _ rfl (@pa_cons _ _ _ _ _ (pv 7) (@pa_cons _ _ _ _ _ (pv 8) pa_nil (by rfl)) (by rfl))) pa_nil (by rfl))) (by rfl)))))) (@pss_one _ _ _ (@ps_expr _ _ _ _ (pe_bm PySem.F.plainAttrs_list PySem.F.slot_list_append PySem.F.type_list_append mt_append (pv 3) (@pa_cons _ _ _ _ _ (@pe_tupPK _ K _ _ _ _ rfl (@pa_cons _ _ _ _ _ pe_str (@pa_cons _ _ _ _ _ (pe_callTy (call_tuplePN (K := K) rfl) rfl T.z_tuple boot_tuple (@pa_cons _ _ _ _ _ (pv 6) pa_nil (by rfl))) pa_nil (by rfl)) (by rfl))) pa_nil (by rfl))) (by rfl)))))) (@pss_one _ _ _ (@ps_ret _ _ _ _ (@pe_tupPK _ K _ _ _ _ rfl (@pa_cons _ _ _ _ _ pe_str (@pa_cons _ _ _ _ _ (pe_callTy (call_tuplePN (K := K) rfl) rfl T.z_tuple boot_tuple (@pa_cons _ _ _ _ _ (pv 3) pa_nil (by rfl))) pa_nil (by rfl)) (by rfl)))))))))), ?_⟩
  have nd := lt_nodup asc
  refine ⟨_, rfl, _, _, _, hd, rfl, rfl, fun v1 hv1 => ?_⟩
  refine ⟨_, _, _, hv1, rfl, rfl, fun v2 hv2 => ?_⟩
  refine ⟨v2, fs, rfl, hv2, nd, by omega, fun p H1 hpn g1 dq => ?_⟩
  obtain ⟨kvs, ep, ek, kval⟩ := dq
  have ek' : kvs.map (·.1) = (fs.map (·.1)).map (Sum.inr : Str → Key) := by rw [ek, List.map_map]; rfl
  have nrp : r ≠ p := ne_of_none hr0 hpn
  have lk8 : kvs.length = fs.length := by have := congrArg List.length ek; simpa using this
  refine ⟨(by show 0 ≤ sizeLine; decide), fun pf hpf => ?_⟩
  have g2 := same_new hpf (.lst [])
  have np : p ≠ pf := ne_of_none ep hpf
  have nrf : r ≠ pf := ne_of_none (g1 _ _ hr0) hpf
  have hd2 := (hd.same g1).same g2
  refine ⟨_, rfl, _, _, _, hd2, rfl, rfl, fun v hv => ?_⟩
  obtain rfl := isIntV hv
  have ep2 := g2 _ _ ep
  refine ⟨_, rfl, p, kvs, rfl, ep2, fun ob l hln => ?_⟩
  have bp : But p (upd H1 pf (.lst [])) (upd (upd H1 pf (.lst [])) p (.frz ob (.dK kvs))) := But.put
  have eF : (upd (upd H1 pf (.lst [])) p (.frz ob (.dK kvs))) p = some (.frz ob (.dK kvs)) := upd_same
  have rF := bp _ _ nrp (g2 _ _ (g1 _ _ hr0))
  have fF := bp _ _ np.symm (upd_same (H := H1) (a := pf) (o := .lst []))
  have hdF := isP_butD ep2 bp hd2
  have kvF : ∀ w d, lookS fs w = some d → ∃ v, valV kvs (Sum.inr w : Key) = some v ∧ IsP K (upd (upd H1 pf (.lst [])) p (.frz ob (.dK kvs))) d v := fun w d e => by
    obtain ⟨v, h1, h2⟩ := (kval w).2 d e
    exact ⟨v, h1, isP_butD ep2 bp (h2.same g2)⟩
  have SF : Same H (upd (upd H1 pf (.lst [])) p (.frz ob (.dK kvs))) := fun a o e => bp a o (ne_of_none e hpn) (g2 _ _ (g1 _ _ e))
  generalize upd (upd H1 pf (.lst [])) p (.frz ob (.dK kvs)) = HF at hln bp eF rF fF hdF kvF SF ⊢
  refine comp_dictR (a := p) (ob := ob) (kvs := kvs) (fun j ys σ H' => ∃ bs : List Bool, Same HF H' ∧ H' l = some (.lst ys) ∧ ys = bls bs ∧ ys.length ≤ j ∧ ∃ v1, σ = [v1, some (.ref p)])
    ⟨[], same_new hln _, upd_same, rfl, Nat.le_refl _, none, rfl⟩ (fun j ys σ H' _ pv => by
      obtain ⟨_, s, _⟩ := pv
      exact s _ _ eF) ?_ ?_
  · rintro j ⟨key, v0⟩ ys σ H3 N hj ⟨bs, s3, e3, rfl, hle, v1, rfl⟩ next
    have hj8 : j < kvs.length := (List.getElem?_eq_some_iff.mp hj).1
    have hk : (kvs.map (·.1))[j]? = some key := by rw [List.getElem?_map, hj]; rfl
    rw [ek, List.getElem?_map] at hk
    obtain ⟨⟨wf, d⟩, hf, rfl⟩ := Option.map_eq_some_iff.mp hk
    obtain ⟨v9, h9, hv9⟩ := kvF wf d (look_at' nd hf)
    obtain ⟨a9, ct9, _, hfk⟩ := gk _ (List.mem_of_getElem? hf)
    obtain ⟨w', rest, ed⟩ := fk_head hfk
    have ed' : d = .tup (.str w' :: rest) := ed
    subst ed'
    have at1 : atI (Dt.str w' :: rest) ((0 : Nat) : Int) = some (.str w') := atI_nat (by simp)
    refine ⟨_, rfl, _, rfl, p, v9, rfl, .inl ⟨kvs, Sum.inr wf, .inr ⟨ob, s3 _ _ eF⟩, rfl, h9.symm⟩, _, _, _, hv9.same s3, rfl, at1, fun v hv => ?_⟩
    obtain rfl := isStrV hv
    refine ⟨(by show 3 ≤ sizeLine; decide), fun p4 hp4 => ?_⟩
    have g4 := same_new hp4 (.lst [.str "list", .str "rows", .str "record"])
    have e4 := g4 _ _ e3
    refine ⟨p4, _, rfl, .inl (SqL.of upd_same), rfl, rfl, e4, small1000 (by omega), next _ _ _ ⟨bs ++ [inV (V.str w') [V.str "list", V.str "rows", V.str "record"]], fun c o ec => ?_, upd_same, ?_, ?_, _, rfl⟩⟩
    · rw [upd_ne (ne_of_none ec hln)]
      exact g4 _ _ (s3 _ _ ec)
    · unfold bls; rw [List.map_append]; rfl
    · rw [List.length_append]; simp only [List.length_cons, List.length_nil]; omega
  · rintro ys σ H3 ⟨bs, s3, e3, rfl, hle, v1, rfl⟩
    refine ⟨l, bs, rfl, rfl, SqL.of e3, _, rfl, ?_⟩
    refine ite2 (fun _ => ?_) (fun _ => ?_)
    · refine ⟨_, rfl, _, _, rfl, ?_⟩
      obtain ⟨m0, m1⟩ : (0 : Int) ≤ (if 2 < i then 2 else i) ∧ (if 2 < i then 2 else i) ≤ i := by split <;> omega
      generalize (if (2 : Int) < i then (2 : Int) else i) = mst at m0 m1 ⊢
      have eP := s3 _ _ eF
      have r3 := s3 _ _ rF
      have hd3 := hdF.same s3
      obtain ⟨vk, h9, hvk⟩ := kvF z kk lk
      refine ⟨_, rfl, _, rfl, _, rfl, _, _, _, hd3, rfl, rfl, fun v hv => ?_⟩
      obtain rfl := isStrV hv
      refine ⟨p, vk, rfl, .inl ⟨kvs, Sum.inr z, .inr ⟨ob, eP⟩, rfl, h9.symm⟩, ?_⟩
      refine ⟨r, c, kk, vk, rfl, r3, hvk.same s3, kf, fun pk ks c4 H4 b4 hpk r4 e4 l4 kfor => ?_⟩
      refine ⟨_, rfl, _, rfl, pk, _, rfl, SqL.of e4, fun p5 hp5 => ?_⟩
      rw [cut_to _ _ m0]
      have g5 := same_new hp5 (.lst ((ks.map kV).take mst.toNat))
      have e5 : (upd H4 p5 (.lst ((ks.map kV).take mst.toNat))) p5 = some (.lst ((ks.map kV).take mst.toNat)) := upd_same
      have F4 : H4 pf = some (.lst []) := b4 _ _ nrf.symm (s3 _ _ fF)
      have P4 : H4 p = some (.frz ob (.dK kvs)) := b4 _ _ nrp.symm eP
      have n5r : p5 ≠ r := (ne_of_none r4 hp5).symm
      have n5f : p5 ≠ pf := (ne_of_none F4 hp5).symm
      generalize upd H4 p5 (.lst ((ks.map kV).take mst.toNat)) = H5 at g5 e5 ⊢
      have B5 : But r H3 H5 := b4.trans (But.same g5)
      have P5 := g5 _ _ P4
      have F5 := g5 _ _ F4
      have r5 := g5 _ _ r4
      have hd5 := hd3.but r3 B5
      have kv5 : ∀ w d, lookS fs w = some d → ∃ v, valV kvs (Sum.inr w : Key) = some v ∧ IsP K H5 d v := fun w d e => by
        obtain ⟨v, h1, h2⟩ := kvF w d e
        exact ⟨v, h1, (h2.same s3).but r3 B5⟩
      refine ⟨p5, rfl, ⟨_, SqL.of e5⟩, for_list (xs := (ks.map kV).take mst.toNat) (fun t σ H' => ∃ (its : List Dt) (ys : List V) (c' : Int) (w5 w6 w7 w8 : Option V), But2 r pf H5 H' ∧ H' r = some (.lst [.int c']) ∧ H' pf = some (.lst ys) ∧ IsPs K H' its ys ∧ (∀ v ∈ its, FV (.tup [.str "record", .tup (fs.map prD)]) v) ∧ (its.map fun v => keyD v z) = (ks.take t).map kD ∧ its.length = t ∧ σ = [some (.ref r), some x, some (.ref p), some (.ref pf), some (.int mst), w5, w6, w7, w8])
        ⟨[], [], c4, none, none, none, none, But2.refl _ _ _, r5, F5, .nil, (by intro v hv; cases hv), rfl, rfl, rfl⟩ (fun t σ H' _ pv => by
          obtain ⟨_, _, _, _, _, _, _, b, _⟩ := pv
          exact SqL.of (b _ _ n5r n5f e5)) ?_ ?_⟩
      · rintro t u σ H6 hu ⟨its, ys, c6, w5, w6, w7, w8, b6, r6, f6, hp6, fv6, ke6, le6, rfl⟩
        have hu' : (ks.map kV)[t]? = some u := by
          rw [List.getElem?_take] at hu
          split at hu
          · exact hu
          · cases hu
        rw [List.getElem?_map] at hu'
        obtain ⟨key, hkey, rfl⟩ := Option.map_eq_some_iff.mp hu'
        have ht8 : t < ks.length := (List.getElem?_eq_some_iff.mp hkey).1
        have np6 : p ≠ pf := np
        have P6 := b6 _ _ nrp.symm np6 P5
        refine ⟨(by show 0 ≤ sizeLine; decide), fun pp hpp => ?_⟩
        have g7 := same_new hpp (.lst [])
        have rp : r ≠ pp := ne_of_none r6 hpp
        have fp : pf ≠ pp := ne_of_none f6 hpp
        refine ⟨_, rfl, p, kvs, fs.map (·.1), rfl, .inr ⟨ob, g7 _ _ P6⟩, ek', by rw [List.length_map]; omega, fun pn ss' hpn' perm srt => ?_⟩
        obtain rfl := asc_perm (sorted_pw srt (perm.nodup_iff.mpr nd)) asc perm
        have g8 := same_new hpn' (.lst ((fs.map (·.1)).map V.str))
        have e8 : (upd (upd H6 pp (.lst [])) pn (.lst ((fs.map (·.1)).map V.str))) pn = some (.lst ((fs.map (·.1)).map V.str)) := upd_same
        have npn : pn ≠ pp := fun c => by rw [c, upd_same] at hpn'; cases hpn'
        have npr : pn ≠ r := fun c => by rw [c, g7 _ _ r6] at hpn'; cases hpn'
        have pp8 : (upd (upd H6 pp (.lst [])) pn (.lst ((fs.map (·.1)).map V.str))) pp = some (.lst []) := g8 _ _ upd_same
        have S8 : Same H6 (upd (upd H6 pp (.lst [])) pn (.lst ((fs.map (·.1)).map V.str))) := g7.trans g8
        generalize upd (upd H6 pp (.lst [])) pn (.lst ((fs.map (·.1)).map V.str)) = H8 at e8 pp8 S8 g8 ⊢
        have r8 := S8 _ _ r6
        have hd8 := (is_but2 r5 F5 b6 hd5).same S8
        have kv8 : ∀ w d, lookS fs w = some d → ∃ v, valV kvs (Sum.inr w : Key) = some v ∧ IsP K H8 d v := fun w d e => by
          obtain ⟨v, h1, h2⟩ := kv5 w d e
          exact ⟨v, h1, (is_but2 r5 F5 b6 h2).same S8⟩
        have P8 := S8 _ _ P6
        have hkd : ∀ (H' : Hp), IsP K H' (kD key) (kV key) := fun H' => by
          cases key with
          | inl i => exact .int
          | inr s => exact .str
        have fvk : FV kk (kD key) := keysFor_fv kfor (List.mem_of_getElem? hkey)
        refine ⟨pn, rfl, ⟨_, SqL.of e8⟩, for_list (xs := (fs.map (·.1)).map V.str) (fun j σ H' => ∃ (gs : List (Str × Dt)) (ys' : List V) (c' : Int) (w7 w8 : Option V), But2 r pp H8 H' ∧ H' r = some (.lst [.int c']) ∧ H' pp = some (.lst ys') ∧ IsPs K H' (gs.map prD) ys' ∧ gs.map (·.1) = (fs.take j).map (·.1) ∧ (∀ (i : Nat) (f g : Str × Dt), fs[i]? = some f → gs[i]? = some g → FV f.2 g.2) ∧ (∀ g ∈ gs, g.1 = z → g.2 = kD key) ∧ σ = [some (.ref r), some x, some (.ref p), some (.ref pf), some (.int mst), some (kV key), some (.ref pp), w7, w8])
          ⟨[], [], c6, _, _, But2.refl _ _ _, r8, pp8, .nil, rfl, (by intro i f g _ e; simp at e), (by intro g hg; cases hg), rfl⟩ (fun j σ H' _ pv => by
            obtain ⟨_, _, _, _, _, b, _⟩ := pv
            exact SqL.of (b _ _ npr npn e8)) ?_ ?_⟩
        · rintro j un σ H9 hun ⟨gs, ys', c9, w7, w8, b9, r9, p9, hp9, en, gv, kz, rfl⟩
          rw [List.getElem?_map] at hun
          obtain ⟨wf, hwf, rfl⟩ := Option.map_eq_some_iff.mp hun
          rw [List.getElem?_map] at hwf
          obtain ⟨⟨wf', d⟩, hf, rfl⟩ := Option.map_eq_some_iff.mp hwf
          have hjf : j < fs.length := (List.getElem?_eq_some_iff.mp hf).1
          have lg : gs.length = j := by
            have := congrArg List.length en
            simp only [List.length_map, List.length_take] at this
            omega
          have ly : ys'.length = j := by rw [← hp9.length, List.length_map, lg]
          have hd9 := is_but2 r8 pp8 b9 hd8
          have done : ∀ (e : Dt) (v : V) (c10 : Int) (H10 : Hp), But r H9 H10 → H10 r = some (.lst [.int c10]) → IsP K H10 e v → FV d e → (wf' = z → e = kD key) →
              ∀ (v11 : V) (H11 : Hp), Same H10 H11 → IsP K H11 (prD (wf', e)) v11 → ∃ (gs : List (Str × Dt)) (ys'' : List V) (c' : Int), But2 r pp H8 (upd H11 pp (.lst (ys' ++ [v11]))) ∧ (upd H11 pp (.lst (ys' ++ [v11]))) r = some (.lst [.int c']) ∧ (upd H11 pp (.lst (ys' ++ [v11]))) pp = some (.lst ys'') ∧ H11 pp = some (.lst ys') ∧ IsPs K (upd H11 pp (.lst (ys' ++ [v11]))) (gs.map prD) ys'' ∧ gs.map (·.1) = (fs.take (j + 1)).map (·.1) ∧ (∀ (i : Nat) (f g : Str × Dt), fs[i]? = some f → gs[i]? = some g → FV f.2 g.2) ∧ (∀ g ∈ gs, g.1 = z → g.2 = kD key) := by
            intro e v c10 H10 b10 r10 hv10 fv10 kz10 v11 H11 g11 hv11
            have p11 : H11 pp = some (.lst ys') := g11 _ _ (b10 _ _ rp.symm p9)
            have b12 : But pp H11 (upd H11 pp (.lst (ys' ++ [v11]))) := But.put
            refine ⟨gs ++ [(wf', e)], ys' ++ [v11], c10, fun y o n1 n2 ey => ?_, by rw [upd_ne rp]; exact g11 _ _ r10, upd_same, p11, ?_, ?_, fun jj f g hjf' hjg => ?_, fun g hg hgz => ?_⟩
            · rw [upd_ne n2]
              exact g11 _ _ (b10 y o n1 (b9 y o n1 n2 ey))
            · rw [List.map_append]
              exact (((hp9.but r9 b10).same g11).but p11 b12).append (.cons (hv11.but p11 b12) .nil)
            · rw [List.map_append, en, List.take_add_one, hf, List.map_append]
              rfl
            · by_cases hj : jj < gs.length
              · rw [List.getElem?_append_left hj] at hjg
                exact gv jj f g hjf' hjg
              · rw [List.getElem?_append_right (by omega)] at hjg
                have hj2 : jj = j := by
                  have := (List.getElem?_eq_some_iff.mp hjg).1
                  simp only [List.length_cons, List.length_nil] at this
                  omega
                subst hj2
                rw [lg, Nat.sub_self] at hjg
                obtain rfl : (wf', e) = g := by simpa using hjg
                rw [hf] at hjf'
                obtain rfl := Option.some.inj hjf'
                exact fv10
            · rcases List.mem_append.mp hg with h1 | h1
              · exact kz g h1 hgz
              · obtain rfl := List.mem_singleton.mp h1
                exact kz10 hgz
          refine ⟨_, rfl, _, rfl, _, rfl, _, _, _, hd9, rfl, rfl, fun v hv => ?_⟩
          obtain rfl := isStrV hv
          refine ⟨rfl, _, rfl, ?_⟩
          by_cases hz : wf' = z
          · subst hz
            have ed : d = kk := Option.some.inj ((look_at' nd hf).symm.trans lk)
            subst ed
            refine iteN' ?_
            refine ⟨_, rfl, .inl ⟨rfl, _, SqL.of p9⟩, _, rfl, _, rfl, [.str wf', kD key], .cons .str (.cons (hkd _) .nil), (by show 2 ≤ sizeLine; decide), fun v11 H11 g11 hv11 => ?_⟩
            obtain ⟨gs', ys'', c', h1, h2, h3, h4, h5, h6, h7, h8⟩ := done (kD key) (kV key) c9 H9 (But.refl _ _) r9 (hkd _) fvk (fun _ => rfl) v11 H11 g11 hv11
            exact ⟨pp, ys', _, rfl, rfl, h4, small1000 (by omega), gs', ys'', c', _, _, h1, h2, h3, h5, h6, h7, h8, rfl⟩
          · refine iteY' (strNe hz) ?_
            obtain ⟨v9, h9', hv9⟩ := kv8 wf' d (look_at' nd hf)
            obtain ⟨a9, ct9, ha9, fk9⟩ := gk _ (List.mem_of_getElem? hf)
            refine ⟨_, rfl, _, rfl, _, rfl, p, v9, rfl, .inl ⟨kvs, Sum.inr wf', .inr ⟨ob, b9 _ _ nrp.symm (fun c => by rw [c, pp8] at P8; cases P8) P8⟩, rfl, h9'.symm⟩, ?_⟩
            refine ⟨r, c9, a9, ct9, d, v9, ha9, rfl, r9, is_but2 r8 pp8 b9 hv9, fk9, fun v e c10 H10 b10 r10 hv10 fv10 => ?_⟩
            refine ⟨_, rfl, .inl ⟨rfl, _, SqL.of (b10 _ _ rp.symm p9)⟩, _, rfl, _, rfl, [.str wf', e], .cons .str (.cons hv10 .nil), (by show 2 ≤ sizeLine; decide), fun v11 H11 g11 hv11 => ?_⟩
            obtain ⟨gs', ys'', c', h1, h2, h3, h4, h5, h6, h7, h8⟩ := done e v c10 H10 b10 r10 hv10 fv10 (fun c => absurd c hz) v11 H11 g11 hv11
            exact ⟨pp, ys', _, rfl, rfl, h4, small1000 (by omega), gs', ys'', c', _, _, h1, h2, h3, h5, h6, h7, h8, rfl⟩
        · rintro σ H9 ⟨gs, ys', c9, w7, w8, b9, r9, p9, hp9, en, gv, kz, rfl⟩
          rw [List.length_map, List.length_map, List.take_length] at en
          have f9 : H9 pf = some (.lst ys) := b9 _ _ nrf.symm fp (S8 _ _ f6)
          refine ⟨_, rfl, .inl ⟨rfl, _, SqL.of f9⟩, _, rfl, pp, ys', _, rfl, SqL.of p9, hp9, fun v10 H10 g10 hv10 => ?_⟩
          refine ⟨[.str "record", .tup (gs.map prD)], .cons .str (.cons hv10 .nil), (by show 2 ≤ sizeLine; decide), fun v11 H11 g11 hv11 => ?_⟩
          have f11 := g11 _ _ (g10 _ _ f9)
          have b12 : But pf H11 (upd H11 pf (.lst (ys ++ [v11]))) := But.put
          have ly6 : ys.length = t := by rw [← hp6.length, le6]
          refine ⟨pf, ys, _, rfl, rfl, f11, small1000 (by omega), ?_⟩
          refine ⟨its ++ [.tup [.str "record", .tup (gs.map prD)]], ys ++ [v11], c9, _, _, _, _, fun y o n1 n2 ey => ?_, by rw [upd_ne nrf]; exact g11 _ _ (g10 _ _ r9), upd_same, ?_, fun v hv => ?_, ?_, by rw [List.length_append, le6]; rfl, rfl⟩
          · rw [upd_ne n2]
            have ey6 := b6 y o n1 n2 ey
            exact g11 _ _ (g10 _ _ (b9 y o n1 (ne_of_none ey6 hpp) (S8 _ _ ey6)))
          · exact ((((iss_but2 r8 pp8 b9 (hp6.same S8)).same g10).same g11).but f11 b12).append (.cons (hv11.but f11 b12) .nil)
          · rcases List.mem_append.mp hv with h1 | h1
            · exact fv6 v h1
            · obtain rfl := List.mem_singleton.mp h1
              exact .rcd en gv
          · rw [List.map_append, ke6, List.take_add_one, hkey, List.map_append]
            obtain ⟨e, l1, l2⟩ := look_names en lk
            have l3 := kz _ l2 rfl
            show _ ++ [keyD (.tup [.str "record", .tup (gs.map prD)]) z] = _
            have : keyD (.tup [.str "record", .tup (gs.map prD)]) z = kD key := by
              show (lookD (gs.map prD) z).getD .non = _
              rw [lookD_map, l1]
              exact l3
            rw [this]
            rfl
      · rintro σ H6 ⟨its, ys, c6, w5, w6, w7, w8, b6, r6, f6, hp6, fv6, ke6, le6, rfl⟩
        refine ⟨_, rfl, pf, ys, _, rfl, SqL.of f6, hp6, fun v7 H7 g7 hv7 => ?_⟩
        refine ⟨[.str "rows", .tup its], .cons .str (.cons hv7 .nil), (by show 2 ≤ sizeLine; decide), fun v8 H8 g8 hv8 => ?_⟩
        have hfH : H pf = none := g1.free hpf
        refine q v8 its c6 H8 (fun y o ny ey => g8 _ _ (g7 _ _ (b6 y o ny (ne_of_none ey hfH) (B5 y o ny (s3 _ _ (SF y o ey)))))) (g8 _ _ (g7 _ _ r6)) hv8 (.rows fv6 ?_ ?_)
        · rw [le6, List.length_take]
          omega
        · rw [ke6]
          exact keysFor_asc kfor _
    · obtain ⟨mst, rfl⟩ : ∃ mst : Int, mst = i := ⟨i, rfl⟩
      have m0 := i0
      have m1 := Int.le_refl mst
      have eP := s3 _ _ eF
      have r3 := s3 _ _ rF
      have hd3 := hdF.same s3
      obtain ⟨vk, h9, hvk⟩ := kvF z kk lk
      refine ⟨_, rfl, _, rfl, _, rfl, _, _, _, hd3, rfl, rfl, fun v hv => ?_⟩
      obtain rfl := isStrV hv
      refine ⟨p, vk, rfl, .inl ⟨kvs, Sum.inr z, .inr ⟨ob, eP⟩, rfl, h9.symm⟩, ?_⟩
      refine ⟨r, c, kk, vk, rfl, r3, hvk.same s3, kf, fun pk ks c4 H4 b4 hpk r4 e4 l4 kfor => ?_⟩
      refine ⟨_, rfl, _, rfl, pk, _, rfl, SqL.of e4, fun p5 hp5 => ?_⟩
      rw [cut_to _ _ m0]
      have g5 := same_new hp5 (.lst ((ks.map kV).take mst.toNat))
      have e5 : (upd H4 p5 (.lst ((ks.map kV).take mst.toNat))) p5 = some (.lst ((ks.map kV).take mst.toNat)) := upd_same
      have F4 : H4 pf = some (.lst []) := b4 _ _ nrf.symm (s3 _ _ fF)
      have P4 : H4 p = some (.frz ob (.dK kvs)) := b4 _ _ nrp.symm eP
      have n5r : p5 ≠ r := (ne_of_none r4 hp5).symm
      have n5f : p5 ≠ pf := (ne_of_none F4 hp5).symm
      generalize upd H4 p5 (.lst ((ks.map kV).take mst.toNat)) = H5 at g5 e5 ⊢
      have B5 : But r H3 H5 := b4.trans (But.same g5)
      have P5 := g5 _ _ P4
      have F5 := g5 _ _ F4
      have r5 := g5 _ _ r4
      have hd5 := hd3.but r3 B5
      have kv5 : ∀ w d, lookS fs w = some d → ∃ v, valV kvs (Sum.inr w : Key) = some v ∧ IsP K H5 d v := fun w d e => by
        obtain ⟨v, h1, h2⟩ := kvF w d e
        exact ⟨v, h1, (h2.same s3).but r3 B5⟩
      refine ⟨p5, rfl, ⟨_, SqL.of e5⟩, for_list (xs := (ks.map kV).take mst.toNat) (fun t σ H' => ∃ (its : List Dt) (ys : List V) (c' : Int) (w5 w6 w7 w8 : Option V), But2 r pf H5 H' ∧ H' r = some (.lst [.int c']) ∧ H' pf = some (.lst ys) ∧ IsPs K H' its ys ∧ (∀ v ∈ its, FV (.tup [.str "record", .tup (fs.map prD)]) v) ∧ (its.map fun v => keyD v z) = (ks.take t).map kD ∧ its.length = t ∧ σ = [some (.ref r), some x, some (.ref p), some (.ref pf), some (.int mst), w5, w6, w7, w8])
        ⟨[], [], c4, none, none, none, none, But2.refl _ _ _, r5, F5, .nil, (by intro v hv; cases hv), rfl, rfl, rfl⟩ (fun t σ H' _ pv => by
          obtain ⟨_, _, _, _, _, _, _, b, _⟩ := pv
          exact SqL.of (b _ _ n5r n5f e5)) ?_ ?_⟩
      · rintro t u σ H6 hu ⟨its, ys, c6, w5, w6, w7, w8, b6, r6, f6, hp6, fv6, ke6, le6, rfl⟩
        have hu' : (ks.map kV)[t]? = some u := by
          rw [List.getElem?_take] at hu
          split at hu
          · exact hu
          · cases hu
        rw [List.getElem?_map] at hu'
        obtain ⟨key, hkey, rfl⟩ := Option.map_eq_some_iff.mp hu'
        have ht8 : t < ks.length := (List.getElem?_eq_some_iff.mp hkey).1
        have np6 : p ≠ pf := np
        have P6 := b6 _ _ nrp.symm np6 P5
        refine ⟨(by show 0 ≤ sizeLine; decide), fun pp hpp => ?_⟩
        have g7 := same_new hpp (.lst [])
        have rp : r ≠ pp := ne_of_none r6 hpp
        have fp : pf ≠ pp := ne_of_none f6 hpp
        refine ⟨_, rfl, p, kvs, fs.map (·.1), rfl, .inr ⟨ob, g7 _ _ P6⟩, ek', by rw [List.length_map]; omega, fun pn ss' hpn' perm srt => ?_⟩
        obtain rfl := asc_perm (sorted_pw srt (perm.nodup_iff.mpr nd)) asc perm
        have g8 := same_new hpn' (.lst ((fs.map (·.1)).map V.str))
        have e8 : (upd (upd H6 pp (.lst [])) pn (.lst ((fs.map (·.1)).map V.str))) pn = some (.lst ((fs.map (·.1)).map V.str)) := upd_same
        have npn : pn ≠ pp := fun c => by rw [c, upd_same] at hpn'; cases hpn'
        have npr : pn ≠ r := fun c => by rw [c, g7 _ _ r6] at hpn'; cases hpn'
        have pp8 : (upd (upd H6 pp (.lst [])) pn (.lst ((fs.map (·.1)).map V.str))) pp = some (.lst []) := g8 _ _ upd_same
        have S8 : Same H6 (upd (upd H6 pp (.lst [])) pn (.lst ((fs.map (·.1)).map V.str))) := g7.trans g8
        generalize upd (upd H6 pp (.lst [])) pn (.lst ((fs.map (·.1)).map V.str)) = H8 at e8 pp8 S8 g8 ⊢
        have r8 := S8 _ _ r6
        have hd8 := (is_but2 r5 F5 b6 hd5).same S8
        have kv8 : ∀ w d, lookS fs w = some d → ∃ v, valV kvs (Sum.inr w : Key) = some v ∧ IsP K H8 d v := fun w d e => by
          obtain ⟨v, h1, h2⟩ := kv5 w d e
          exact ⟨v, h1, (is_but2 r5 F5 b6 h2).same S8⟩
        have P8 := S8 _ _ P6
        have hkd : ∀ (H' : Hp), IsP K H' (kD key) (kV key) := fun H' => by
          cases key with
          | inl i => exact .int
          | inr s => exact .str
        have fvk : FV kk (kD key) := keysFor_fv kfor (List.mem_of_getElem? hkey)
        refine ⟨pn, rfl, ⟨_, SqL.of e8⟩, for_list (xs := (fs.map (·.1)).map V.str) (fun j σ H' => ∃ (gs : List (Str × Dt)) (ys' : List V) (c' : Int) (w7 w8 : Option V), But2 r pp H8 H' ∧ H' r = some (.lst [.int c']) ∧ H' pp = some (.lst ys') ∧ IsPs K H' (gs.map prD) ys' ∧ gs.map (·.1) = (fs.take j).map (·.1) ∧ (∀ (i : Nat) (f g : Str × Dt), fs[i]? = some f → gs[i]? = some g → FV f.2 g.2) ∧ (∀ g ∈ gs, g.1 = z → g.2 = kD key) ∧ σ = [some (.ref r), some x, some (.ref p), some (.ref pf), some (.int mst), some (kV key), some (.ref pp), w7, w8])
          ⟨[], [], c6, _, _, But2.refl _ _ _, r8, pp8, .nil, rfl, (by intro i f g _ e; simp at e), (by intro g hg; cases hg), rfl⟩ (fun j σ H' _ pv => by
            obtain ⟨_, _, _, _, _, b, _⟩ := pv
            exact SqL.of (b _ _ npr npn e8)) ?_ ?_⟩
        · rintro j un σ H9 hun ⟨gs, ys', c9, w7, w8, b9, r9, p9, hp9, en, gv, kz, rfl⟩
          rw [List.getElem?_map] at hun
          obtain ⟨wf, hwf, rfl⟩ := Option.map_eq_some_iff.mp hun
          rw [List.getElem?_map] at hwf
          obtain ⟨⟨wf', d⟩, hf, rfl⟩ := Option.map_eq_some_iff.mp hwf
          have hjf : j < fs.length := (List.getElem?_eq_some_iff.mp hf).1
          have lg : gs.length = j := by
            have := congrArg List.length en
            simp only [List.length_map, List.length_take] at this
            omega
          have ly : ys'.length = j := by rw [← hp9.length, List.length_map, lg]
          have hd9 := is_but2 r8 pp8 b9 hd8
          have done : ∀ (e : Dt) (v : V) (c10 : Int) (H10 : Hp), But r H9 H10 → H10 r = some (.lst [.int c10]) → IsP K H10 e v → FV d e → (wf' = z → e = kD key) →
              ∀ (v11 : V) (H11 : Hp), Same H10 H11 → IsP K H11 (prD (wf', e)) v11 → ∃ (gs : List (Str × Dt)) (ys'' : List V) (c' : Int), But2 r pp H8 (upd H11 pp (.lst (ys' ++ [v11]))) ∧ (upd H11 pp (.lst (ys' ++ [v11]))) r = some (.lst [.int c']) ∧ (upd H11 pp (.lst (ys' ++ [v11]))) pp = some (.lst ys'') ∧ H11 pp = some (.lst ys') ∧ IsPs K (upd H11 pp (.lst (ys' ++ [v11]))) (gs.map prD) ys'' ∧ gs.map (·.1) = (fs.take (j + 1)).map (·.1) ∧ (∀ (i : Nat) (f g : Str × Dt), fs[i]? = some f → gs[i]? = some g → FV f.2 g.2) ∧ (∀ g ∈ gs, g.1 = z → g.2 = kD key) := by
            intro e v c10 H10 b10 r10 hv10 fv10 kz10 v11 H11 g11 hv11
            have p11 : H11 pp = some (.lst ys') := g11 _ _ (b10 _ _ rp.symm p9)
            have b12 : But pp H11 (upd H11 pp (.lst (ys' ++ [v11]))) := But.put
            refine ⟨gs ++ [(wf', e)], ys' ++ [v11], c10, fun y o n1 n2 ey => ?_, by rw [upd_ne rp]; exact g11 _ _ r10, upd_same, p11, ?_, ?_, fun jj f g hjf' hjg => ?_, fun g hg hgz => ?_⟩
            · rw [upd_ne n2]
              exact g11 _ _ (b10 y o n1 (b9 y o n1 n2 ey))
            · rw [List.map_append]
              exact (((hp9.but r9 b10).same g11).but p11 b12).append (.cons (hv11.but p11 b12) .nil)
            · rw [List.map_append, en, List.take_add_one, hf, List.map_append]
              rfl
            · by_cases hj : jj < gs.length
              · rw [List.getElem?_append_left hj] at hjg
                exact gv jj f g hjf' hjg
              · rw [List.getElem?_append_right (by omega)] at hjg
                have hj2 : jj = j := by
                  have := (List.getElem?_eq_some_iff.mp hjg).1
                  simp only [List.length_cons, List.length_nil] at this
                  omega
                subst hj2
                rw [lg, Nat.sub_self] at hjg
                obtain rfl : (wf', e) = g := by simpa using hjg
                rw [hf] at hjf'
                obtain rfl := Option.some.inj hjf'
                exact fv10
            · rcases List.mem_append.mp hg with h1 | h1
              · exact kz g h1 hgz
              · obtain rfl := List.mem_singleton.mp h1
                exact kz10 hgz
          refine ⟨_, rfl, _, rfl, _, rfl, _, _, _, hd9, rfl, rfl, fun v hv => ?_⟩
          obtain rfl := isStrV hv
          refine ⟨rfl, _, rfl, ?_⟩
          by_cases hz : wf' = z
          · subst hz
            have ed : d = kk := Option.some.inj ((look_at' nd hf).symm.trans lk)
            subst ed
            refine iteN' ?_
            refine ⟨_, rfl, .inl ⟨rfl, _, SqL.of p9⟩, _, rfl, _, rfl, [.str wf', kD key], .cons .str (.cons (hkd _) .nil), (by show 2 ≤ sizeLine; decide), fun v11 H11 g11 hv11 => ?_⟩
            obtain ⟨gs', ys'', c', h1, h2, h3, h4, h5, h6, h7, h8⟩ := done (kD key) (kV key) c9 H9 (But.refl _ _) r9 (hkd _) fvk (fun _ => rfl) v11 H11 g11 hv11
            exact ⟨pp, ys', _, rfl, rfl, h4, small1000 (by omega), gs', ys'', c', _, _, h1, h2, h3, h5, h6, h7, h8, rfl⟩
          · refine iteY' (strNe hz) ?_
            obtain ⟨v9, h9', hv9⟩ := kv8 wf' d (look_at' nd hf)
            obtain ⟨a9, ct9, ha9, fk9⟩ := gk _ (List.mem_of_getElem? hf)
            refine ⟨_, rfl, _, rfl, _, rfl, p, v9, rfl, .inl ⟨kvs, Sum.inr wf', .inr ⟨ob, b9 _ _ nrp.symm (fun c => by rw [c, pp8] at P8; cases P8) P8⟩, rfl, h9'.symm⟩, ?_⟩
            refine ⟨r, c9, a9, ct9, d, v9, ha9, rfl, r9, is_but2 r8 pp8 b9 hv9, fk9, fun v e c10 H10 b10 r10 hv10 fv10 => ?_⟩
            refine ⟨_, rfl, .inl ⟨rfl, _, SqL.of (b10 _ _ rp.symm p9)⟩, _, rfl, _, rfl, [.str wf', e], .cons .str (.cons hv10 .nil), (by show 2 ≤ sizeLine; decide), fun v11 H11 g11 hv11 => ?_⟩
            obtain ⟨gs', ys'', c', h1, h2, h3, h4, h5, h6, h7, h8⟩ := done e v c10 H10 b10 r10 hv10 fv10 (fun c => absurd c hz) v11 H11 g11 hv11
            exact ⟨pp, ys', _, rfl, rfl, h4, small1000 (by omega), gs', ys'', c', _, _, h1, h2, h3, h5, h6, h7, h8, rfl⟩
        · rintro σ H9 ⟨gs, ys', c9, w7, w8, b9, r9, p9, hp9, en, gv, kz, rfl⟩
          rw [List.length_map, List.length_map, List.take_length] at en
          have f9 : H9 pf = some (.lst ys) := b9 _ _ nrf.symm fp (S8 _ _ f6)
          refine ⟨_, rfl, .inl ⟨rfl, _, SqL.of f9⟩, _, rfl, pp, ys', _, rfl, SqL.of p9, hp9, fun v10 H10 g10 hv10 => ?_⟩
          refine ⟨[.str "record", .tup (gs.map prD)], .cons .str (.cons hv10 .nil), (by show 2 ≤ sizeLine; decide), fun v11 H11 g11 hv11 => ?_⟩
          have f11 := g11 _ _ (g10 _ _ f9)
          have b12 : But pf H11 (upd H11 pf (.lst (ys ++ [v11]))) := But.put
          have ly6 : ys.length = t := by rw [← hp6.length, le6]
          refine ⟨pf, ys, _, rfl, rfl, f11, small1000 (by omega), ?_⟩
          refine ⟨its ++ [.tup [.str "record", .tup (gs.map prD)]], ys ++ [v11], c9, _, _, _, _, fun y o n1 n2 ey => ?_, by rw [upd_ne nrf]; exact g11 _ _ (g10 _ _ r9), upd_same, ?_, fun v hv => ?_, ?_, by rw [List.length_append, le6]; rfl, rfl⟩
          · rw [upd_ne n2]
            have ey6 := b6 y o n1 n2 ey
            exact g11 _ _ (g10 _ _ (b9 y o n1 (ne_of_none ey6 hpp) (S8 _ _ ey6)))
          · exact ((((iss_but2 r8 pp8 b9 (hp6.same S8)).same g10).same g11).but f11 b12).append (.cons (hv11.but f11 b12) .nil)
          · rcases List.mem_append.mp hv with h1 | h1
            · exact fv6 v h1
            · obtain rfl := List.mem_singleton.mp h1
              exact .rcd en gv
          · rw [List.map_append, ke6, List.take_add_one, hkey, List.map_append]
            obtain ⟨e, l1, l2⟩ := look_names en lk
            have l3 := kz _ l2 rfl
            show _ ++ [keyD (.tup [.str "record", .tup (gs.map prD)]) z] = _
            have : keyD (.tup [.str "record", .tup (gs.map prD)]) z = kD key := by
              show (lookD (gs.map prD) z).getD .non = _
              rw [lookD_map, l1]
              exact l3
            rw [this]
            rfl
      · rintro σ H6 ⟨its, ys, c6, w5, w6, w7, w8, b6, r6, f6, hp6, fv6, ke6, le6, rfl⟩
        refine ⟨_, rfl, pf, ys, _, rfl, SqL.of f6, hp6, fun v7 H7 g7 hv7 => ?_⟩
        refine ⟨[.str "rows", .tup its], .cons .str (.cons hv7 .nil), (by show 2 ≤ sizeLine; decide), fun v8 H8 g8 hv8 => ?_⟩
        have hfH : H pf = none := g1.free hpf
        refine q v8 its c6 H8 (fun y o ny ey => g8 _ _ (g7 _ _ (b6 y o ny (ne_of_none ey hfH) (B5 y o ny (s3 _ _ (SF y o ey)))))) (g8 _ _ (g7 _ _ r6)) hv8 (.rows fv6 ?_ ?_)
        · rw [le6, List.length_take]
          omega
        · rw [ke6]
          exact keysFor_asc kfor _
theorem fk_rcd {a c : Nat} {d : Dt} (h : FK a c d) : ∀ l, d = .tup [.str "record", .tup l] → ∃ gs : List G4, l = (gs.map nk).map prD ∧ (∀ g ∈ gs, FK g.2.2.1 g.2.2.2 g.2.1) ∧ ((gs.map nk).map (·.1)).Pairwise ltS ∧ gs.length ≤ 8 ∧ ∀ g ∈ gs, g.2.2.1 < a := by
  cases h with
  | @rcd gs g asc nm hl =>
    intro l e
    have e' : gs.map prG = l := by simpa using e
    refine ⟨gs, ?_, g, ?_, hl, fun x hx => ?_⟩
    · rw [← e', List.map_map]
      rfl
    · rw [List.map_map]
      exact asc
    · have := le_max (List.mem_map_of_mem (f := fun g : G4 => g.2.2.1) hx)
      omega
  | _ =>
    intro l e
    simp at e <;> first | exact absurd e.1 (by decide) | exact absurd e (by decide)
theorem key_fk {a c : Nat} {d : Dt} (h : FK a c d) : ∀ w r, d = .tup (.str w :: r) → (w = "number" ∨ w = "text") → KeyFK d := by
  cases h with
  | text i h1 h2 => intro w r _ _; exact .inr ⟨i, rfl, h1, h2⟩
  | number i j h1 h2 h3 => intro w r _ _; exact .inl ⟨i, j, rfl, h1, h2, h3⟩
  | _ =>
    intro w r e hw
    simp at e
    obtain ⟨rfl, _⟩ := e
    rcases hw with h | h <;> exact absurd h (by decide)
theorem ok_law_value (T : Tx K mg ad) {f fk : Addr} {fd fdk : FuncData} (n : Nat) (D_law_value : Gn K mg "_law_value" s_law_value ["row", "kind"] f fd) (D_law_row_values : Gn K mg "_law_row_values" s_law_row_values ["row", "kind"] fk fdk)
    (G_law_value : FnOk P w K mg base CX0 (2 * n + 3) f fd ["row", "kind"] (svalue K n)) (G_law_row_values : FnOk P w K mg base CX0 (2 * n + 4) fk fdk ["row", "kind"] (srowv K n)) : FnOk P w K mg base CX0 (2 * n + 4 + 1) f fd ["row", "kind"] (svalue K (n + 1)) := by
  obtain ⟨f_law_digit, fd_law_digit, D_law_digit⟩ := T.law_digit
  have G_law_digit := ok_law_digit (P := P) (w := w) (base := base) T D_law_digit
  obtain ⟨f_law_text, fd_law_text, D_law_text⟩ := T.law_text
  have G_law_text := ok_law_text (P := P) (w := w) (base := base) T D_law_text
  refine D_law_value.F.ok sc_law_value (fun vs H Q E h => ?_) (fun cdv A outer s H vs Q E hr h => ?_)
  · obtain ⟨r, c, a, ct, d, x, _, rfl, _⟩ := h
    rfl
  obtain ⟨r, c, a, ct, d, x, hm, rfl, hr0, hd, gk, q⟩ := h
  refine ⟨_, (@pss_cons _ _ _ _ _ (@ps_set _ _ 2 _ _ _ _ sc_law_value.nd rfl (Or.inl rfl) (@pe_ix _ _ _ _ _ _ _ (ix_tupPN (K := K) rfl) (pv 1) pe_int (fun _ _ => rfl)) (by rfl) (by first | exact .inl rfl | exact .inr rfl | assumption)) (@pss_cons _ _ _ _ _ (@ps_if _ _ _ _ _ _ _ _ (pt_cmpR op_eq (pv 2) pe_str (nomark _)) (@pss_cons _ _ _ _ _ (@ps_set _ _ 3 _ _ _ _ sc_law_value.nd rfl (Or.inl rfl) (pe_call G_law_digit (hr.mono (by first | decide | omega)) rfl D_law_digit.m D_law_digit.F.kp D_law_digit.b .nil pass0 (@pa_cons _ _ _ _ _ (pv 0) (@pa_cons _ _ _ _ _ pe_int pa_nil (by rfl)) (by rfl))) (by rfl) (by first | exact .inl rfl | exact .inr rfl | assumption)) (@pss_cons _ _ _ _ _ (@ps_if _ _ _ _ _ _ _ _ (pt_cmpR op_lt (pv 3) pe_int (nomark _)) (@pss_one _ _ _ (@ps_ret _ _ _ _ (@pe_ix _ _ _ _ _ _ _ (ix_tupPN (K := K) rfl) (pv 1) (@pe_op _ _ _ _ _ _ _ _ op_add pe_int (pv 3)) (fun _ _ => rfl)))) pss_nil) (@pss_one _ _ _ (@ps_ret _ _ _ _ (@pe_op _ _ _ _ _ _ _ _ op_add (@pe_ix _ _ _ _ _ _ _ (ix_tupPN (K := K) rfl) (pv 1) pe_int (fun _ _ => rfl)) (pe_call G_law_digit (hr.mono (by first | decide | omega)) rfl D_law_digit.m D_law_digit.F.kp D_law_digit.b .nil pass0 (@pa_cons _ _ _ _ _ (pv 0) (@pa_cons _ _ _ _ _ (@pe_op _ _ _ _ _ _ _ _ op_add (@pe_op _ _ _ _ _ _ _ _ op_sub (@pe_ix _ _ _ _ _ _ _ (ix_tupPN (K := K) rfl) (pv 1) pe_int (fun _ _ => rfl)) (@pe_ix _ _ _ _ _ _ _ (ix_tupPN (K := K) rfl) (pv 1) pe_int (fun _ _ => rfl))) pe_int) pa_nil (by rfl)) (by rfl)))))))) pss_nil) (@pss_cons _ _ _ _ _ (@ps_if _ _ _ _ _ _ _ _ (pt_cmpR op_eq (pv 2) pe_str (nomark _)) (@pss_one _ _ _ (@ps_ret _ _ _ _ (pe_call G_law_text (hr.mono (by first | decide | omega)) rfl D_law_text.m D_law_text.F.kp D_law_text.b .nil pass0 (@pa_cons _ _ _ _ _ (pv 0) (@pa_cons _ _ _ _ _ (@pe_ix _ _ _ _ _ _ _ (ix_tupPN (K := K) rfl) (pv 1) pe_int (fun _ _ => rfl)) pa_nil (by rfl)) (by rfl))))) pss_nil) (@pss_cons _ _ _ _ _ (@ps_if _ _ _ _ _ _ _ _ (pt_cmpR op_eq (pv 2) pe_str (nomark _)) (@pss_one _ _ _ (@ps_ret _ _ _ _ (@pe_ix _ _ _ _ _ _ _ (ix_tupPN (K := K) rfl) (@pe_ix _ _ _ _ _ _ _ (ix_tupPN (K := K) rfl) (pv 1) pe_int (fun _ _ => rfl)) (pe_call G_law_digit (hr.mono (by first | decide | omega)) rfl D_law_digit.m D_law_digit.F.kp D_law_digit.b .nil pass0 (@pa_cons _ _ _ _ _ (pv 0) (@pa_cons _ _ _ _ _ (pe_callB (call_lenDN (K := K) rfl) rfl T.z_len PySem.boot_len (@pa_cons _ _ _ _ _ (@pe_ix _ _ _ _ _ _ _ (ix_tupPN (K := K) rfl) (pv 1) pe_int (fun _ _ => rfl)) pa_nil (by rfl))) pa_nil (by rfl)) (by rfl))) (fun _ _ => rfl)))) pss_nil) (@pss_cons _ _ _ _ _ (@ps_if _ _ _ _ _ _ _ _ (pt_cmpR op_eq (pv 2) pe_str (nomark _)) (@pss_cons _ _ _ _ _ (@ps_set _ _ 4 _ _ _ _ sc_law_value.nd rfl (Or.inl rfl) (pe_call G_law_digit (hr.mono (by first | decide | omega)) rfl D_law_digit.m D_law_digit.F.kp D_law_digit.b .nil pass0 (@pa_cons _ _ _ _ _ (pv 0) (@pa_cons _ _ _ _ _ (@pe_op _ _ _ _ _ _ _ _ op_add (@pe_ix _ _ _ _ _ _ _ (ix_tupPN (K := K) rfl) (pv 1) pe_int (fun _ _ => rfl)) pe_int) pa_nil (by rfl)) (by rfl))) (by rfl) (by first | exact .inl rfl | exact .inr rfl | assumption)) (@pss_cons _ _ _ _ _ (@ps_if _ _ _ _ _ _ _ _ (pt_cmpR (op_in_seqK (K := K) rfl) (@pe_ix _ _ _ _ _ _ _ (ix_tupPN (K := K) rfl) (@pe_ix _ _ _ _ _ _ _ (ix_tupPN (K := K) rfl) (pv 1) pe_int (fun _ _ => rfl)) pe_int (fun _ _ => rfl)) (@pe_lst _ _ _ _ (@pa_cons _ _ _ _ _ pe_str (@pa_cons _ _ _ _ _ pe_str (@pa_cons _ _ _ _ _ pe_str pa_nil (by rfl)) (by rfl)) (by rfl))) rfl) (@pss_one _ _ _ (@ps_set _ _ 4 _ _ _ _ sc_law_value.nd rfl (Or.inl rfl) (pe_callB (call_min2 rfl) rfl T.z_min boot_min (@pa_cons _ _ _ _ _ (pv 4) (@pa_cons _ _ _ _ _ pe_int pa_nil (by rfl)) (by rfl))) (by rfl) (by first | exact .inl rfl | exact .inr rfl | assumption))) pss_nil) (@pss_one _ _ _ (@ps_ret _ _ _ _ (@pe_tupPK _ K _ _ _ _ rfl (@pa_cons _ _ _ _ _ pe_str (@pa_cons _ _ _ _ _ (pe_callTy (call_tuplePN (K := K) rfl) rfl T.z_tuple boot_tuple (@pa_cons _ _ _ _ _ (pe_comp rfl (csR (sc := defScope s_law_value) (NL := ["k"]) (N := ["row", "kind", "word", "edge", "many"]) (ρ := [0, 1]) (N' := ["k", "row", "kind"]) rfl rfl rfl (by decide +kernel) (by decide +kernel) (by decide +kernel) rfl (by decide +kernel)) (pi_range1 rfl T.z_range (@pa_cons _ _ _ _ _ (pv 4) pa_nil (by rfl))) (fun _ _ _ _ => (pg_name (i := 0) (show List.Nodup (α := Str) ["k", "row", "kind"] by decide +kernel) rfl (Or.inl rfl))) (fun _ _ _ _ => (pe_call G_law_value (hr.mono (by first | decide | omega)) rfl D_law_value.m D_law_value.F.kp D_law_value.b .nil pass0 (@pa_cons _ _ _ _ _ (pv 1) (@pa_cons _ _ _ _ _ (@pe_ix _ _ _ _ _ _ _ (ix_tupPN (K := K) rfl) (pv 2) pe_int (fun _ _ => rfl)) pa_nil (by rfl)) (by rfl))))) pa_nil (by rfl))) pa_nil (by rfl)) (by rfl))))))) pss_nil) (@pss_cons _ _ _ _ _ (@ps_if _ _ _ _ _ _ _ _ (pt_cmpR op_eq (pv 2) pe_str (nomark _)) (@pss_one _ _ _ (@ps_ret _ _ _ _ (@pe_tupPK _ K _ _ _ _ rfl (@pa_cons _ _ _ _ _ pe_str (@pa_cons _ _ _ _ _ (pe_callTy (call_tuplePN (K := K) rfl) rfl T.z_tuple boot_tuple (@pa_cons _ _ _ _ _ (pe_comp rfl (csR (sc := defScope s_law_value) (NL := ["name", "inner"]) (N := ["row", "kind", "word", "edge", "many"]) (ρ := [0]) (N' := ["name", "inner", "row"]) rfl rfl rfl (by decide +kernel) (by decide +kernel) (by decide +kernel) rfl (by decide +kernel)) (pi_tupN (K := K) rfl (@pe_ix _ _ _ _ _ _ _ (ix_tupPN (K := K) rfl) (pv 1) pe_int (fun _ _ => rfl))) (fun _ _ _ _ => (pg_tupK (K := K) (n := 2) rfl rfl (pgs_cons (pg_name (i := 0) (show List.Nodup (α := Str) ["name", "inner", "row"] by decide +kernel) rfl (Or.inl rfl)) (pgs_cons (pg_name (i := 1) (show List.Nodup (α := Str) ["name", "inner", "row"] by decide +kernel) rfl (Or.inl rfl)) pgs_nil)))) (fun _ _ _ _ => (pe_tupPK (K := K) rfl (@pa_cons _ _ _ _ _ (pv 0) (@pa_cons _ _ _ _ _ (pe_call G_law_value (hr.mono (by first | decide | omega)) rfl D_law_value.m D_law_value.F.kp D_law_value.b .nil pass0 (@pa_cons _ _ _ _ _ (pv 2) (@pa_cons _ _ _ _ _ (pv 1) pa_nil (by rfl)) (by rfl))) pa_nil (by rfl)) (by rfl))))) pa_nil (by rfl))) pa_nil (by rfl)) (by rfl))))) pss_nil) (@pss_one _ _ _ (@ps_ret _ _ _ _ (pe_call G_law_row_values (hr.mono (by first | decide | omega)) rfl D_law_row_values.m D_law_row_values.F.kp D_law_row_values.b .nil pass0 (@pa_cons _ _ _ _ _ (pv 0) (@pa_cons _ _ _ _ _ (pv 1) pa_nil (by rfl)) (by rfl))))))))))), ?_⟩
  cases gk with
  | number i j b1 b2 b3 =>
    refine ⟨_, rfl, _, _, _, hd, rfl, rfl, fun v hv => ?_⟩
    obtain rfl := isStrV hv
    refine ⟨_, rfl, rfl, _, rfl, iteY ?_⟩
    obtain ⟨d0, d1⟩ := mod_lt c (m := 4) (by decide)
    refine ⟨_, rfl, r, c, 4, rfl, hr0, by decide, by decide, ?_⟩
    have b0 : But r H (upd H r (.lst [.int (c / 4)])) := But.put
    have hd1 := hd.but hr0 b0
    have r1 : (upd H r (.lst [.int (c / 4)])) r = some (.lst [.int (c / 4)]) := upd_same
    generalize upd H r (.lst [.int (c / 4)]) = H1 at b0 hd1 r1 ⊢
    refine ⟨_, rfl, _, _, rfl, rfl, _, rfl, ite2 (fun c1 => ?_) (fun c1 => ?_)⟩
    · have c1' : c % 4 < 2 := of_decide_eq_true c1
      have at3 : atI [Dt.str "number", .int i, .int j] (1 + c % 4) = some (if c % 4 = 0 then .int i else .int j) := by
        rcases (show c % 4 = 0 ∨ c % 4 = 1 by omega) with e | e <;> rw [e] <;> rfl
      refine ⟨_, rfl, _, rfl, _, _, rfl, rfl, _, _, _, hd1, rfl, at3, fun v hv => ?_⟩
      by_cases e : c % 4 = 0
      · rw [if_pos e] at hv
        exact q v _ _ H1 b0 r1 hv (.number (Int.le_refl _) b2)
      · rw [if_neg e] at hv
        exact q v _ _ H1 b0 r1 hv (.number b2 (Int.le_refl _))
    · refine ⟨_, rfl, _, _, _, hd1, rfl, rfl, fun v hv => ?_⟩
      obtain rfl := isIntV hv
      refine ⟨_, rfl, _, rfl, _, _, _, hd1, rfl, rfl, fun v hv => ?_⟩
      obtain rfl := isIntV hv
      refine ⟨_, rfl, _, _, _, hd1, rfl, rfl, fun v hv => ?_⟩
      obtain rfl := isIntV hv
      obtain ⟨e0, e1⟩ := mod_lt (c / 4) (m := j - i + 1) (by omega)
      refine ⟨_, _, rfl, rfl, _, _, rfl, rfl, r, c / 4, _, rfl, r1, by omega, by omega, _, _, rfl, rfl, ?_⟩
      exact q _ _ _ _ (b0.trans But.put) upd_same .int (.number (by omega) (by omega))
  | text i b1 b2 =>
    refine ⟨_, rfl, _, _, _, hd, rfl, rfl, fun v hv => ?_⟩
    obtain rfl := isStrV hv
    refine ⟨_, rfl, rfl, _, rfl, iteN (strNe (by decide)) ?_⟩
    refine ⟨_, rfl, rfl, _, rfl, iteY ?_⟩
    refine ⟨_, rfl, _, rfl, _, _, _, hd, rfl, rfl, fun v hv => ?_⟩
    obtain rfl := isIntV hv
    exact ⟨r, c, i, rfl, hr0, b1, b2, fun z c' H' b e h1 h2 => q _ _ c' H' b e .str (.text h1 h2)⟩
  | choice ws hw =>
    refine ⟨_, rfl, _, _, _, hd, rfl, rfl, fun v hv => ?_⟩
    obtain rfl := isStrV hv
    refine ⟨_, rfl, rfl, _, rfl, iteN (strNe (by decide)) ?_⟩
    refine ⟨_, rfl, rfl, _, rfl, iteN (strNe (by decide)) ?_⟩
    refine ⟨_, rfl, rfl, _, rfl, iteY ?_⟩
    have hw1 : 1 ≤ ws.length ∧ ws.length ≤ 8 := by
      unfold wordsB at hw
      simp only [Bool.and_eq_true, decide_eq_true_eq] at hw
      omega
    refine ⟨_, rfl, _, _, _, hd, rfl, rfl, fun v1 hv1 => ?_⟩
    refine ⟨_, rfl, _, rfl, _, _, _, hd, rfl, rfl, fun v2 hv2 => ?_⟩
    obtain ⟨d0, d1⟩ := mod_lt c (m := ((ws.map Dt.str).length : Int)) (by rw [List.length_map]; omega)
    obtain ⟨e, me, ee⟩ := pick (xs := ws.map Dt.str) d0 d1
    obtain ⟨z, hz, rfl⟩ := List.mem_map.mp me
    exact ⟨v2, _, rfl, hv2.d, r, c, _, rfl, hr0, by rw [List.length_map]; omega, by rw [List.length_map]; omega, _, _, _, hv1.but hr0 But.put, rfl, ee, fun v hv => q v _ _ _ But.put upd_same hv (.choice hz)⟩
  | @list a' c'' k i g b1 b2 =>
    refine ⟨_, rfl, _, _, _, hd, rfl, rfl, fun v hv => ?_⟩
    obtain rfl := isStrV hv
    refine ⟨_, rfl, rfl, _, rfl, iteN (strNe (by decide)) ?_⟩
    refine ⟨_, rfl, rfl, _, rfl, iteN (strNe (by decide)) ?_⟩
    refine ⟨_, rfl, rfl, _, rfl, iteN (strNe (by decide)) ?_⟩
    refine ⟨_, rfl, rfl, _, rfl, iteY ?_⟩
    refine ⟨_, rfl, _, rfl, _, _, _, hd, rfl, rfl, fun v hv => ?_⟩
    obtain rfl := isIntV hv
    obtain ⟨d0, d1⟩ := mod_lt c (m := i + 1) (by omega)
    refine ⟨_, _, rfl, rfl, r, c, _, rfl, hr0, by omega, by omega, ?_⟩
    have b0 : But r H (upd H r (.lst [.int (c / (i + 1))])) := But.put
    have r0 : (upd H r (.lst [.int (c / (i + 1))])) r = some (.lst [.int (c / (i + 1))]) := upd_same
    generalize upd H r (.lst [.int (c / (i + 1))]) = H0 at b0 r0 ⊢
    have hd0 := hd.but hr0 b0
    obtain ⟨w', rest, ed⟩ := fk_head g
    have at1 : atI (Dt.str w' :: rest) ((0 : Nat) : Int) = some (.str w') := atI_nat (by simp)
    refine ⟨_, rfl, _, _, _, hd0, rfl, rfl, fun v1 hv1 => ?_⟩
    have hv1' : IsP K H0 (.tup (.str w' :: rest)) v1 := ed ▸ hv1
    refine ⟨_, _, _, hv1', rfl, at1, fun v hv => ?_⟩
    obtain rfl := isStrV hv
    refine ⟨(by show 3 ≤ sizeLine; decide), fun p4 hp4 => ?_⟩
    have g4 := same_new hp4 (.lst [.str "list", .str "rows", .str "record"])
    have BL : But r H (upd H0 p4 (.lst [.str "list", .str "rows", .str "record"])) := b0.trans (But.same g4)
    have rL := g4 _ _ r0
    refine ⟨p4, _, rfl, .inl (SqL.of upd_same), rfl, rfl, _, rfl, ?_⟩
    generalize upd H0 p4 (.lst [.str "list", .str "rows", .str "record"]) = HL at BL rL ⊢
    refine ite2 (fun _ => ?_) (fun _ => ?_)
    · refine ⟨_, rfl, _, _, rfl, ?_⟩
      obtain ⟨m0, m1⟩ : (0 : Int) ≤ (if 2 < c % (i + 1) then 2 else c % (i + 1)) ∧ (if 2 < c % (i + 1) then 2 else c % (i + 1)) ≤ i := by split <;> omega
      generalize (if (2 : Int) < c % (i + 1) then (2 : Int) else c % (i + 1)) = mst at m0 m1 ⊢
      refine ⟨_, rfl, ?_⟩
      refine ⟨_, rfl, by omega, by omega, fun l hln => ?_⟩
      have nlr : r ≠ l := ne_of_none rL hln
      have lH : H l = none := by
        cases e' : H l with
        | none => rfl
        | some o => rw [BL l o nlr.symm e'] at hln; cases hln
      refine comp_rangeR (lo := 0) (n := mst.toNat) (fun j ys σ H' => ∃ (es : List Dt) (c' : Int), But r H H' ∧ H' r = some (.lst [.int c']) ∧ H' l = some (.lst ys) ∧ IsPs K H' es ys ∧ ys.length = j ∧ (∀ e ∈ es, FV k e) ∧ ∃ v1, σ = [v1, some (.ref r), some x])
        ⟨[], _, BL.trans (But.same (same_new hln _)), (by rw [upd_ne nlr]; exact rL), upd_same, .nil, rfl, (by intro e he; cases he), none, rfl⟩ ?_ ?_
      · rintro j ys σ H1 N hj ⟨es, c', b1, e1, e2, hp, hle, gv, v1, rfl⟩ next
        have hd1 := hd.but hr0 b1
        refine ⟨_, rfl, _, rfl, _, _, _, hd1, rfl, rfl, fun v5 hv5 => ?_⟩
        refine ⟨r, c', a', c'', k, v5, by omega, rfl, e1, hv5, g, fun v e c2 H2 b2 e3 hv2 g2 => ?_⟩
        have f2 := b2 _ _ nlr.symm e2
        have b5 : But l H2 (upd H2 l (.lst (ys ++ [v]))) := But.put
        refine ⟨f2, small1000 (by omega), next _ _ _ ⟨es ++ [e], c2, fun x o nx ex => ?_, ?_, upd_same, ?_, ?_, fun e' he => ?_, _, rfl⟩⟩
        · rw [upd_ne (ne_of_none ex lH)]
          exact b2 x o nx (b1 x o nx ex)
        · rw [upd_ne nlr]
          exact e3
        · exact ((hp.but e1 b2).but f2 b5).append (.cons (hv2.but f2 b5) .nil)
        · rw [List.length_append, hle]; rfl
        · rcases List.mem_append.mp he with h1 | h1
          · exact gv e' h1
          · obtain rfl := List.mem_singleton.mp h1
            exact g2
      · rintro ys σ H1 ⟨es, c', b1, e1, e2, hp, hle, gv, v1, rfl⟩
        refine ⟨l, ys, _, rfl, SqL.of e2, hp, fun v2 H2 g2 hv2 => ?_⟩
        refine ⟨[.str "list", .tup es], .cons .str (.cons hv2 .nil), (by show 2 ≤ sizeLine; decide), fun v H3 g3 hv => ?_⟩
        refine q v _ c' H3 ((b1.trans (But.same g2)).trans (But.same g3)) (g3 _ _ (g2 _ _ e1)) hv (.list gv ?_)
        rw [hp.length, hle]
        omega
    · have m1 : c % (i + 1) ≤ i := by omega
      generalize c % (i + 1) = mst at d0 m1 ⊢
      refine ⟨_, rfl, ?_⟩
      refine ⟨_, rfl, by omega, by omega, fun l hln => ?_⟩
      have nlr : r ≠ l := ne_of_none rL hln
      have lH : H l = none := by
        cases e' : H l with
        | none => rfl
        | some o => rw [BL l o nlr.symm e'] at hln; cases hln
      refine comp_rangeR (lo := 0) (n := mst.toNat) (fun j ys σ H' => ∃ (es : List Dt) (c' : Int), But r H H' ∧ H' r = some (.lst [.int c']) ∧ H' l = some (.lst ys) ∧ IsPs K H' es ys ∧ ys.length = j ∧ (∀ e ∈ es, FV k e) ∧ ∃ v1, σ = [v1, some (.ref r), some x])
        ⟨[], _, BL.trans (But.same (same_new hln _)), (by rw [upd_ne nlr]; exact rL), upd_same, .nil, rfl, (by intro e he; cases he), none, rfl⟩ ?_ ?_
      · rintro j ys σ H1 N hj ⟨es, c', b1, e1, e2, hp, hle, gv, v1, rfl⟩ next
        have hd1 := hd.but hr0 b1
        refine ⟨_, rfl, _, rfl, _, _, _, hd1, rfl, rfl, fun v5 hv5 => ?_⟩
        refine ⟨r, c', a', c'', k, v5, by omega, rfl, e1, hv5, g, fun v e c2 H2 b2 e3 hv2 g2 => ?_⟩
        have f2 := b2 _ _ nlr.symm e2
        have b5 : But l H2 (upd H2 l (.lst (ys ++ [v]))) := But.put
        refine ⟨f2, small1000 (by omega), next _ _ _ ⟨es ++ [e], c2, fun x o nx ex => ?_, ?_, upd_same, ?_, ?_, fun e' he => ?_, _, rfl⟩⟩
        · rw [upd_ne (ne_of_none ex lH)]
          exact b2 x o nx (b1 x o nx ex)
        · rw [upd_ne nlr]
          exact e3
        · exact ((hp.but e1 b2).but f2 b5).append (.cons (hv2.but f2 b5) .nil)
        · rw [List.length_append, hle]; rfl
        · rcases List.mem_append.mp he with h1 | h1
          · exact gv e' h1
          · obtain rfl := List.mem_singleton.mp h1
            exact g2
      · rintro ys σ H1 ⟨es, c', b1, e1, e2, hp, hle, gv, v1, rfl⟩
        refine ⟨l, ys, _, rfl, SqL.of e2, hp, fun v2 H2 g2 hv2 => ?_⟩
        refine ⟨[.str "list", .tup es], .cons .str (.cons hv2 .nil), (by show 2 ≤ sizeLine; decide), fun v H3 g3 hv => ?_⟩
        refine q v _ c' H3 ((b1.trans (But.same g2)).trans (But.same g3)) (g3 _ _ (g2 _ _ e1)) hv (.list gv ?_)
        rw [hp.length, hle]
        omega
  | @rcd gs g asc nm hl =>
    refine ⟨_, rfl, _, _, _, hd, rfl, rfl, fun v hv => ?_⟩
    obtain rfl := isStrV hv
    refine ⟨_, rfl, rfl, _, rfl, iteN (strNe (by decide)) ?_⟩
    refine ⟨_, rfl, rfl, _, rfl, iteN (strNe (by decide)) ?_⟩
    refine ⟨_, rfl, rfl, _, rfl, iteN (strNe (by decide)) ?_⟩
    refine ⟨_, rfl, rfl, _, rfl, iteN (strNe (by decide)) ?_⟩
    refine ⟨_, rfl, rfl, _, rfl, iteY ?_⟩
    obtain ⟨fs, efs⟩ : ∃ fs : List (Str × Dt), fs = gs.map nk := ⟨_, rfl⟩
    have ep : gs.map prG = fs.map prD := by rw [efs, List.map_map]; rfl
    rw [ep] at hd q
    have gk : ∀ f ∈ fs, ∃ a ct, a ≤ n ∧ FK a ct f.2 := fun f hf => by
      rw [efs] at hf
      obtain ⟨x, hx, rfl⟩ := List.mem_map.mp hf
      have := le_max (List.mem_map_of_mem (f := fun g : G4 => g.2.2.1) hx)
      exact ⟨_, _, by omega, g x hx⟩
    have hl8 : fs.length ≤ 8 := by rw [efs, List.length_map]; exact hl
    refine ⟨_, rfl, _, _, _, hd, rfl, rfl, fun v hv => ?_⟩
    obtain ⟨aa, xs, rfl, ha, pa, ra⟩ := hv.unref
    have el := ra.length
    rw [List.length_map] at el
    have nar : aa ≠ r := by
      obtain ⟨o, u, e, _⟩ := pa
      exact ne_of e hr0 (by intro c; cases c)
    refine ⟨aa, rfl, ⟨xs, ha⟩, fun l hln => ?_⟩
    have nlr : r ≠ l := ne_of_none hr0 hln
    refine comp_tupR (K := K) (xs := xs) (fun i ys σ H' => ∃ (gs : List (Str × Dt)) (c' : Int), But r H H' ∧ H' r = some (.lst [.int c']) ∧ H' l = some (.lst ys) ∧ IsPs K H' (gs.map prD) ys ∧ gs.map (·.1) = (fs.take i).map (·.1) ∧ (∀ (i : Nat) (f g : Str × Dt), fs[i]? = some f → gs[i]? = some g → FV f.2 g.2) ∧ ∃ v1 v2, σ = [v1, v2, some (.ref r)])
      ⟨[], c, But.same (same_new hln _), (by rw [upd_ne nlr]; exact hr0), upd_same, .nil, rfl, (by intro i f g _ e; simp at e), none, none, rfl⟩ (fun i ys σ H' _ p => by
        obtain ⟨_, _, b, _⟩ := p
        exact b.tup nar ha) ?_ ?_
    · rintro i u ys σ H1 N hu ⟨gs', c', b1, e1, e2, hp, en, gv, v1, v2, rfl⟩ next
      have hi : i < fs.length := by
        rw [el]
        exact (List.getElem?_eq_some_iff.mp hu).1
      obtain ⟨e, he, hx⟩ := ra.get' hu
      rw [List.getElem?_map] at he
      obtain ⟨⟨w', d'⟩, hf, rfl⟩ := Option.map_eq_some_iff.mp he
      have lg : gs'.length = i := by
        have := congrArg List.length en
        simp only [List.length_map, List.length_take] at this
        omega
      have ly : ys.length = i := by rw [← hp.length, List.length_map, lg]
      obtain ⟨b, zs, rfl, hb, pb, rb⟩ := hx.unref
      have nbr : b ≠ r := by
        obtain ⟨o, u, e, _⟩ := pb
        exact ne_of e hr0 (by intro c; cases c)
      cases rb with
      | cons r1 rb =>
        cases rb with
        | @cons _ _ y2 _ r2 rb =>
          cases rb
          obtain rfl := isStrV r1
          obtain ⟨a9, ct9, ha9, fk9⟩ := gk _ (List.mem_of_getElem? hf)
          refine ⟨b, _, rfl, b1.tup nbr hb, rfl, _, _, rfl, _, _, rfl, rfl, ?_⟩
          refine ⟨_, rfl, _, rfl, _, rfl, r, c', a9, ct9, d', y2, ha9, rfl, e1, r2.but hr0 b1, fk9, fun v e c2 H2 b2 e3 hv2 g2 => ?_⟩
          refine ⟨[.str w', e], .cons .str (.cons hv2 .nil), (by show 2 ≤ sizeLine; decide), fun v4 H4 g4 hv4 => ?_⟩
          have f2 := b2 _ _ nlr.symm e2
          have f4 := g4 _ _ f2
          have b5 : But l H4 (upd H4 l (.lst (ys ++ [v4]))) := But.put
          refine ⟨f4, small1000 (by omega), next _ _ _ ⟨gs' ++ [(w', e)], c2, fun x o nx ex => ?_, ?_, upd_same, ?_, ?_, fun j f g hjf hjg => ?_, _, _, rfl⟩⟩
          · rw [upd_ne (ne_of_none ex hln)]
            exact g4 _ _ (b2 x o nx (b1 x o nx ex))
          · rw [upd_ne nlr]
            exact g4 _ _ e3
          · rw [List.map_append]
            exact (((hp.but e1 b2).same g4).but f4 b5).append (.cons (hv4.but f4 b5) .nil)
          · rw [List.map_append, en, List.take_add_one, hf, List.map_append]
            rfl
          · by_cases hj : j < gs'.length
            · rw [List.getElem?_append_left hj] at hjg
              exact gv j f g hjf hjg
            · rw [List.getElem?_append_right (by omega)] at hjg
              have hj2 : j = i := by
                have := (List.getElem?_eq_some_iff.mp hjg).1
                simp only [List.length_cons, List.length_nil] at this
                omega
              subst hj2
              rw [lg, Nat.sub_self] at hjg
              obtain rfl : (w', e) = g := by simpa using hjg
              rw [hf] at hjf
              obtain rfl := Option.some.inj hjf
              exact g2
    · rintro ys σ H1 ⟨gs', c', b1, e1, e2, hp, en, gv, v1, v2, rfl⟩
      refine ⟨l, ys, _, rfl, SqL.of e2, hp, fun v2 H2 g2 hv2 => ?_⟩
      refine ⟨[.str "record", .tup (List.map prD gs')], .cons .str (.cons hv2 .nil), (by show 2 ≤ sizeLine; decide), fun v H3 g3 hv => ?_⟩
      refine q v _ c' H3 ((b1.trans (But.same g2)).trans (But.same g3)) (g3 _ _ (g2 _ _ e1)) hv (.rcd ?_ gv)
      rw [en, ← el, List.take_length]
  | @rows a' c'' z l i g kl b1 b2 =>
    refine ⟨_, rfl, _, _, _, hd, rfl, rfl, fun v hv => ?_⟩
    obtain rfl := isStrV hv
    refine ⟨_, rfl, rfl, _, rfl, iteN (strNe (by decide)) ?_⟩
    refine ⟨_, rfl, rfl, _, rfl, iteN (strNe (by decide)) ?_⟩
    refine ⟨_, rfl, rfl, _, rfl, iteN (strNe (by decide)) ?_⟩
    refine ⟨_, rfl, rfl, _, rfl, iteN (strNe (by decide)) ?_⟩
    refine ⟨_, rfl, rfl, _, rfl, iteN (strNe (by decide)) ?_⟩
    obtain ⟨gs, rfl, fg, asc, hl, lt⟩ := fk_rcd g l rfl
    obtain ⟨w', rr, hm', hw⟩ := kl
    obtain ⟨f0, hf0, ef0⟩ := List.mem_map.mp hm'
    obtain ⟨g0, hg0, rfl⟩ := List.mem_map.mp hf0
    have ez : g0.1 = z ∧ g0.2.1 = .tup (.str w' :: rr) := by simpa [prD] using ef0
    obtain ⟨j0, hj0⟩ := List.mem_iff_getElem?.mp hf0
    have lk : lookS (gs.map nk) z = some g0.2.1 := look_at' (lt_nodup asc) (by rw [hj0, ← ez.1])
    refine ⟨_, rfl, _, rfl, r, c, i, z, gs.map nk, g0.2.1, x, rfl, hr0, hd, fun f hf => ?_, asc, by rw [List.length_map]; exact hl, lk, key_fk (fg g0 hg0) w' rr ez.2 hw, b1, b2, fun v vs' c' H' b e hv fv => q v _ c' H' b e hv fv⟩
    obtain ⟨x', hx', rfl⟩ := List.mem_map.mp hf
    have := lt x' hx'
    exact ⟨_, _, by omega, fg x' hx'⟩
theorem vals_all (T : Tx K mg ad) {f fk : Addr} {fd fdk : FuncData} (V : Gn K mg "_law_value" s_law_value ["row", "kind"] f fd) (R : Gn K mg "_law_row_values" s_law_row_values ["row", "kind"] fk fdk) : FnOk P w K mg base CX0 13 f fd ["row", "kind"] (svalue K 5) := by
  have v0 : FnOk P w K mg base CX0 (2 * 0 + 3) f fd ["row", "kind"] (svalue K 0) := fn_none fun vs H Q E z => by
    obtain ⟨_, _, a, _, _, _, e, _, _, _, g, _⟩ := z
    have := g.pos
    omega
  have p0 := ok_law_row_values T 0 R V v0
  have v1 := ok_law_value T 0 V R v0 p0
  have p1 := ok_law_row_values T 1 R V v1
  have v2 := ok_law_value T 1 V R v1 p1
  have p2 := ok_law_row_values T 2 R V v2
  have v3 := ok_law_value T 2 V R v2 p2
  have p3 := ok_law_row_values T 3 R V v3
  have v4 := ok_law_value T 3 V R v3 p3
  have p4 := ok_law_row_values T 4 R V v4
  exact ok_law_value T 4 V R v4 p4
noncomputable def sp_is_whole (_ : PySem.W.Frag) (_ : Ads) : Sp := fun vs H Q _ => ∃ i : Int, vs = [.int i] ∧ Q (.bl true) H
noncomputable def sp_is_whole_within (_ : PySem.W.Frag) (_ : Ads) : Sp := fun vs H Q _ => ∃ i j k : Int, vs = [.int i, .int j, .int k] ∧ j ≤ i ∧ i ≤ k ∧ Q (.bl true) H
theorem ok_is_whole (T : Tx K mg ad) {f : Addr} {fd : FuncData} (F : Gn K mg "is_whole" s_is_whole ["thing"] f fd) : FnOk P w K mg base CX0 1 f fd ["thing"] (sp_is_whole K ad) := by
  refine F.F.ok sc_is_whole (fun vs H Q E h => ?_) (fun cdv A outer s H vs Q E hr h => ?_)
  · obtain ⟨i, rfl, _⟩ := h
    rfl
  obtain ⟨i, rfl, q⟩ := h
  refine ⟨_, (@pss_one _ _ _ (@ps_ret _ _ _ _ (pe_and (pe_callB (call_isiN' (K := K) rfl) rfl T.z_isinstance boot_isinstance (@pa_cons _ _ _ _ _ (pv 0) (@pa_cons _ _ _ _ _ (pe_gty rfl T.z_int boot_int) pa_nil (by rfl)) (by rfl))) (pe_one (pe_not (pe_callB (call_isiN' (K := K) rfl) rfl T.z_isinstance boot_isinstance (@pa_cons _ _ _ _ _ (pv 0) (@pa_cons _ _ _ _ _ (pe_gty rfl T.z_bool boot_bool) pa_nil (by rfl)) (by rfl)))))))), ?_⟩
  exact ⟨_, rfl, _, _, _, rfl, .int_int, _, rfl, iteT ⟨_, rfl, _, _, _, rfl, .int_bool, _, rfl, q⟩⟩
theorem ok_is_whole_within (T : Tx K mg ad) {f : Addr} {fd : FuncData} (F : Gn K mg "is_whole_within" s_is_whole_within ["thing", "low", "high"] f fd) : FnOk P w K mg base CX0 2 f fd ["thing", "low", "high"] (sp_is_whole_within K ad) := by
  obtain ⟨f_is_whole, fd_is_whole, D_is_whole⟩ := T.is_whole
  have G_is_whole := ok_is_whole (P := P) (w := w) (base := base) T D_is_whole
  refine F.F.ok sc_is_whole_within (fun vs H Q E h => ?_) (fun cdv A outer s H vs Q E hr h => ?_)
  · obtain ⟨i, j, k, rfl, _⟩ := h
    rfl
  obtain ⟨i, j, k, rfl, h1, h2, q⟩ := h
  refine ⟨_, (@pss_one _ _ _ (@ps_ret _ _ _ _ (pe_and (pe_call G_is_whole (hr.mono (by first | decide | omega)) rfl D_is_whole.m D_is_whole.F.kp D_is_whole.b .nil pass0 (@pa_cons _ _ _ _ _ (pv 0) pa_nil (by rfl))) (pe_one (pe_chain op_le op_le (pv 1) (pv 0) (pv 2)))))), ?_⟩
  refine ⟨_, rfl, i, rfl, _, rfl, iteT ?_⟩
  refine ⟨_, rfl, _, rfl, _, _, rfl, rfl, _, rfl, ?_⟩
  rw [decide_eq_true h1]
  refine iteT ⟨_, rfl, _, _, rfl, rfl, ?_⟩
  show Q (.bl (decide (i ≤ k))) H
  rw [decide_eq_true h2]
  exact q
theorem at0 {α : Type} (c : α) (r : List α) : atI (c :: r) 0 = some c := by
  have e : atI (c :: r) ((0 : Nat) : Int) = some c := atI_nat (by rfl)
  exact e
noncomputable def sp_is_sign (_ : PySem.W.Frag) (_ : Ads) : Sp := fun vs H Q _ => ∃ c : Nat, vs = [.str ⟨#[c]⟩] ∧ okC c = true ∧ Q (.bl true) H
theorem not_lt1 {a b : Nat} (h : b ≤ a) : ¬ ([a] : List Nat) < [b] := by
  intro c
  rcases List.cons_lt_cons_iff.mp c with h1 | ⟨_, h1⟩
  · omega
  · exact List.lt_irrefl _ h1
theorem okC_of {c : Nat} (h : okC c = true) : 32 ≤ c ∧ c ≤ 126 ∧ c ≠ 34 ∧ c ≠ 37 := by
  unfold okC at h
  simp only [Bool.and_eq_true, decide_eq_true_eq, Bool.not_eq_true', decide_eq_false_iff_not] at h
  exact ⟨h.1.1.1, h.1.1.2, h.1.2, h.2⟩
theorem ok_is_sign (T : Tx K mg ad) {f : Addr} {fd : FuncData} (F : Gn K mg "is_sign" s_is_sign ["letter"] f fd) : FnOk P w K mg base CX0 1 f fd ["letter"] (sp_is_sign K ad) := by
  obtain ⟨t_PERCENT, c_PERCENT⟩ := T.PERCENT
  refine F.F.ok sc_is_sign (fun vs H Q E h => ?_) (fun cdv A outer s H vs Q E hr h => ?_)
  · obtain ⟨c, rfl, _⟩ := h
    rfl
  obtain ⟨c, rfl, hc, q⟩ := h
  obtain ⟨h1, h2, h3, h4⟩ := okC_of hc
  refine ⟨_, (@pss_one _ _ _ (@ps_ret _ _ _ _ (pe_and (pe_chain op_le_str op_le_str pe_str (pv 0) pe_str) (pe_and (pe_cmpR op_ne (pv 0) pe_str (nomark _)) (pe_one (pe_cmpR op_ne (pe_callB call_ord rfl T.z_ord boot_ord (@pa_cons _ _ _ _ _ (pv 0) pa_nil (by rfl))) (pe_gint rfl c_PERCENT) (nomark _))))))), ?_⟩
  refine ⟨_, rfl, _, _, rfl, rfl, _, rfl, ?_⟩
  rw [show (!decide ((⟨#[c]⟩ : Str).cps.toList < (" " : Str).cps.toList)) = true from by
    rw [decide_eq_false (show ¬ (⟨#[c]⟩ : Str).cps.toList < (" " : Str).cps.toList from not_lt1 h1)]; rfl]
  refine iteT ⟨_, _, rfl, rfl, ?_⟩
  rw [show (!decide (("~" : Str).cps.toList < (⟨#[c]⟩ : Str).cps.toList)) = true from by
    rw [decide_eq_false (show ¬ ("~" : Str).cps.toList < (⟨#[c]⟩ : Str).cps.toList from not_lt1 h2)]; rfl]
  refine ⟨_, rfl, iteT ⟨_, rfl, rfl, _, rfl, ?_⟩⟩
  rw [show (!decide (V.str ⟨#[c]⟩ = V.str "\"")) = true from by
    rw [decide_eq_false (fun e => h3 (by
      have h5 : ([c] : List Nat) = ("\"" : Str).cps.toList := congrArg (fun z : Str => z.cps.toList) (V.str.inj e)
      rw [show ("\"" : Str).cps.toList = [34] by decide +kernel] at h5
      exact (List.cons.inj h5).1))]; rfl]
  refine iteT ⟨_, rfl, _, rfl, rfl, rfl, ?_⟩
  rw [show (!decide (V.int ((⟨#[c]⟩ : Str).cps.getD 0 0 : Nat) = V.int 37)) = true from by
    rw [decide_eq_false (fun e => h4 (by
      have := V.int.inj e
      have e2 : (((c : Nat)) : Int) = 37 := this
      omega))]; rfl]
  exact q
theorem all_rep (n : Nat) : (List.replicate n true).all id = true := List.all_eq_true.mpr fun b hb => (List.mem_replicate.mp hb).2 ▸ rfl
noncomputable def sp_is_text_of (_ : PySem.W.Frag) (_ : Ads) : Sp := fun vs H Q _ => ∃ (z : Str) (i : Int), vs = [.str z, .int i] ∧ (z.length : Int) ≤ i ∧ i ≤ 60 ∧ okT z ∧ ∀ H', Same H H' → Q (.bl true) H'
theorem ok_is_text_of (T : Tx K mg ad) {f : Addr} {fd : FuncData} (F : Gn K mg "is_text_of" s_is_text_of ["value", "most"] f fd) : FnOk P w K mg base CX0 2 f fd ["value", "most"] (sp_is_text_of K ad) := by
  obtain ⟨f_is_sign, fd_is_sign, D_is_sign⟩ := T.is_sign
  have G_is_sign := ok_is_sign (P := P) (w := w) (base := base) T D_is_sign
  refine F.F.ok sc_is_text_of (fun vs H Q E h => ?_) (fun cdv A outer s H vs Q E hr h => ?_)
  · obtain ⟨z, i, rfl, _⟩ := h
    rfl
  obtain ⟨z, i, rfl, h1, h2, ok, q⟩ := h
  refine ⟨_, (@pss_cons _ _ _ _ _ (@ps_if _ _ _ _ _ _ _ _ (PW.pt (@pw_or _ _ _ _ _ _ _ (@pt_not _ _ _ _ (@pt_val _ _ _ (pe_callB (call_isiN' (K := K) rfl) rfl T.z_isinstance boot_isinstance (@pa_cons _ _ _ _ _ (pv 0) (@pa_cons _ _ _ _ _ (pe_gty rfl T.z_str boot_str) pa_nil (by rfl)) (by rfl))) (by intro _; rfl))) (@pw_or1 _ _ _ _ (pt_cmpR op_gt (pe_callB call_len_str rfl T.z_len PySem.boot_len (@pa_cons _ _ _ _ _ (pv 0) pa_nil (by rfl))) (pv 1) (nomark _))))) (@pss_one _ _ _ (@ps_ret _ _ _ _ pe_bl)) pss_nil) (@pss_one _ _ _ (@ps_ret _ _ _ _ (pe_callB call_all rfl T.z_all boot_all (@pa_cons _ _ _ _ _ (pe_comp rfl (cs0 (NL := ["letter"]) rfl (by decide +kernel) (by decide +kernel)) (pi_str (pv 0)) (fun _ _ _ _ => (pg_name (i := 0) (show List.Nodup (α := Str) ["letter"] by decide +kernel) rfl (Or.inl rfl))) (fun _ _ _ _ => (pe_call G_is_sign (hr.mono (by first | decide | omega)) rfl D_is_sign.m D_is_sign.F.kp D_is_sign.b .nil pass0 (@pa_cons _ _ _ _ _ (pv 0) pa_nil (by rfl))))) pa_nil (by rfl)))))), ?_⟩
  refine ⟨_, rfl, _, _, _, rfl, .str_str, _, rfl, iteF ?_⟩
  refine ⟨_, rfl, _, rfl, small (by omega), _, rfl, _, _, rfl, rfl, _, rfl, ?_⟩
  rw [decide_eq_false (by omega)]
  refine iteF ?_
  refine ⟨_, rfl, _, rfl, fun l hln => ?_⟩
  refine comp_strR (fun j ys σ H' => ys = bls (List.replicate j true) ∧ j ≤ 60 ∧ Same H H' ∧ H' l = some (.lst ys) ∧ ∃ v1, σ = [v1]) ⟨rfl, Nat.zero_le _, same_new hln _, upd_same, none, rfl⟩ ?_ ?_
  · rintro j c ys σ H1 N hc ⟨rfl, hj, g1, e1, v1, rfl⟩ next
    have hj2 : j < z.cps.size := (Array.getElem?_eq_some_iff.mp hc).1
    have hz : z.cps.size = z.length := rfl
    have hm : c ∈ z.cps.toList := Array.mem_toList_iff.mpr (Array.mem_of_getElem? hc)
    refine ⟨_, rfl, c, rfl, ok c hm, e1, ?_, next _ _ _ ⟨?_, by omega, same_upd hln g1, upd_same, _, rfl⟩⟩
    · rw [bls, List.length_map, List.length_replicate]; exact small1000 (by omega)
    · unfold bls
      rw [List.replicate_succ', List.map_append]
      rfl
  · rintro ys σ H1 ⟨rfl, hj, g1, e1, v1, rfl⟩
    refine ⟨l, _, rfl, rfl, SqL.of e1, ?_⟩
    rw [all_rep]
    exact q H1 g1
theorem cutV_tail (xs : List V) : cutV xs (some 1) none = xs.drop 1 := by
  unfold cutV
  cases xs with
  | nil => rfl
  | cons x r =>
    have e1 : HT.sIx (x :: r).length 0 (some 1) = 1 := by
      have := HT.sIx_nat (x :: r).length 0 1
      rw [List.length_cons] at this ⊢
      rw [show (1 : Int) = ((1 : Nat) : Int) from rfl, this]
      omega
    have e2 : HT.sIx (x :: r).length (x :: r).length none = (x :: r).length := rfl
    rw [e1, e2]
    apply List.take_of_length_le
    rw [List.length_drop]
    exact Nat.le_refl _
noncomputable def sp_holds_tuple (K : PySem.W.Frag) (_ : Ads) : Sp := fun vs H Q _ => ∃ (z : Str) (l : List Dt) (x : V), vs = [x, .str z] ∧ IsP K H (.tup [.str z, .tup l]) x ∧ Q (.bl true) H
theorem ok_holds_tuple (T : Tx K mg ad) {f : Addr} {fd : FuncData} (F : Gn K mg "holds_tuple" s_holds_tuple ["value", "word"] f fd) : FnOk P w K mg base CX0 1 f fd ["value", "word"] (sp_holds_tuple K ad) := by
  refine F.F.ok sc_holds_tuple (fun vs H Q E h => ?_) (fun cdv A outer s H vs Q E hr h => ?_)
  · obtain ⟨z, l, x, rfl, _⟩ := h
    rfl
  obtain ⟨z, l, x, rfl, hd, q⟩ := h
  refine ⟨_, (@pss_one _ _ _ (@ps_ret _ _ _ _ (pe_and (pe_callB (call_isiN' (K := K) rfl) rfl T.z_isinstance boot_isinstance (@pa_cons _ _ _ _ _ (pv 0) (@pa_cons _ _ _ _ _ (pe_gty rfl T.z_tuple boot_tuple) pa_nil (by rfl)) (by rfl))) (pe_and (pe_cmpR op_eq (pe_callB (call_lenDN (K := K) rfl) rfl T.z_len PySem.boot_len (@pa_cons _ _ _ _ _ (pv 0) pa_nil (by rfl))) pe_int (nomark _)) (pe_and (pe_cmpR op_eq (@pe_ix _ _ _ _ _ _ _ (ix_tupPN (K := K) rfl) (pv 0) pe_int (fun _ _ => rfl)) (pv 1) (nomark _)) (pe_one (pe_callB (call_isiN' (K := K) rfl) rfl T.z_isinstance boot_isinstance (@pa_cons _ _ _ _ _ (@pe_ix _ _ _ _ _ _ _ (ix_tupPN (K := K) rfl) (pv 0) pe_int (fun _ _ => rfl)) (@pa_cons _ _ _ _ _ (pe_gty rfl T.z_tuple boot_tuple) pa_nil (by rfl)) (by rfl))))))))), ?_⟩
  obtain ⟨a, xs, ex, ha, pa, ra⟩ := hd.unref
  refine ⟨_, rfl, _, _, _, rfl, (by rw [ex]; exact .tup_tuple ha), _, rfl, iteT ?_⟩
  refine ⟨_, rfl, x, _, rfl, hd.d, rfl, _, rfl, iteY ?_⟩
  refine ⟨_, rfl, _, _, _, hd, rfl, rfl, fun v hv => ?_⟩
  obtain rfl := isStrV hv
  refine ⟨_, rfl, rfl, _, rfl, iteY ?_⟩
  refine ⟨_, rfl, _, _, _, hd, rfl, rfl, fun v hv => ?_⟩
  obtain ⟨b, ys, rfl, hb, _⟩ := hv.unref
  exact ⟨_, _, _, rfl, .tup_tuple hb, q⟩
noncomputable def sp_field_of (K : PySem.W.Frag) (_ : Ads) : Sp := fun vs H Q _ => ∃ (gs : List (Str × Dt)) (z : Str) (e : Dt) (x : V), vs = [x, .str z] ∧ IsP K H (.tup [.str "record", .tup (gs.map prD)]) x ∧ lookS gs z = some e ∧ ∀ v, IsP K H e v → Q v H
theorem look_here {z : Str} {d : Dt} : ∀ {fs : List (Str × Dt)} {i : Nat}, fs[i]? = some (z, d) → (∀ j f, j < i → fs[j]? = some f → f.1 ≠ z) → lookS fs z = some d
  | [], i, h, _ => by simp at h
  | f :: fs, 0, h, _ => by
    obtain rfl : f = (z, d) := by simpa using h
    simp [lookS]
  | f :: fs, i + 1, h, pre => by
    have hz : ¬ f.1 = z := pre 0 f (Nat.succ_pos _) rfl
    have h2 : fs[i]? = some (z, d) := by simpa using h
    have e : lookS (f :: fs) z = lookS fs z := by simp [lookS, hz]
    rw [e]
    exact look_here h2 fun j g hj hg => pre (j + 1) g (Nat.succ_lt_succ hj) (by simpa using hg)
theorem look_no {z : Str} : ∀ {fs : List (Str × Dt)}, (∀ f ∈ fs, f.1 ≠ z) → lookS fs z = none
  | [], _ => by simp [lookS]
  | f :: fs, h => by
    have hz : ¬ f.1 = z := h f List.mem_cons_self
    have e : lookS (f :: fs) z = lookS fs z := by simp [lookS, hz]
    rw [e]
    exact look_no fun g hg => h g (List.mem_cons_of_mem _ hg)
theorem ok_field_of (T : Tx K mg ad) {f : Addr} {fd : FuncData} (F : Gn K mg "field_of" s_field_of ["record", "name"] f fd) : FnOk P w K mg base CX0 1 f fd ["record", "name"] (sp_field_of K ad) := by
  refine F.F.ok sc_field_of (fun vs H Q E h => ?_) (fun cdv A outer s H vs Q E hr h => ?_)
  · obtain ⟨gs, z, e, x, rfl, _⟩ := h
    rfl
  obtain ⟨gs, z, e0, x, rfl, hd, lk, q⟩ := h
  refine ⟨_, (@pss_cons _ _ _ _ _ (ps_for PassesOwn.never rfl (pi_tupN (K := K) rfl (@pe_ix _ _ _ _ _ _ _ (ix_tupPN (K := K) rfl) (pv 0) pe_int (fun _ _ => rfl))) (pg_tup rfl (pgs_cons (pg_name (i := 2) sc_field_of.nd rfl (Or.inl rfl)) (pgs_cons (pg_name (i := 3) sc_field_of.nd rfl (Or.inl rfl)) pgs_nil)))
        (@pss_one _ _ _ (@ps_if _ _ _ _ _ _ _ _ (pt_cmpR op_eq (pv 2) (pv 1) (nomark _)) (@pss_one _ _ _ (@ps_ret _ _ _ _ (pv 3))) pss_nil))) (@pss_one _ _ _ (@ps_ret _ _ _ _ pe_non))), ?_⟩
  refine ⟨_, rfl, _, _, _, hd, rfl, rfl, fun v hv => ?_⟩
  obtain ⟨a, xs, rfl, ha, pa, ra⟩ := hv.unref
  have el := ra.length
  rw [List.length_map] at el
  refine ⟨a, rfl, ⟨xs, ha⟩, for_tup (xs := xs) (fun i σ H' => H' = H ∧ (∀ j f, j < i → gs[j]? = some f → f.1 ≠ z) ∧ ∃ v1 v2, σ = [some x, some (.str z), v1, v2]) ⟨rfl, fun j f hj => absurd hj (Nat.not_lt_zero _), _, _, rfl⟩ (fun i σ H' _ p => p.1 ▸ ha) ?_ ?_⟩
  · rintro i y σ H' hy ⟨rfl, pre, v1, v2, rfl⟩
    obtain ⟨e, he, hp⟩ := ra.get' hy
    rw [List.getElem?_map] at he
    obtain ⟨⟨w, e'⟩, hf, rfl⟩ := Option.map_eq_some_iff.mp he
    obtain ⟨b, ys, rfl, hb, pb, rb⟩ := hp.unref
    cases rb with
    | cons r1 rb =>
      cases rb with
      | @cons _ _ y2 _ r2 rb =>
        cases rb
        obtain rfl := isStrV r1
        refine ⟨b, _, rfl, hb, rfl, _, _, rfl, _, _, rfl, rfl, ?_⟩
        refine ⟨_, rfl, _, rfl, rfl, _, rfl, ?_⟩
        by_cases hz : w = z
        · subst hz
          rw [look_here hf pre] at lk
          obtain rfl := Option.some.inj lk
          exact iteY ⟨_, rfl, q _ r2⟩
        · refine iteN (strNe hz) ⟨rfl, fun j f hj hjf => ?_, _, _, rfl⟩
          rcases Nat.lt_succ_iff_lt_or_eq.mp hj with h1 | h1
          · exact pre j f h1 hjf
          · subst h1
            rw [hf] at hjf
            obtain rfl := Option.some.inj hjf
            exact hz
  · rintro σ H' ⟨rfl, pre, v1, v2, rfl⟩
    rw [look_no (fun f hf => by
      obtain ⟨j, hj, e⟩ := List.mem_iff_getElem.mp hf
      exact pre j f (by omega) (by rw [List.getElem?_eq_getElem hj, e]))] at lk
    cases lk
noncomputable def sp_are_keyed (K : PySem.W.Frag) (_ : Ads) : Sp := fun vs H Q _ => ∃ (z : Str) (l : List Dt) (x : V), vs = [x, .str z] ∧ IsP K H (.tup l) x ∧ (∀ v ∈ l, ∃ gs e, v = .tup [.str "record", .tup (gs.map prD)] ∧ lookS gs z = some e) ∧ l.length ≤ 8 ∧ Asc (l.map fun v => keyD v z) ∧ ∀ H', Same H H' → Q (.bl true) H'
theorem pw_at {α : Type} {R : α → α → Prop} {l : List α} (h : l.Pairwise R) {i : Nat} {a b : α} (ha : l[i]? = some a) (hb : (l.drop 1)[i]? = some b) : R a b := by
  rw [List.getElem?_drop] at hb
  obtain ⟨h1, e1⟩ := List.getElem?_eq_some_iff.mp ha
  obtain ⟨h2, e2⟩ := List.getElem?_eq_some_iff.mp hb
  have := List.pairwise_iff_getElem.mp h i (1 + i) h1 h2 (by omega)
  rw [e1, e2] at this
  exact this
/-- neighbours of keys that ascend: < is told True -/
theorem asc_lt {l : List Dt} (h : Asc l) {i : Nat} {a b : Dt} (ha : l[i]? = some a) (hb : (l.drop 1)[i]? = some b) : (∃ m n : Int, a = .int m ∧ b = .int n ∧ m < n) ∨ ∃ s t : Str, a = .str s ∧ b = .str t ∧ ltS s t := by
  rcases h with ⟨ns, rfl, pw⟩ | ⟨ss, rfl, pw⟩
  · rw [← List.map_drop, List.getElem?_map] at hb
    rw [List.getElem?_map] at ha
    obtain ⟨m, hm, rfl⟩ := Option.map_eq_some_iff.mp ha
    obtain ⟨n, hn, rfl⟩ := Option.map_eq_some_iff.mp hb
    exact .inl ⟨m, n, rfl, rfl, pw_at pw hm hn⟩
  · rw [← List.map_drop, List.getElem?_map] at hb
    rw [List.getElem?_map] at ha
    obtain ⟨m, hm, rfl⟩ := Option.map_eq_some_iff.mp ha
    obtain ⟨n, hn, rfl⟩ := Option.map_eq_some_iff.mp hb
    exact .inr ⟨m, n, rfl, rfl, pw_at pw hm hn⟩
theorem ok_are_keyed (T : Tx K mg ad) {f : Addr} {fd : FuncData} (F : Gn K mg "are_keyed" s_are_keyed ["items", "key"] f fd) : FnOk P w K mg base CX0 2 f fd ["items", "key"] (sp_are_keyed K ad) := by
  obtain ⟨f_field_of, fd_field_of, D_field_of⟩ := T.field_of
  have G_field_of := ok_field_of (P := P) (w := w) (base := base) T D_field_of
  refine F.F.ok sc_are_keyed (fun vs H Q E h => ?_) (fun cdv A outer s H vs Q E hr h => ?_)
  · obtain ⟨z, l, x, rfl, _⟩ := h
    rfl
  obtain ⟨z, l, x, rfl, hd, rcs, hl8, asc, q⟩ := h
  refine ⟨_, (@pss_cons _ _ _ _ _ (ps_setC (j := 2) sc_are_keyed.nd rfl (Or.inl rfl) rfl (csR (sc := defScope s_are_keyed) (NL := ["item"]) (N := ["items", "key", "keys"]) (ρ := [1]) (N' := ["item", "key"]) rfl rfl rfl (by decide +kernel) (by decide +kernel) (by decide +kernel) rfl (by decide +kernel)) (pi_tupN (K := K) rfl (pv 0)) (fun _ _ _ _ => (pg_name (i := 0) (show List.Nodup (α := Str) ["item", "key"] by decide +kernel) rfl (Or.inl rfl))) (fun _ _ _ _ => (pe_call G_field_of (hr.mono (by first | decide | omega)) rfl D_field_of.m D_field_of.F.kp D_field_of.b .nil pass0 (@pa_cons _ _ _ _ _ (pv 0) (@pa_cons _ _ _ _ _ (pv 1) pa_nil (by rfl)) (by rfl))))) (@pss_one _ _ _ (@ps_ret _ _ _ _ (pe_callB call_all rfl T.z_all boot_all (@pa_cons _ _ _ _ _ (pe_comp rfl (cs0 (NL := ["ahead", "behind"]) rfl (by decide +kernel) (by decide +kernel)) (pi_zip rfl T.z_zip (@pa_cons _ _ _ _ _ (pv 2) (@pa_cons _ _ _ _ _ (pe_slice sl_list (pv 2) (po_some pe_int) po_none) pa_nil (by rfl)) (by rfl))) (fun _ _ _ _ => (pg_tupK (K := K) (n := 2) rfl rfl (pgs_cons (pg_name (i := 0) (show List.Nodup (α := Str) ["ahead", "behind"] by decide +kernel) rfl (Or.inl rfl)) (pgs_cons (pg_name (i := 1) (show List.Nodup (α := Str) ["ahead", "behind"] by decide +kernel) rfl (Or.inl rfl)) pgs_nil)))) (fun _ _ _ _ => (pe_cmpR op_ltIS (pv 0) (pv 1) (nomark _)))) pa_nil (by rfl)))))), ?_⟩
  obtain ⟨a, xs, rfl, ha, pa, ra⟩ := hd.unref
  have el := ra.length
  refine ⟨_, rfl, a, rfl, ⟨xs, ha⟩, fun l2 hl2 => ?_⟩
  refine comp_tupR (K := K) (xs := xs) (fun i ys σ H' => Same H H' ∧ H' l2 = some (.lst ys) ∧ IsPs K H' ((l.take i).map fun v => keyD v z) ys ∧ ys.length = i ∧ ∃ v1, σ = [v1, some (.str z)]) ⟨same_new hl2 _, upd_same, .nil, rfl, none, rfl⟩ (fun i ys σ H' _ r => r.1.tup ha) ?_ ?_
  · rintro i y ys σ H2 N hy ⟨g2, e2, hp2, le2, v1, rfl⟩ next
    have hi : i < xs.length := (List.getElem?_eq_some_iff.mp hy).1
    obtain ⟨d, hdi, hp⟩ := ra.get' hy
    obtain ⟨gs, e, rfl, lk⟩ := rcs d (List.mem_of_getElem? hdi)
    refine ⟨_, rfl, _, rfl, gs, z, e, y, rfl, hp.same g2, lk, fun v hv => ?_⟩
    have b6 : But l2 H2 (upd H2 l2 (.lst (ys ++ [v]))) := But.put
    refine ⟨e2, small1000 (by omega), next _ _ _ ⟨same_upd hl2 g2, upd_same, ?_, by rw [List.length_append, le2]; rfl, _, rfl⟩⟩
    rw [← take_next (fun v => keyD v z) hdi]
    refine (hp2.but e2 b6).append (.cons ?_ .nil)
    have ek : keyD (.tup [.str "record", .tup (gs.map prD)]) z = e := by
      show (lookD (gs.map prD) z).getD .non = e
      rw [lookD_map, lk]
      rfl
    rw [ek]
    exact hv.but e2 b6
  · rintro ys σ H2 ⟨g2, e2, hp2, le2, v1, rfl⟩
    rw [← el, List.take_length] at hp2
    generalize hks : (l.map fun v => keyD v z) = ks at hp2 asc
    have lks : ks.length = ys.length := hp2.length
    refine ⟨_, rfl, _, rfl, _, rfl, l2, _, rfl, SqL.of e2, fun l3 hl3 => ?_⟩
    have n23 : l2 ≠ l3 := ne_of_none e2 hl3
    rw [cutV_tail]
    have g3 := same_new hl3 (.lst (ys.drop 1))
    have e3 : (upd H2 l3 (.lst (ys.drop 1))) l3 = some (.lst (ys.drop 1)) := upd_same
    have e2' := g3 _ _ e2
    have hp3 := hp2.same g3
    generalize upd H2 l3 (.lst (ys.drop 1)) = H3 at g3 e3 e2' hp3 ⊢
    refine ⟨l2, l3, rfl, ⟨_, SqL.of e2'⟩, ⟨_, SqL.of e3⟩, fun l4 hl4 => ?_⟩
    refine comp_zipR (K := K) (xs := ys) (ys := ys.drop 1) (fun i us σ H' => us = bls (List.replicate i true) ∧ i ≤ 8 ∧ Same H3 H' ∧ H' l4 = some (.lst us) ∧ ∃ v1 v2, σ = [v1, v2]) ⟨rfl, Nat.zero_le _, same_new hl4 _, upd_same, none, none, rfl⟩ (fun i us σ H' r => ⟨SqL.of (r.2.2.1 _ _ e2'), SqL.of (r.2.2.1 _ _ e3)⟩) ?_ ?_
    · rintro i u v Tt us σ H5 N hu hv hT ⟨rfl, hi8, g5, e5, w1, w2, rfl⟩ next
      obtain ⟨da, hda, hu'⟩ := hp3.get' hu
      obtain ⟨db, hdb, hv'⟩ := (hp3.drop 1).get' hv
      have li : i < ys.length := (List.getElem?_eq_some_iff.mp hu).1
      have n4 : l4 ≠ Tt := ne_of_none e5 hT
      have lt : ∃ v', v' = true ∧ ((∃ i j : Int, u = .int i ∧ v = .int j ∧ v' = decide (i < j)) ∨ ∃ i j : Str, u = .str i ∧ v = .str j ∧ v' = decide (i.cps.toList < j.cps.toList)) := by
        rcases asc_lt asc hda hdb with ⟨m, n, rfl, rfl, h⟩ | ⟨s, t, rfl, rfl, h⟩
        · exact ⟨_, rfl, .inl ⟨m, n, isIntV hu', isIntV hv', (decide_eq_true h).symm⟩⟩
        · exact ⟨_, rfl, .inr ⟨s, t, isStrV hu', isStrV hv', (decide_eq_true h).symm⟩⟩
      have fin : ∀ N' : Prop, N' → N' := fun _ h => h
      refine ⟨Tt, _, rfl, .inl (.inl upd_same), rfl, _, _, rfl, _, _, rfl, rfl, ?_⟩
      have hbl : (upd H5 Tt (.tup [u, v])) l4 = some (.lst (bls (List.replicate i true))) := by rw [upd_ne n4]; exact e5
      have nx : (bls (List.replicate i true)).length < sizeLine := by rw [bls, List.length_map, List.length_replicate]; exact small1000 (by omega)
      have st := next (bls (List.replicate i true) ++ [.bl true]) [some u, some v] (upd (upd H5 Tt (.tup [u, v])) l4 (.lst (bls (List.replicate i true) ++ [.bl true]))) ⟨by unfold bls; rw [List.replicate_succ', List.map_append]; rfl, by omega, same_upd hl4 (g5.trans (same_new hT _)), upd_same, _, _, rfl⟩
      obtain ⟨v', rfl, lt⟩ := lt
      rcases lt with ⟨m, n, rfl, rfl, h⟩ | ⟨s, t, rfl, rfl, h⟩
      · refine ⟨_, rfl, _, rfl, .inl ⟨m, n, rfl, rfl, ?_⟩⟩
        rw [← h]
        exact ⟨hbl, nx, st⟩
      · refine ⟨_, rfl, _, rfl, .inr ⟨s, t, rfl, rfl, ?_⟩⟩
        rw [← h]
        exact ⟨hbl, nx, st⟩
    · rintro us σ H5 ⟨rfl, hi8, g5, e5, w1, w2, rfl⟩
      refine ⟨l4, _, rfl, rfl, SqL.of e5, ?_⟩
      rw [all_rep]
      exact q H5 ((g2.trans g3).trans g5)
theorem fv_num {d e : Dt} (h : FV d e) : ∀ i j : Int, d = .tup [.str "number", .int i, .int j] → ∃ x, e = .int x ∧ i ≤ x ∧ x ≤ j := by
  cases h with
  | number h1 h2 =>
    intro i j e
    simp at e
    obtain ⟨rfl, rfl⟩ := e
    exact ⟨_, rfl, h1, h2⟩
  | _ =>
    intro i j e
    simp at e <;> first | exact absurd e.1 (by decide) | exact absurd e (by decide)
theorem fv_text {d e : Dt} (h : FV d e) : ∀ i : Int, d = .tup [.str "text", .int i] → ∃ z, e = .str z ∧ (z.length : Int) ≤ i ∧ okT z := by
  cases h with
  | text h1 h2 =>
    intro i e
    simp at e
    obtain rfl := e
    exact ⟨_, rfl, h1, h2⟩
  | _ =>
    intro i e
    simp at e <;> first | exact absurd e.1 (by decide) | exact absurd e (by decide)
theorem strs_inj : ∀ {ws vs : List Str}, ws.map Dt.str = vs.map Dt.str → ws = vs
  | [], [], _ => rfl
  | [], _ :: _, h => by simp at h
  | _ :: _, [], h => by simp at h
  | a :: ws, b :: vs, h => by
    have h' := List.cons.inj (show Dt.str a :: ws.map Dt.str = Dt.str b :: vs.map Dt.str from h)
    rw [Dt.str.inj h'.1, strs_inj h'.2]
theorem fv_choice {d e : Dt} (h : FV d e) : ∀ ws : List Str, d = .tup [.str "choice", .tup (ws.map Dt.str)] → ∃ z, e = .str z ∧ z ∈ ws := by
  cases h with
  | @choice ws' z hz =>
    intro ws e
    have e' : ws'.map Dt.str = ws.map Dt.str := by simpa using e
    obtain rfl := strs_inj e'
    exact ⟨_, rfl, hz⟩
  | _ =>
    intro ws e
    simp at e <;> first | exact absurd e.1 (by decide) | exact absurd e (by decide)
theorem fv_list {d e : Dt} (h : FV d e) : ∀ (k : Dt) (i : Int), d = .tup [.str "list", k, .int i] → ∃ vs, e = .tup [.str "list", .tup vs] ∧ (∀ v ∈ vs, FV k v) ∧ (vs.length : Int) ≤ i := by
  cases h with
  | list h1 h2 =>
    intro k i e
    simp at e
    obtain ⟨rfl, rfl⟩ := e
    exact ⟨_, rfl, h1, h2⟩
  | _ =>
    intro k i e
    simp at e <;> first | exact absurd e.1 (by decide) | exact absurd e (by decide)
theorem fv_rows {d e : Dt} (h : FV d e) : ∀ (k : Dt) (z : Str) (i : Int), d = .tup [.str "rows", .str z, k, .int i] → ∃ vs, e = .tup [.str "rows", .tup vs] ∧ (∀ v ∈ vs, FV k v) ∧ (vs.length : Int) ≤ i ∧ Asc (vs.map fun v => keyD v z) := by
  cases h with
  | rows h1 h2 h3 =>
    intro k z i e
    simp at e
    obtain ⟨rfl, rfl, rfl⟩ := e
    exact ⟨_, rfl, h1, h2, h3⟩
  | _ =>
    intro k z i e
    simp at e <;> first | exact absurd e.1 (by decide) | exact absurd e (by decide)
theorem prD_inj : ∀ {fs gs : List (Str × Dt)}, fs.map prD = gs.map prD → fs = gs
  | [], [], _ => rfl
  | [], g :: gs, h => by simp at h
  | f :: fs, [], h => by simp at h
  | (a, b) :: fs, (c, d) :: gs, h => by
    have h' := List.cons.inj (show prD (a, b) :: fs.map prD = prD (c, d) :: gs.map prD from h)
    have h1 := h'.1
    simp only [prD, Dt.tup.injEq, List.cons.injEq, Dt.str.injEq, and_true] at h1
    rw [prD_inj h'.2, h1.1, h1.2]
theorem fv_rcd {d e : Dt} (h : FV d e) : ∀ fs : List (Str × Dt), d = .tup [.str "record", .tup (fs.map prD)] → ∃ gs : List (Str × Dt), e = .tup [.str "record", .tup (gs.map prD)] ∧ gs.map (·.1) = fs.map (·.1) ∧ ∀ (i : Nat) (f g : Str × Dt), fs[i]? = some f → gs[i]? = some g → FV f.2 g.2 := by
  cases h with
  | @rcd fs' gs en gv =>
    intro fs e
    have e' : fs'.map prD = fs.map prD := by simpa using e
    obtain rfl := prD_inj e'
    exact ⟨gs, rfl, en, gv⟩
  | _ =>
    intro fs e
    simp at e <;> first | exact absurd e.1 (by decide) | exact absurd e (by decide)
noncomputable def sisof (K : PySem.W.Frag) (n : Nat) : Sp := fun vs H Q _ => ∃ (a ct : Nat) (d e : Dt) (x y : V), a ≤ n ∧ vs = [y, x] ∧ IsP K H d x ∧ IsP K H e y ∧ FK a ct d ∧ FV d e ∧ ∀ H', Same H H' → Q (.bl true) H'
noncomputable def sitems (K : PySem.W.Frag) (n : Nat) : Sp := fun vs H Q _ => ∃ (a ct : Nat) (d : Dt) (z : Str) (l : List Dt) (x y : V) (i : Int), a ≤ n ∧ vs = [y, .str z, x, .int i] ∧ IsP K H d x ∧ IsP K H (.tup [.str z, .tup l]) y ∧ FK a ct d ∧ (∀ v ∈ l, FV d v) ∧ (l.length : Int) ≤ i ∧ i ≤ 8 ∧ ∀ H', Same H H' → Q (.bl true) H'
noncomputable def spairo (K : PySem.W.Frag) (n : Nat) : Sp := fun vs H Q _ => ∃ (a ct : Nat) (d e : Dt) (z : Str) (x y : V), a ≤ n ∧ vs = [y, x] ∧ IsP K H (prD (z, d)) x ∧ IsP K H (prD (z, e)) y ∧ FK a ct d ∧ FV d e ∧ ∀ H', Same H H' → Q (.bl true) H'
noncomputable def srecof (K : PySem.W.Frag) (n : Nat) : Sp := fun vs H Q _ => ∃ (fs gs : List (Str × Dt)) (x y : V), vs = [y, x] ∧ IsP K H (.tup (fs.map prD)) x ∧ IsP K H (.tup [.str "record", .tup (gs.map prD)]) y ∧ (∀ f ∈ fs, ∃ a ct, a ≤ n ∧ FK a ct f.2) ∧ fs.length ≤ 8 ∧ gs.map (·.1) = fs.map (·.1) ∧ (∀ (i : Nat) (f g : Str × Dt), fs[i]? = some f → gs[i]? = some g → FV f.2 g.2) ∧ ∀ H', Same H H' → Q (.bl true) H'
theorem ok_holds_items (T : Tx K mg ad) {f fk : Addr} {fd fdk : FuncData} (n : Nat) (F : Gn K mg "holds_items" s_holds_items ["value", "word", "kind", "most"] f fd) (D_is_of : Gn K mg "is_of" s_is_of ["value", "kind"] fk fdk)
    (G_is_of : FnOk P w K mg base CX0 (3 * n + 3) fk fdk ["value", "kind"] (sisof K n)) : FnOk P w K mg base CX0 (3 * n + 3 + 1) f fd ["value", "word", "kind", "most"] (sitems K n) := by
  obtain ⟨f_holds_tuple, fd_holds_tuple, D_holds_tuple⟩ := T.holds_tuple
  have G_holds_tuple := ok_holds_tuple (P := P) (w := w) (base := base) T D_holds_tuple
  refine F.F.ok sc_holds_items (fun vs H Q E h => ?_) (fun cdv A outer s H vs Q E hr h => ?_)
  · obtain ⟨a, ct, d, z, l, x, y, i, _, rfl, _⟩ := h
    rfl
  obtain ⟨a, ct, d, z, l, x, y, i, ha, rfl, hd, he, gk, gv, hl, h8, q⟩ := h
  refine ⟨_, (@pss_cons _ _ _ _ _ (@ps_if _ _ _ _ _ _ _ _ (PW.pt (@pw_or _ _ _ _ _ _ _ (@pt_not _ _ _ _ (@pt_val _ _ _ (pe_call G_holds_tuple (hr.mono (by first | decide | omega)) rfl D_holds_tuple.m D_holds_tuple.F.kp D_holds_tuple.b .nil pass0 (@pa_cons _ _ _ _ _ (pv 0) (@pa_cons _ _ _ _ _ (pv 1) pa_nil (by rfl)) (by rfl))) (by intro _; rfl))) (@pw_or1 _ _ _ _ (pt_cmpR op_gt (pe_callB (call_lenDN (K := K) rfl) rfl T.z_len PySem.boot_len (@pa_cons _ _ _ _ _ (@pe_ix _ _ _ _ _ _ _ (ix_tupPN (K := K) rfl) (pv 0) pe_int (fun _ _ => rfl)) pa_nil (by rfl))) (pv 3) (nomark _))))) (@pss_one _ _ _ (@ps_ret _ _ _ _ pe_bl)) pss_nil) (@pss_one _ _ _ (@ps_ret _ _ _ _ (pe_callB call_all rfl T.z_all boot_all (@pa_cons _ _ _ _ _ (pe_comp rfl (csR (sc := defScope s_holds_items) (NL := ["item"]) (N := ["value", "word", "kind", "most"]) (ρ := [2]) (N' := ["item", "kind"]) rfl rfl rfl (by decide +kernel) (by decide +kernel) (by decide +kernel) rfl (by decide +kernel)) (pi_tupN (K := K) rfl (@pe_ix _ _ _ _ _ _ _ (ix_tupPN (K := K) rfl) (pv 0) pe_int (fun _ _ => rfl))) (fun _ _ _ _ => (pg_name (i := 0) (show List.Nodup (α := Str) ["item", "kind"] by decide +kernel) rfl (Or.inl rfl))) (fun _ _ _ _ => (pe_call G_is_of (hr.mono (by first | decide | omega)) rfl D_is_of.m D_is_of.F.kp D_is_of.b .nil pass0 (@pa_cons _ _ _ _ _ (pv 0) (@pa_cons _ _ _ _ _ (pv 1) pa_nil (by rfl)) (by rfl))))) pa_nil (by rfl)))))), ?_⟩
  refine ⟨_, rfl, _, rfl, z, l, y, rfl, he, _, rfl, iteF ?_⟩
  refine ⟨_, rfl, _, _, _, he, rfl, rfl, fun v hv => ⟨v, _, rfl, hv.d, _, rfl, _, _, rfl, rfl, _, rfl, ?_⟩⟩
  rw [decide_eq_false (by omega)]
  refine iteF ?_
  refine ⟨_, rfl, _, _, _, he, rfl, rfl, fun v hv => ?_⟩
  obtain ⟨b, xs, rfl, hb, pb, rb⟩ := hv.unref
  have el := rb.length
  refine ⟨b, rfl, ⟨xs, hb⟩, fun l2 hl2 => ?_⟩
  refine comp_tupR (K := K) (xs := xs) (fun i ys σ H' => ys = bls (List.replicate i true) ∧ i ≤ 8 ∧ Same H H' ∧ H' l2 = some (.lst ys) ∧ ∃ v1, σ = [v1, some x]) ⟨rfl, Nat.zero_le _, same_new hl2 _, upd_same, none, rfl⟩ (fun i ys σ H' _ r => r.2.2.1.tup hb) ?_ ?_
  · rintro j u ys σ H2 N hu ⟨rfl, hj, g2, e2, v1, rfl⟩ next
    have hj2 : j < xs.length := (List.getElem?_eq_some_iff.mp hu).1
    obtain ⟨e, he', hp⟩ := rb.get' hu
    refine ⟨_, rfl, _, rfl, a, ct, d, e, x, u, ha, rfl, hd.same g2, hp.same g2, gk, gv e (List.mem_of_getElem? he'), fun H3 g3 => ?_⟩
    refine ⟨g3 _ _ e2, ?_, next _ _ _ ⟨?_, by omega, same_upd hl2 (g2.trans g3), upd_same, _, rfl⟩⟩
    · rw [bls, List.length_map, List.length_replicate]; exact small1000 (by omega)
    · unfold bls
      rw [List.replicate_succ', List.map_append]
      rfl
  · rintro ys σ H2 ⟨rfl, hj, g2, e2, v1, rfl⟩
    refine ⟨l2, _, rfl, rfl, SqL.of e2, ?_⟩
    rw [all_rep]
    exact q H2 g2
theorem ok_is_pair_of (T : Tx K mg ad) {f fk : Addr} {fd fdk : FuncData} (n : Nat) (F : Gn K mg "is_pair_of" s_is_pair_of ["pair", "field"] f fd) (D_is_of : Gn K mg "is_of" s_is_of ["value", "kind"] fk fdk)
    (G_is_of : FnOk P w K mg base CX0 (3 * n + 3) fk fdk ["value", "kind"] (sisof K n)) : FnOk P w K mg base CX0 (3 * n + 3 + 1) f fd ["pair", "field"] (spairo K n) := by
  refine F.F.ok sc_is_pair_of (fun vs H Q E h => ?_) (fun cdv A outer s H vs Q E hr h => ?_)
  · obtain ⟨a, ct, d, e, z, x, y, _, rfl, _⟩ := h
    rfl
  obtain ⟨a, ct, d, e, z, x, y, ha, rfl, hd, he, gk, gv, q⟩ := h
  refine ⟨_, (@pss_cons _ _ _ _ _ (@ps_if _ _ _ _ _ _ _ _ (PW.pt (@pw_or _ _ _ _ _ _ _ (@pt_not _ _ _ _ (@pt_val _ _ _ (pe_callB (call_isiN' (K := K) rfl) rfl T.z_isinstance boot_isinstance (@pa_cons _ _ _ _ _ (pv 0) (@pa_cons _ _ _ _ _ (pe_gty rfl T.z_tuple boot_tuple) pa_nil (by rfl)) (by rfl))) (by intro _; rfl))) (@pw_or1 _ _ _ _ (pt_cmpR op_ne (pe_callB (call_lenDN (K := K) rfl) rfl T.z_len PySem.boot_len (@pa_cons _ _ _ _ _ (pv 0) pa_nil (by rfl))) pe_int (nomark _))))) (@pss_one _ _ _ (@ps_ret _ _ _ _ pe_bl)) pss_nil) (@pss_one _ _ _ (@ps_ret _ _ _ _ (pe_and (pe_cmpR op_eq (@pe_ix _ _ _ _ _ _ _ (ix_tupPN (K := K) rfl) (pv 0) pe_int (fun _ _ => rfl)) (@pe_ix _ _ _ _ _ _ _ (ix_tupPN (K := K) rfl) (pv 1) pe_int (fun _ _ => rfl)) (nomark _)) (pe_one (pe_call G_is_of (hr.mono (by first | decide | omega)) rfl D_is_of.m D_is_of.F.kp D_is_of.b .nil pass0 (@pa_cons _ _ _ _ _ (@pe_ix _ _ _ _ _ _ _ (ix_tupPN (K := K) rfl) (pv 0) pe_int (fun _ _ => rfl)) (@pa_cons _ _ _ _ _ (@pe_ix _ _ _ _ _ _ _ (ix_tupPN (K := K) rfl) (pv 1) pe_int (fun _ _ => rfl)) pa_nil (by rfl)) (by rfl)))))))), ?_⟩
  have he' : IsP K H (.tup [.str z, e]) y := he
  have hd' : IsP K H (.tup [.str z, d]) x := hd
  obtain ⟨b, ys, ey, hb, pb, rb⟩ := he'.unref
  have isi : IsiB K H y "tuple" true := by rw [ey]; exact .tup_tuple hb
  refine ⟨_, rfl, _, _, _, rfl, isi, _, rfl, iteF ?_⟩
  refine ⟨_, rfl, y, _, rfl, he'.d, rfl, _, rfl, iteN' ?_⟩
  refine ⟨_, rfl, _, _, _, he', rfl, rfl, fun v hv => ?_⟩
  obtain rfl := isStrV hv
  refine ⟨_, rfl, _, _, _, hd', rfl, rfl, fun v hv => ?_⟩
  obtain rfl := isStrV hv
  refine ⟨rfl, _, rfl, iteY ?_⟩
  refine ⟨_, rfl, _, _, _, he', rfl, rfl, fun v1 hv1 => ?_⟩
  refine ⟨_, rfl, _, _, _, hd', rfl, rfl, fun v2 hv2 => ?_⟩
  exact ⟨a, ct, d, e, v2, v1, ha, rfl, hv2, hv1, gk, gv, q⟩
theorem ok_is_record_of (T : Tx K mg ad) {f fk : Addr} {fd fdk : FuncData} (n : Nat) (F : Gn K mg "is_record_of" s_is_record_of ["value", "fields"] f fd) (D_is_pair_of : Gn K mg "is_pair_of" s_is_pair_of ["pair", "field"] fk fdk)
    (G_is_pair_of : FnOk P w K mg base CX0 (3 * n + 4) fk fdk ["pair", "field"] (spairo K n)) : FnOk P w K mg base CX0 (3 * n + 4 + 1) f fd ["value", "fields"] (srecof K n) := by
  obtain ⟨f_holds_tuple, fd_holds_tuple, D_holds_tuple⟩ := T.holds_tuple
  have G_holds_tuple := ok_holds_tuple (P := P) (w := w) (base := base) T D_holds_tuple
  refine F.F.ok sc_is_record_of (fun vs H Q E h => ?_) (fun cdv A outer s H vs Q E hr h => ?_)
  · obtain ⟨fs, gs, x, y, rfl, _⟩ := h
    rfl
  obtain ⟨fs, gs, x, y, rfl, hd, he, gk, h8, en, gv, q⟩ := h
  have lgs : gs.length = fs.length := by have := congrArg List.length en; simpa using this
  refine ⟨_, (@pss_cons _ _ _ _ _ (@ps_if _ _ _ _ _ _ _ _ (PW.pt (@pw_or _ _ _ _ _ _ _ (@pt_not _ _ _ _ (@pt_val _ _ _ (pe_call G_holds_tuple (hr.mono (by first | decide | omega)) rfl D_holds_tuple.m D_holds_tuple.F.kp D_holds_tuple.b .nil pass0 (@pa_cons _ _ _ _ _ (pv 0) (@pa_cons _ _ _ _ _ pe_str pa_nil (by rfl)) (by rfl))) (by intro _; rfl))) (@pw_or1 _ _ _ _ (pt_cmpR op_ne (pe_callB (call_lenDN (K := K) rfl) rfl T.z_len PySem.boot_len (@pa_cons _ _ _ _ _ (@pe_ix _ _ _ _ _ _ _ (ix_tupPN (K := K) rfl) (pv 0) pe_int (fun _ _ => rfl)) pa_nil (by rfl))) (pe_callB (call_lenDN (K := K) rfl) rfl T.z_len PySem.boot_len (@pa_cons _ _ _ _ _ (pv 1) pa_nil (by rfl))) (nomark _))))) (@pss_one _ _ _ (@ps_ret _ _ _ _ pe_bl)) pss_nil) (@pss_one _ _ _ (@ps_ret _ _ _ _ (pe_callB call_all rfl T.z_all boot_all (@pa_cons _ _ _ _ _ (pe_comp rfl (cs0 (NL := ["pair", "field"]) rfl (by decide +kernel) (by decide +kernel)) (pi_zipT rfl T.z_zip (@pa_cons _ _ _ _ _ (@pe_ix _ _ _ _ _ _ _ (ix_tupPN (K := K) rfl) (pv 0) pe_int (fun _ _ => rfl)) (@pa_cons _ _ _ _ _ (pv 1) pa_nil (by rfl)) (by rfl))) (fun _ _ _ _ => (pg_tupK (K := K) (n := 2) rfl rfl (pgs_cons (pg_name (i := 0) (show List.Nodup (α := Str) ["pair", "field"] by decide +kernel) rfl (Or.inl rfl)) (pgs_cons (pg_name (i := 1) (show List.Nodup (α := Str) ["pair", "field"] by decide +kernel) rfl (Or.inl rfl)) pgs_nil)))) (fun _ _ _ _ => (pe_call G_is_pair_of (hr.mono (by first | decide | omega)) rfl D_is_pair_of.m D_is_pair_of.F.kp D_is_pair_of.b .nil pass0 (@pa_cons _ _ _ _ _ (pv 0) (@pa_cons _ _ _ _ _ (pv 1) pa_nil (by rfl)) (by rfl))))) pa_nil (by rfl)))))), ?_⟩
  refine ⟨_, rfl, "record", gs.map prD, y, rfl, he, _, rfl, iteF ?_⟩
  refine ⟨_, rfl, _, _, _, he, rfl, rfl, fun v hv => ⟨v, _, rfl, hv.d, ?_⟩⟩
  refine ⟨_, rfl, x, _, rfl, hd.d, rfl, _, rfl, ?_⟩
  rw [List.length_map, List.length_map, lgs]
  refine iteN' ?_
  refine ⟨_, rfl, _, _, _, he, rfl, rfl, fun v1 hv1 => ?_⟩
  obtain ⟨b, xs, rfl, hb, pb, rb⟩ := hv1.unref
  obtain ⟨b2, xs2, rfl, hb2, pb2, rb2⟩ := hd.unref
  have el := rb.length
  have el2 := rb2.length
  rw [List.length_map] at el el2
  refine ⟨_, rfl, b, b2, rfl, ⟨xs, hb⟩, ⟨xs2, hb2⟩, fun l hln => ?_⟩
  refine comp_zipTR (K := K) (xs := xs) (ys := xs2) (fun i us σ H' => us = bls (List.replicate i true) ∧ i ≤ 8 ∧ Same H H' ∧ H' l = some (.lst us) ∧ ∃ v1 v2, σ = [v1, v2]) ⟨rfl, Nat.zero_le _, same_new hln _, upd_same, none, none, rfl⟩ (fun i us σ H' r => ⟨r.2.2.1.tup hb, r.2.2.1.tup hb2⟩) ?_ ?_
  · rintro i u v Tt us σ H5 N hu hv hT ⟨rfl, hi8, g5, e5, w1, w2, rfl⟩ next
    obtain ⟨da, hda, hu'⟩ := rb.get' hu
    obtain ⟨db, hdb, hv'⟩ := rb2.get' hv
    rw [List.getElem?_map] at hda hdb
    obtain ⟨⟨z1, e1⟩, hg, rfl⟩ := Option.map_eq_some_iff.mp hda
    obtain ⟨⟨z2, d1⟩, hf, rfl⟩ := Option.map_eq_some_iff.mp hdb
    have li : i < fs.length := (List.getElem?_eq_some_iff.mp hf).1
    obtain rfl : z1 = z2 := by
      have h1 : (gs.map (·.1))[i]? = some z1 := by rw [List.getElem?_map, hg]; rfl
      have h2 : (fs.map (·.1))[i]? = some z2 := by rw [List.getElem?_map, hf]; rfl
      rw [en, h2] at h1
      exact (Option.some.inj h1).symm
    obtain ⟨a9, ct9, ha9, fk9⟩ := gk _ (List.mem_of_getElem? hf)
    have n4 : l ≠ Tt := ne_of_none e5 hT
    have gT := same_new hT (.tup [u, v])
    refine ⟨Tt, _, rfl, .inl (.inl upd_same), rfl, _, _, rfl, _, _, rfl, rfl, ?_⟩
    refine ⟨_, rfl, _, rfl, a9, ct9, d1, e1, z1, v, u, ha9, rfl, (hv'.same g5).same gT, (hu'.same g5).same gT, fk9, gv i _ _ hf hg, fun H6 g6 => ?_⟩
    refine ⟨g6 _ _ (gT _ _ e5), ?_, next _ _ _ ⟨?_, by omega, same_upd hln ((g5.trans gT).trans g6), upd_same, _, _, rfl⟩⟩
    · rw [bls, List.length_map, List.length_replicate]; exact small1000 (by omega)
    · unfold bls
      rw [List.replicate_succ', List.map_append]
      rfl
  · rintro us σ H5 ⟨rfl, hi8, g5, e5, w1, w2, rfl⟩
    refine ⟨l, _, rfl, rfl, SqL.of e5, ?_⟩
    rw [all_rep]
    exact q H5 g5
theorem strs_vals {K : PySem.W.Frag} {H : Hp} : ∀ {ws : List Str} {xs : List V}, IsPs K H (ws.map Dt.str) xs → xs = ws.map V.str
  | [], xs, h => by cases h; rfl
  | w :: ws, xs, h => by
    cases h with
    | cons h1 h2 =>
      rw [isStrV h1, strs_vals h2]
      rfl
theorem flat_strs : ∀ ws : List Str, (ws.map V.str).all flatV = true
  | [] => rfl
  | w :: ws => by
    show (flatV (V.str w) && (ws.map V.str).all flatV) = true
    rw [flat_strs ws]
    rfl
theorem in_strs {z : Str} : ∀ {ws : List Str}, z ∈ ws → inV (V.str z) (ws.map V.str) = true
  | w :: ws, h => by
    show (eqV (V.str w) (V.str z) || inV (V.str z) (ws.map V.str)) = true
    rcases List.mem_cons.mp h with rfl | h
    · rw [show eqV (V.str z) (V.str z) = true by simp [eqV]]
      rfl
    · rw [in_strs h, Bool.or_true]
theorem ok_is_of (T : Tx K mg ad) {f f1 f2 : Addr} {fd fd1 fd2 : FuncData} (n : Nat) (F : Gn K mg "is_of" s_is_of ["value", "kind"] f fd) (D_holds_items : Gn K mg "holds_items" s_holds_items ["value", "word", "kind", "most"] f1 fd1) (D_is_record_of : Gn K mg "is_record_of" s_is_record_of ["value", "fields"] f2 fd2)
    (G_holds_items : FnOk P w K mg base CX0 (3 * n + 4) f1 fd1 ["value", "word", "kind", "most"] (sitems K n)) (G_is_record_of : FnOk P w K mg base CX0 (3 * n + 5) f2 fd2 ["value", "fields"] (srecof K n)) : FnOk P w K mg base CX0 (3 * n + 5 + 1) f fd ["value", "kind"] (sisof K (n + 1)) := by
  obtain ⟨f_is_whole_within, fd_is_whole_within, D_is_whole_within⟩ := T.is_whole_within
  have G_is_whole_within := ok_is_whole_within (P := P) (w := w) (base := base) T D_is_whole_within
  obtain ⟨f_is_text_of, fd_is_text_of, D_is_text_of⟩ := T.is_text_of
  have G_is_text_of := ok_is_text_of (P := P) (w := w) (base := base) T D_is_text_of
  obtain ⟨f_are_keyed, fd_are_keyed, D_are_keyed⟩ := T.are_keyed
  have G_are_keyed := ok_are_keyed (P := P) (w := w) (base := base) T D_are_keyed
  refine F.F.ok sc_is_of (fun vs H Q E h => ?_) (fun cdv A outer s H vs Q E hr h => ?_)
  · obtain ⟨a, ct, d, e, x, y, _, rfl, _⟩ := h
    rfl
  obtain ⟨a, ct, d, e, x, y, ha, rfl, hd, he, gk, gv, q⟩ := h
  refine ⟨_, (@pss_cons _ _ _ _ _ (@ps_set _ _ 2 _ _ _ _ sc_is_of.nd rfl (Or.inl rfl) (@pe_ix _ _ _ _ _ _ _ (ix_tupPN (K := K) rfl) (pv 1) pe_int (fun _ _ => rfl)) (by rfl) (by first | exact .inl rfl | exact .inr rfl | assumption)) (@pss_cons _ _ _ _ _ (@ps_if _ _ _ _ _ _ _ _ (pt_cmpR op_eq (pv 2) pe_str (nomark _)) (@pss_one _ _ _ (@ps_ret _ _ _ _ (pe_call G_is_whole_within (hr.mono (by first | decide | omega)) rfl D_is_whole_within.m D_is_whole_within.F.kp D_is_whole_within.b .nil pass0 (@pa_cons _ _ _ _ _ (pv 0) (@pa_cons _ _ _ _ _ (@pe_ix _ _ _ _ _ _ _ (ix_tupPN (K := K) rfl) (pv 1) pe_int (fun _ _ => rfl)) (@pa_cons _ _ _ _ _ (@pe_ix _ _ _ _ _ _ _ (ix_tupPN (K := K) rfl) (pv 1) pe_int (fun _ _ => rfl)) pa_nil (by rfl)) (by rfl)) (by rfl))))) pss_nil) (@pss_cons _ _ _ _ _ (@ps_if _ _ _ _ _ _ _ _ (pt_cmpR op_eq (pv 2) pe_str (nomark _)) (@pss_one _ _ _ (@ps_ret _ _ _ _ (pe_call G_is_text_of (hr.mono (by first | decide | omega)) rfl D_is_text_of.m D_is_text_of.F.kp D_is_text_of.b .nil pass0 (@pa_cons _ _ _ _ _ (pv 0) (@pa_cons _ _ _ _ _ (@pe_ix _ _ _ _ _ _ _ (ix_tupPN (K := K) rfl) (pv 1) pe_int (fun _ _ => rfl)) pa_nil (by rfl)) (by rfl))))) pss_nil) (@pss_cons _ _ _ _ _ (@ps_if _ _ _ _ _ _ _ _ (pt_cmpR op_eq (pv 2) pe_str (nomark _)) (@pss_one _ _ _ (@ps_ret _ _ _ _ (pe_and (pe_callB (call_isiN' (K := K) rfl) rfl T.z_isinstance boot_isinstance (@pa_cons _ _ _ _ _ (pv 0) (@pa_cons _ _ _ _ _ (pe_gty rfl T.z_str boot_str) pa_nil (by rfl)) (by rfl))) (pe_one (pe_cmpR (op_in_seqK (K := K) rfl) (pv 0) (@pe_ix _ _ _ _ _ _ _ (ix_tupPN (K := K) rfl) (pv 1) pe_int (fun _ _ => rfl)) rfl))))) pss_nil) (@pss_cons _ _ _ _ _ (@ps_if _ _ _ _ _ _ _ _ (pt_cmpR op_eq (pv 2) pe_str (nomark _)) (@pss_one _ _ _ (@ps_ret _ _ _ _ (pe_call G_holds_items (hr.mono (by first | decide | omega)) rfl D_holds_items.m D_holds_items.F.kp D_holds_items.b .nil pass0 (@pa_cons _ _ _ _ _ (pv 0) (@pa_cons _ _ _ _ _ pe_str (@pa_cons _ _ _ _ _ (@pe_ix _ _ _ _ _ _ _ (ix_tupPN (K := K) rfl) (pv 1) pe_int (fun _ _ => rfl)) (@pa_cons _ _ _ _ _ (@pe_ix _ _ _ _ _ _ _ (ix_tupPN (K := K) rfl) (pv 1) pe_int (fun _ _ => rfl)) pa_nil (by rfl)) (by rfl)) (by rfl)) (by rfl))))) pss_nil) (@pss_cons _ _ _ _ _ (@ps_if _ _ _ _ _ _ _ _ (pt_cmpR op_eq (pv 2) pe_str (nomark _)) (@pss_one _ _ _ (@ps_ret _ _ _ _ (pe_call G_is_record_of (hr.mono (by first | decide | omega)) rfl D_is_record_of.m D_is_record_of.F.kp D_is_record_of.b .nil pass0 (@pa_cons _ _ _ _ _ (pv 0) (@pa_cons _ _ _ _ _ (@pe_ix _ _ _ _ _ _ _ (ix_tupPN (K := K) rfl) (pv 1) pe_int (fun _ _ => rfl)) pa_nil (by rfl)) (by rfl))))) pss_nil) (@pss_one _ _ _ (@ps_ret _ _ _ _ (pe_and (pe_call G_holds_items (hr.mono (by first | decide | omega)) rfl D_holds_items.m D_holds_items.F.kp D_holds_items.b .nil pass0 (@pa_cons _ _ _ _ _ (pv 0) (@pa_cons _ _ _ _ _ pe_str (@pa_cons _ _ _ _ _ (@pe_ix _ _ _ _ _ _ _ (ix_tupPN (K := K) rfl) (pv 1) pe_int (fun _ _ => rfl)) (@pa_cons _ _ _ _ _ (@pe_ix _ _ _ _ _ _ _ (ix_tupPN (K := K) rfl) (pv 1) pe_int (fun _ _ => rfl)) pa_nil (by rfl)) (by rfl)) (by rfl)) (by rfl))) (pe_one (pe_call G_are_keyed (hr.mono (by first | decide | omega)) rfl D_are_keyed.m D_are_keyed.F.kp D_are_keyed.b .nil pass0 (@pa_cons _ _ _ _ _ (@pe_ix _ _ _ _ _ _ _ (ix_tupPN (K := K) rfl) (pv 0) pe_int (fun _ _ => rfl)) (@pa_cons _ _ _ _ _ (@pe_ix _ _ _ _ _ _ _ (ix_tupPN (K := K) rfl) (pv 1) pe_int (fun _ _ => rfl)) pa_nil (by rfl)) (by rfl))))))))))))), ?_⟩
  cases gk with
  | number i j b1 b2 b3 =>
    obtain ⟨v0, rfl, l1, l2⟩ := fv_num gv i j rfl
    obtain rfl := isIntV he
    refine ⟨_, rfl, _, _, _, hd, rfl, rfl, fun v hv => ?_⟩
    obtain rfl := isStrV hv
    refine ⟨_, rfl, rfl, _, rfl, iteY ?_⟩
    refine ⟨_, rfl, _, rfl, _, _, _, hd, rfl, rfl, fun v hv => ?_⟩
    obtain rfl := isIntV hv
    refine ⟨_, rfl, _, _, _, hd, rfl, rfl, fun v hv => ?_⟩
    obtain rfl := isIntV hv
    exact ⟨v0, i, j, rfl, l1, l2, q H (Same.refl _)⟩
  | text i b1 b2 =>
    obtain ⟨z, rfl, l1, l2⟩ := fv_text gv i rfl
    obtain rfl := isStrV he
    refine ⟨_, rfl, _, _, _, hd, rfl, rfl, fun v hv => ?_⟩
    obtain rfl := isStrV hv
    refine ⟨_, rfl, rfl, _, rfl, iteN (strNe (by decide)) ?_⟩
    refine ⟨_, rfl, rfl, _, rfl, iteY ?_⟩
    refine ⟨_, rfl, _, rfl, _, _, _, hd, rfl, rfl, fun v hv => ?_⟩
    obtain rfl := isIntV hv
    exact ⟨z, i, rfl, l1, b2, l2, q⟩
  | choice ws hw =>
    obtain ⟨z, rfl, l1⟩ := fv_choice gv ws rfl
    obtain rfl := isStrV he
    refine ⟨_, rfl, _, _, _, hd, rfl, rfl, fun v hv => ?_⟩
    obtain rfl := isStrV hv
    refine ⟨_, rfl, rfl, _, rfl, iteN (strNe (by decide)) ?_⟩
    refine ⟨_, rfl, rfl, _, rfl, iteN (strNe (by decide)) ?_⟩
    refine ⟨_, rfl, rfl, _, rfl, iteY ?_⟩
    refine ⟨_, rfl, _, _, _, rfl, .str_str, _, rfl, iteT ?_⟩
    refine ⟨_, rfl, _, rfl, _, _, _, hd, rfl, rfl, fun v hv => ?_⟩
    obtain ⟨b, xs, rfl, hb, pb, rb⟩ := hv.unref
    have ex : xs = ws.map V.str := strs_vals rb
    refine ⟨b, xs, rfl, .inr hb, rfl, ?_, ?_⟩
    · rw [ex]
      exact flat_strs ws
    · have : inV (V.str z) xs = true := by rw [ex]; exact in_strs l1
      show Q (.bl (inV (V.str z) xs)) H
      rw [this]
      exact q H (Same.refl _)
  | @list a' c' k i g b1 b2 =>
    obtain ⟨vs', rfl, l1, l2⟩ := fv_list gv k i rfl
    refine ⟨_, rfl, _, _, _, hd, rfl, rfl, fun v hv => ?_⟩
    obtain rfl := isStrV hv
    refine ⟨_, rfl, rfl, _, rfl, iteN (strNe (by decide)) ?_⟩
    refine ⟨_, rfl, rfl, _, rfl, iteN (strNe (by decide)) ?_⟩
    refine ⟨_, rfl, rfl, _, rfl, iteN (strNe (by decide)) ?_⟩
    refine ⟨_, rfl, rfl, _, rfl, iteY ?_⟩
    refine ⟨_, rfl, _, rfl, _, _, _, hd, rfl, rfl, fun v1 hv1 => ?_⟩
    refine ⟨_, rfl, _, _, _, hd, rfl, rfl, fun v hv => ?_⟩
    obtain rfl := isIntV hv
    exact ⟨a', c', k, "list", vs', v1, y, i, by omega, rfl, hv1, he, g, l1, l2, b2, q⟩
  | @rcd gs g asc nm hl =>
    obtain ⟨fs, efs⟩ : ∃ fs : List (Str × Dt), fs = gs.map nk := ⟨_, rfl⟩
    have ep : gs.map prG = fs.map prD := by rw [efs, List.map_map]; rfl
    rw [ep] at hd gv
    obtain ⟨gs', rfl, en, gg⟩ := fv_rcd gv fs rfl
    refine ⟨_, rfl, _, _, _, hd, rfl, rfl, fun v hv => ?_⟩
    obtain rfl := isStrV hv
    refine ⟨_, rfl, rfl, _, rfl, iteN (strNe (by decide)) ?_⟩
    refine ⟨_, rfl, rfl, _, rfl, iteN (strNe (by decide)) ?_⟩
    refine ⟨_, rfl, rfl, _, rfl, iteN (strNe (by decide)) ?_⟩
    refine ⟨_, rfl, rfl, _, rfl, iteN (strNe (by decide)) ?_⟩
    refine ⟨_, rfl, rfl, _, rfl, iteY ?_⟩
    refine ⟨_, rfl, _, rfl, _, _, _, hd, rfl, rfl, fun v1 hv1 => ?_⟩
    refine ⟨fs, gs', v1, y, rfl, hv1, he, fun f hf => ?_, by rw [efs, List.length_map]; exact hl, en, gg, q⟩
    rw [efs] at hf
    obtain ⟨x', hx', rfl⟩ := List.mem_map.mp hf
    have := le_max (List.mem_map_of_mem (f := fun g : G4 => g.2.2.1) hx')
    exact ⟨_, _, by omega, g x' hx'⟩
  | @rows a' c' z l i g kl b1 b2 =>
    obtain ⟨vs', rfl, l1, l2, l3⟩ := fv_rows gv _ z i rfl
    refine ⟨_, rfl, _, _, _, hd, rfl, rfl, fun v hv => ?_⟩
    obtain rfl := isStrV hv
    refine ⟨_, rfl, rfl, _, rfl, iteN (strNe (by decide)) ?_⟩
    refine ⟨_, rfl, rfl, _, rfl, iteN (strNe (by decide)) ?_⟩
    refine ⟨_, rfl, rfl, _, rfl, iteN (strNe (by decide)) ?_⟩
    refine ⟨_, rfl, rfl, _, rfl, iteN (strNe (by decide)) ?_⟩
    refine ⟨_, rfl, rfl, _, rfl, iteN (strNe (by decide)) ?_⟩
    refine ⟨_, rfl, _, rfl, _, _, _, hd, rfl, rfl, fun v1 hv1 => ?_⟩
    refine ⟨_, rfl, _, _, _, hd, rfl, rfl, fun v hv => ?_⟩
    obtain rfl := isIntV hv
    refine ⟨a', c', _, "rows", vs', v1, y, i, by omega, rfl, hv1, he, g, l1, l2, b2, fun H1 g1 => ?_⟩
    refine ⟨_, rfl, iteT ?_⟩
    refine ⟨_, rfl, _, _, _, he.same g1, rfl, rfl, fun v2 hv2 => ?_⟩
    refine ⟨_, rfl, _, _, _, hd.same g1, rfl, rfl, fun v hv => ?_⟩
    obtain rfl := isStrV hv
    obtain ⟨gs, rfl, fg, asc, hl, lt⟩ := fk_rcd g l rfl
    obtain ⟨w', rr, hm', hw⟩ := kl
    obtain ⟨f0, hf0, ef0⟩ := List.mem_map.mp hm'
    obtain ⟨g0, hg0, rfl⟩ := List.mem_map.mp hf0
    have ez : g0.1 = z ∧ g0.2.1 = .tup (.str w' :: rr) := by simpa [prD] using ef0
    obtain ⟨j0, hj0⟩ := List.mem_iff_getElem?.mp hf0
    have lk : lookS (gs.map nk) z = some g0.2.1 := look_at' (lt_nodup asc) (by rw [hj0, ← ez.1])
    refine ⟨z, vs', v2, rfl, hv2, fun v hv => ?_, by omega, l3, fun H2 g2 => q H2 (g1.trans g2)⟩
    obtain ⟨gs', rfl, en, _⟩ := fv_rcd (l1 v hv) _ rfl
    obtain ⟨e, h1, _⟩ := look_names en lk
    exact ⟨gs', e, rfl, h1⟩
theorem isof_all (T : Tx K mg ad) {f f1 f2 f3 : Addr} {fd fd1 fd2 fd3 : FuncData} (F : Gn K mg "is_of" s_is_of ["value", "kind"] f fd) (D1 : Gn K mg "holds_items" s_holds_items ["value", "word", "kind", "most"] f1 fd1) (D2 : Gn K mg "is_record_of" s_is_record_of ["value", "fields"] f2 fd2) (D3 : Gn K mg "is_pair_of" s_is_pair_of ["pair", "field"] f3 fd3) :
    ∀ n, FnOk P w K mg base CX0 (3 * n + 3) f fd ["value", "kind"] (sisof K n)
  | 0 => fn_none fun vs H Q E z => by
    obtain ⟨a, _, _, _, _, _, h1, _, _, _, g, _⟩ := z
    have := g.pos
    omega
  | n + 1 => by
    have ih := isof_all T F D1 D2 D3 n
    have hp := ok_is_pair_of T n D3 F ih
    exact ok_is_of T n F D1 D2 (ok_holds_items T n D1 F ih) (ok_is_record_of T n D2 D3 hp)
noncomputable def smadev (K : PySem.W.Frag) : Sp := fun vs H Q _ => ∃ (a ct : Nat) (d e : Dt) (x y : V), a ≤ 5 ∧ vs = [y, x] ∧ IsP K H d x ∧ IsP K H e y ∧ FK a ct d ∧ FV d e ∧ ∀ H', Same H H' → Q y H'
theorem ok_made_value (T : Tx K mg ad) {f : Addr} {fd : FuncData} (F : Gn K mg "made_value" s_made_value ["value", "kind"] f fd) : FnOk P w K mg base CX0 19 f fd ["value", "kind"] (smadev K) := by
  obtain ⟨f_is_of, fd_is_of, D_is_of⟩ := T.is_of
  obtain ⟨f1, d1, D1⟩ := T.holds_items
  obtain ⟨f2, d2, D2⟩ := T.is_record_of
  obtain ⟨f3, d3, D3⟩ := T.is_pair_of
  have G_is_of := isof_all (P := P) (w := w) (base := base) T D_is_of D1 D2 D3 5
  refine F.F.ok sc_made_value (fun vs H Q E h => ?_) (fun cdv A outer s H vs Q E hr h => ?_)
  · obtain ⟨a, ct, d, e, x, y, _, rfl, _⟩ := h
    rfl
  obtain ⟨a, ct, d, e, x, y, ha, rfl, hd, he, gk, gv, q⟩ := h
  refine ⟨_, (@pss_cons _ _ _ _ _ (@ps_if _ _ _ _ _ _ _ _ (@pt_not _ _ _ _ (@pt_val _ _ _ (pe_call G_is_of (hr.mono (by first | decide | omega)) rfl D_is_of.m D_is_of.F.kp D_is_of.b .nil pass0 (@pa_cons _ _ _ _ _ (pv 0) (@pa_cons _ _ _ _ _ (pv 1) pa_nil (by rfl)) (by rfl))) (by intro _; rfl))) (@pss_one _ _ _ ps_never) pss_nil) (@pss_one _ _ _ (@ps_ret _ _ _ _ (pv 0)))), ?_⟩
  refine ⟨_, rfl, _, rfl, a, ct, d, e, x, y, ha, rfl, hd, he, gk, gv, fun H1 g1 => ?_⟩
  exact ⟨_, rfl, iteF ⟨_, rfl, q H1 g1⟩⟩
noncomputable def clampI (i j : Int) : Int := if 0 < i then i else if j < 0 then j else 0
/-- the least value of a kind at most n deep -/
noncomputable def leastN : Nat → Dt → Dt
  | 0, _ => .non
  | n + 1, .tup (.str w :: r) =>
    if w = "number" then (match r with
      | [.int i, .int j] => .int (clampI i j)
      | _ => .non)
    else if w = "text" then .str ""
    else if w = "choice" then (match r with
      | [.tup (z :: _)] => z
      | _ => .non)
    else if w = "record" then (match r with
      | [.tup l] => .tup [.str "record", .tup (l.map fun p => match p with
        | .tup [a, k] => .tup [a, leastN n k]
        | p => p)]
      | _ => .non)
    else .tup [.str w, .tup []]
  | _ + 1, _ => .non
theorem least_number (n : Nat) (i j : Int) : leastN (n + 1) (.tup [.str "number", .int i, .int j]) = .int (clampI i j) := by simp [leastN]
theorem least_text (n : Nat) (i : Int) : leastN (n + 1) (.tup [.str "text", .int i]) = .str "" := by
  simp only [leastN]
  rw [if_neg (by decide), if_pos trivial]
theorem least_choice (n : Nat) (z : Str) (r : List Dt) : leastN (n + 1) (.tup [.str "choice", .tup (.str z :: r)]) = .str z := by
  simp only [leastN]
  rw [if_neg (by decide), if_neg (by decide), if_pos trivial]
theorem least_record (n : Nat) (fs : List (Str × Dt)) : leastN (n + 1) (.tup [.str "record", .tup (fs.map prD)]) = .tup [.str "record", .tup ((fs.map fun f => (f.1, leastN n f.2)).map prD)] := by
  simp only [leastN]
  rw [if_neg (by decide), if_neg (by decide), if_neg (by decide), if_pos trivial, List.map_map, List.map_map]
  rfl
theorem least_list (n : Nat) (r : List Dt) : leastN (n + 1) (.tup (.str "list" :: r)) = .tup [.str "list", .tup []] := by
  simp only [leastN]
  rw [if_neg (by decide), if_neg (by decide), if_neg (by decide), if_neg (by decide)]
theorem least_rows (n : Nat) (r : List Dt) : leastN (n + 1) (.tup (.str "rows" :: r)) = .tup [.str "rows", .tup []] := by
  simp only [leastN]
  rw [if_neg (by decide), if_neg (by decide), if_neg (by decide), if_neg (by decide)]
theorem words_cons {ws : List Str} (hw : wordsB ws = true) : ∃ z r, ws = z :: r := by
  unfold wordsB at hw
  simp only [Bool.and_eq_true, decide_eq_true_eq] at hw
  cases ws with
  | nil => simp at hw
  | cons z r => exact ⟨z, r, rfl⟩
theorem least_fv : ∀ (n a ct : Nat) (d : Dt), a ≤ n → FK a ct d → FV d (leastN n d) := by
  intro n
  induction n with
  | zero =>
    intro a ct d h g
    have := g.pos
    omega
  | succ n ih =>
    intro a ct d h g
    cases g with
    | number i j b1 b2 b3 =>
      rw [least_number]
      unfold clampI
      split
      · exact .number (Int.le_refl _) b2
      · split
        · exact .number b2 (Int.le_refl _)
        · exact .number (by omega) (by omega)
    | text i b1 b2 =>
      rw [least_text]
      exact .text (by show (0 : Int) ≤ i; exact b1) fun c hc => by cases (show c ∈ ([] : List Nat) from hc)
    | choice ws hw =>
      obtain ⟨z, r, rfl⟩ := words_cons hw
      rw [show ((z :: r).map Dt.str) = Dt.str z :: r.map Dt.str from rfl, least_choice]
      exact .choice (ws := z :: r) List.mem_cons_self
    | list g b1 b2 =>
      rw [least_list]
      exact .list (by intro v hv; cases hv) (by simpa using b1)
    | rows g kl b1 b2 =>
      rw [least_rows]
      exact .rows (by intro v hv; cases hv) (by simpa using b1) (.inl ⟨[], rfl, .nil⟩)
    | @rcd gs g asc nm hl =>
      obtain ⟨fs, efs⟩ : ∃ fs : List (Str × Dt), fs = gs.map nk := ⟨_, rfl⟩
      have ep : gs.map prG = fs.map prD := by rw [efs, List.map_map]; rfl
      rw [ep, least_record]
      refine .rcd (by rw [List.map_map]; rfl) fun i f g' hf hg => ?_
      rw [List.getElem?_map, hf] at hg
      obtain rfl := Option.some.inj hg
      have hm := List.mem_of_getElem? hf
      rw [efs] at hm
      obtain ⟨x', hx', rfl⟩ := List.mem_map.mp hm
      have := le_max (List.mem_map_of_mem (f := fun g : G4 => g.2.2.1) hx')
      exact ih _ _ _ (by omega) (g x' hx')
noncomputable def sleast (K : PySem.W.Frag) (n : Nat) : Sp := fun vs H Q _ => ∃ (a ct : Nat) (d : Dt) (x : V), a ≤ n ∧ vs = [x] ∧ IsP K H d x ∧ FK a ct d ∧ ∀ v H', Same H H' → IsP K H' (leastN n d) v → Q v H'
theorem ok_least_value (T : Tx K mg ad) {f : Addr} {fd : FuncData} (n : Nat) (D_least_value : Gn K mg "least_value" s_least_value ["kind"] f fd) (G_least_value : FnOk P w K mg base CX0 n f fd ["kind"] (sleast K n)) : FnOk P w K mg base CX0 (n + 1) f fd ["kind"] (sleast K (n + 1)) := by
  refine D_least_value.F.ok sc_least_value (fun vs H Q E h => ?_) (fun cdv A outer s H vs Q E hr h => ?_)
  · obtain ⟨a, ct, d, x, _, rfl, _⟩ := h
    rfl
  obtain ⟨a, ct, d, x, ha, rfl, hd, gk, q⟩ := h
  refine ⟨_, (@pss_cons _ _ _ _ _ (@ps_set _ _ 1 _ _ _ _ sc_least_value.nd rfl (Or.inl rfl) (@pe_ix _ _ _ _ _ _ _ (ix_tupPN (K := K) rfl) (pv 0) pe_int (fun _ _ => rfl)) (by rfl) (by first | exact .inl rfl | exact .inr rfl | assumption)) (@pss_cons _ _ _ _ _ (@ps_if _ _ _ _ _ _ _ _ (pt_cmpR op_eq (pv 1) pe_str (nomark _)) (@pss_one _ _ _ (@ps_ret _ _ _ _ (pe_callB (call_min2 rfl) rfl T.z_min boot_min (@pa_cons _ _ _ _ _ (pe_callB (call_max2 rfl) rfl T.z_max boot_max (@pa_cons _ _ _ _ _ pe_int (@pa_cons _ _ _ _ _ (@pe_ix _ _ _ _ _ _ _ (ix_tupPN (K := K) rfl) (pv 0) pe_int (fun _ _ => rfl)) pa_nil (by rfl)) (by rfl))) (@pa_cons _ _ _ _ _ (@pe_ix _ _ _ _ _ _ _ (ix_tupPN (K := K) rfl) (pv 0) pe_int (fun _ _ => rfl)) pa_nil (by rfl)) (by rfl))))) pss_nil) (@pss_cons _ _ _ _ _ (@ps_if _ _ _ _ _ _ _ _ (pt_cmpR op_eq (pv 1) pe_str (nomark _)) (@pss_one _ _ _ (@ps_ret _ _ _ _ pe_str)) pss_nil) (@pss_cons _ _ _ _ _ (@ps_if _ _ _ _ _ _ _ _ (pt_cmpR op_eq (pv 1) pe_str (nomark _)) (@pss_one _ _ _ (@ps_ret _ _ _ _ (@pe_ix _ _ _ _ _ _ _ (ix_tupPN (K := K) rfl) (@pe_ix _ _ _ _ _ _ _ (ix_tupPN (K := K) rfl) (pv 0) pe_int (fun _ _ => rfl)) pe_int (fun _ _ => rfl)))) pss_nil) (@pss_cons _ _ _ _ _ (@ps_if _ _ _ _ _ _ _ _ (pt_cmpR op_eq (pv 1) pe_str (nomark _)) (@pss_one _ _ _ (@ps_ret _ _ _ _ (@pe_tupPK _ K _ _ _ _ rfl (@pa_cons _ _ _ _ _ pe_str (@pa_cons _ _ _ _ _ (pe_callTy (call_tuplePN (K := K) rfl) rfl T.z_tuple boot_tuple (@pa_cons _ _ _ _ _ (pe_comp rfl (cs0 (NL := ["name", "inner"]) rfl (by decide +kernel) (by decide +kernel)) (pi_tupN (K := K) rfl (@pe_ix _ _ _ _ _ _ _ (ix_tupPN (K := K) rfl) (pv 0) pe_int (fun _ _ => rfl))) (fun _ _ _ _ => (pg_tupK (K := K) (n := 2) rfl rfl (pgs_cons (pg_name (i := 0) (show List.Nodup (α := Str) ["name", "inner"] by decide +kernel) rfl (Or.inl rfl)) (pgs_cons (pg_name (i := 1) (show List.Nodup (α := Str) ["name", "inner"] by decide +kernel) rfl (Or.inl rfl)) pgs_nil)))) (fun _ _ _ _ => (pe_tupPK (K := K) rfl (@pa_cons _ _ _ _ _ (pv 0) (@pa_cons _ _ _ _ _ (pe_call G_least_value (hr.mono (by first | decide | omega)) rfl D_least_value.m D_least_value.F.kp D_least_value.b .nil pass0 (@pa_cons _ _ _ _ _ (pv 1) pa_nil (by rfl))) pa_nil (by rfl)) (by rfl))))) pa_nil (by rfl))) pa_nil (by rfl)) (by rfl))))) pss_nil) (@pss_one _ _ _ (@ps_ret _ _ _ _ (@pe_tupPK _ K _ _ _ _ rfl (@pa_cons _ _ _ _ _ (pv 1) (@pa_cons _ _ _ _ _ (@pe_tupPK _ K _ _ _ _ rfl pa_nil) pa_nil (by rfl)) (by rfl)))))))))), ?_⟩
  cases gk with
  | number i j b1 b2 b3 =>
    refine ⟨_, rfl, _, _, _, hd, rfl, rfl, fun v hv => ?_⟩
    obtain rfl := isStrV hv
    refine ⟨_, rfl, rfl, _, rfl, iteY ?_⟩
    refine ⟨_, rfl, _, _, _, hd, rfl, rfl, fun v hv => ?_⟩
    obtain rfl := isIntV hv
    refine ⟨_, _, rfl, ?_⟩
    refine ⟨_, rfl, _, _, _, hd, rfl, rfl, fun v hv => ?_⟩
    obtain rfl := isIntV hv
    refine ⟨_, _, rfl, ?_⟩
    refine q _ H (Same.refl _) ?_
    rw [least_number]
    have e' : ∀ x : Int, x = clampI i j → IsP K H (.int (clampI i j)) (.int x) := fun x h => by rw [h]; exact .int
    refine e' _ ?_
    unfold clampI
    (repeat' split) <;> omega
  | text i b1 b2 =>
    refine ⟨_, rfl, _, _, _, hd, rfl, rfl, fun v hv => ?_⟩
    obtain rfl := isStrV hv
    refine ⟨_, rfl, rfl, _, rfl, iteN (strNe (by decide)) ?_⟩
    refine ⟨_, rfl, rfl, _, rfl, iteY ?_⟩
    refine q _ H (Same.refl _) ?_
    rw [least_text]
    exact .str
  | choice ws hw =>
    obtain ⟨z, r, rfl⟩ := words_cons hw
    refine ⟨_, rfl, _, _, _, hd, rfl, rfl, fun v hv => ?_⟩
    obtain rfl := isStrV hv
    refine ⟨_, rfl, rfl, _, rfl, iteN (strNe (by decide)) ?_⟩
    refine ⟨_, rfl, rfl, _, rfl, iteN (strNe (by decide)) ?_⟩
    refine ⟨_, rfl, rfl, _, rfl, iteY ?_⟩
    refine ⟨_, rfl, _, _, _, hd, rfl, rfl, fun v1 hv1 => ?_⟩
    refine ⟨_, _, _, hv1, rfl, (show atI (List.map Dt.str (z :: r)) 0 = some (Dt.str z) from at0 (Dt.str z) (r.map Dt.str)), fun v hv => ?_⟩
    refine q _ H (Same.refl _) ?_
    rw [show ((z :: r).map Dt.str) = Dt.str z :: r.map Dt.str from rfl, least_choice]
    exact hv
  | @list a' c' k i g b1 b2 =>
    refine ⟨_, rfl, _, _, _, hd, rfl, rfl, fun v hv => ?_⟩
    obtain rfl := isStrV hv
    refine ⟨_, rfl, rfl, _, rfl, iteN (strNe (by decide)) ?_⟩
    refine ⟨_, rfl, rfl, _, rfl, iteN (strNe (by decide)) ?_⟩
    refine ⟨_, rfl, rfl, _, rfl, iteN (strNe (by decide)) ?_⟩
    refine ⟨_, rfl, rfl, _, rfl, iteN (strNe (by decide)) ?_⟩
    refine ⟨_, rfl, [], .nil, (by show 0 ≤ sizeLine; decide), fun v1 H1 g1 hv1 => ?_⟩
    refine ⟨[.str "list", .tup []], .cons .str (.cons hv1 .nil), (by show 2 ≤ sizeLine; decide), fun v2 H2 g2 hv2 => ?_⟩
    refine q v2 H2 (g1.trans g2) ?_
    rw [least_list]
    exact hv2
  | @rows a' c' z l i g kl b1 b2 =>
    refine ⟨_, rfl, _, _, _, hd, rfl, rfl, fun v hv => ?_⟩
    obtain rfl := isStrV hv
    refine ⟨_, rfl, rfl, _, rfl, iteN (strNe (by decide)) ?_⟩
    refine ⟨_, rfl, rfl, _, rfl, iteN (strNe (by decide)) ?_⟩
    refine ⟨_, rfl, rfl, _, rfl, iteN (strNe (by decide)) ?_⟩
    refine ⟨_, rfl, rfl, _, rfl, iteN (strNe (by decide)) ?_⟩
    refine ⟨_, rfl, [], .nil, (by show 0 ≤ sizeLine; decide), fun v1 H1 g1 hv1 => ?_⟩
    refine ⟨[.str "rows", .tup []], .cons .str (.cons hv1 .nil), (by show 2 ≤ sizeLine; decide), fun v2 H2 g2 hv2 => ?_⟩
    refine q v2 H2 (g1.trans g2) ?_
    rw [least_rows]
    exact hv2
  | @rcd gs g asc nm hl =>
    obtain ⟨fs, efs⟩ : ∃ fs : List (Str × Dt), fs = gs.map nk := ⟨_, rfl⟩
    have ep : gs.map prG = fs.map prD := by rw [efs, List.map_map]; rfl
    rw [ep] at hd q
    rw [least_record] at q
    have hl8 : fs.length ≤ 8 := by rw [efs, List.length_map]; exact hl
    refine ⟨_, rfl, _, _, _, hd, rfl, rfl, fun v hv => ?_⟩
    obtain rfl := isStrV hv
    refine ⟨_, rfl, rfl, _, rfl, iteN (strNe (by decide)) ?_⟩
    refine ⟨_, rfl, rfl, _, rfl, iteN (strNe (by decide)) ?_⟩
    refine ⟨_, rfl, rfl, _, rfl, iteN (strNe (by decide)) ?_⟩
    refine ⟨_, rfl, rfl, _, rfl, iteY ?_⟩
    refine ⟨_, rfl, _, _, _, hd, rfl, rfl, fun v hv => ?_⟩
    obtain ⟨aa, xs, rfl, ha', pa, ra⟩ := hv.unref
    have el := ra.length
    rw [List.length_map] at el
    refine ⟨aa, rfl, ⟨xs, ha'⟩, fun l hln => ?_⟩
    refine comp_tupR (K := K) (xs := xs) (fun i ys σ H' => Same H H' ∧ H' l = some (.lst ys) ∧ IsPs K H' (((fs.take i).map fun f => (f.1, leastN n f.2)).map prD) ys ∧ ys.length = i ∧ ∃ v1 v2, σ = [v1, v2])
      ⟨same_new hln _, upd_same, .nil, rfl, none, none, rfl⟩ (fun i ys σ H' _ p => p.1.tup ha') ?_ ?_
    · rintro i u ys σ H1 N hu ⟨g1, e1, hp, le1, v1, v2, rfl⟩ next
      have hi : i < xs.length := (List.getElem?_eq_some_iff.mp hu).1
      obtain ⟨e, he, hx⟩ := ra.get' hu
      rw [List.getElem?_map] at he
      obtain ⟨⟨w', d'⟩, hf, rfl⟩ := Option.map_eq_some_iff.mp he
      obtain ⟨b, zs, rfl, hb, pb, rb⟩ := (hx.same g1).unref
      cases rb with
      | cons r1 rb =>
        cases rb with
        | @cons _ _ y2 _ r2 rb =>
          cases rb
          obtain rfl := isStrV r1
          have hm := List.mem_of_getElem? hf
          rw [efs] at hm
          obtain ⟨x', hx', ex'⟩ := List.mem_map.mp hm
          have l9 := le_max (List.mem_map_of_mem (f := fun g : G4 => g.2.2.1) hx')
          have fk9 : FK x'.2.2.1 x'.2.2.2 d' := by
            have := g x' hx'
            rw [show x'.2.1 = d' from congrArg Prod.snd ex'] at this
            exact this
          refine ⟨b, _, rfl, hb, rfl, _, _, rfl, _, _, rfl, rfl, ?_⟩
          refine ⟨_, rfl, _, rfl, _, _, d', y2, by omega, rfl, r2, fk9, fun v H2 g2 hv2 => ?_⟩
          refine ⟨[.str w', leastN n d'], .cons .str (.cons hv2 .nil), (by show 2 ≤ sizeLine; decide), fun v4 H4 g4 hv4 => ?_⟩
          have f4 := g4 _ _ (g2 _ _ e1)
          have b5 : But l H4 (upd H4 l (.lst (ys ++ [v4]))) := But.put
          refine ⟨f4, small1000 (by omega), next _ _ _ ⟨same_upd hln ((g1.trans g2).trans g4), upd_same, ?_, by rw [List.length_append, le1]; rfl, _, _, rfl⟩⟩
          rw [List.take_add_one, hf, List.map_append, List.map_append]
          exact (((hp.same g2).same g4).but f4 b5).append (.cons (hv4.but f4 b5) .nil)
    · rintro ys σ H1 ⟨g1, e1, hp, le1, v1, v2, rfl⟩
      rw [← el, List.take_length] at hp
      refine ⟨l, ys, _, rfl, SqL.of e1, hp, fun v2 H2 g2 hv2 => ?_⟩
      refine ⟨[.str "record", .tup ((fs.map fun f => (f.1, leastN n f.2)).map prD)], .cons .str (.cons hv2 .nil), (by show 2 ≤ sizeLine; decide), fun v H3 g3 hv => ?_⟩
      exact q v H3 ((g1.trans g2).trans g3) hv
theorem all_least_value (T : Tx K mg ad) {f : Addr} {fd : FuncData} (D : Gn K mg "least_value" s_least_value ["kind"] f fd) : ∀ n, FnOk P w K mg base CX0 n f fd ["kind"] (sleast K n)
  | 0 => fn_none fun vs H Q E z => by
    obtain ⟨a, _, _, _, h1, _, _, g, _⟩ := z
    have := g.pos
    omega
  | n + 1 => ok_least_value T n D (all_least_value T D n)
theorem ok_law_least (T : Tx K mg ad) {f : Addr} {fd : FuncData} (n : Nat) (D_law_least : Gn K mg "_law_least" s_law_least ["kind"] f fd) (G_law_least : FnOk P w K mg base CX0 n f fd ["kind"] (sleast K n)) : FnOk P w K mg base CX0 (n + 1) f fd ["kind"] (sleast K (n + 1)) := by
  refine D_law_least.F.ok sc_law_least (fun vs H Q E h => ?_) (fun cdv A outer s H vs Q E hr h => ?_)
  · obtain ⟨a, ct, d, x, _, rfl, _⟩ := h
    rfl
  obtain ⟨a, ct, d, x, ha, rfl, hd, gk, q⟩ := h
  refine ⟨_, (@pss_cons _ _ _ _ _ (@ps_set _ _ 1 _ _ _ _ sc_law_least.nd rfl (Or.inl rfl) (@pe_ix _ _ _ _ _ _ _ (ix_tupPN (K := K) rfl) (pv 0) pe_int (fun _ _ => rfl)) (by rfl) (by first | exact .inl rfl | exact .inr rfl | assumption)) (@pss_cons _ _ _ _ _ (@ps_if _ _ _ _ _ _ _ _ (pt_cmpR op_eq (pv 1) pe_str (nomark _)) (@pss_cons _ _ _ _ _ (@ps_if _ _ _ _ _ _ _ _ (pt_cmpR op_gt (@pe_ix _ _ _ _ _ _ _ (ix_tupPN (K := K) rfl) (pv 0) pe_int (fun _ _ => rfl)) pe_int (nomark _)) (@pss_one _ _ _ (@ps_ret _ _ _ _ (@pe_ix _ _ _ _ _ _ _ (ix_tupPN (K := K) rfl) (pv 0) pe_int (fun _ _ => rfl)))) pss_nil) (@pss_one _ _ _ (@ps_ret _ _ _ _ (pe_callB (call_min2 rfl) rfl T.z_min boot_min (@pa_cons _ _ _ _ _ pe_int (@pa_cons _ _ _ _ _ (@pe_ix _ _ _ _ _ _ _ (ix_tupPN (K := K) rfl) (pv 0) pe_int (fun _ _ => rfl)) pa_nil (by rfl)) (by rfl)))))) pss_nil) (@pss_cons _ _ _ _ _ (@ps_if _ _ _ _ _ _ _ _ (pt_cmpR op_eq (pv 1) pe_str (nomark _)) (@pss_one _ _ _ (@ps_ret _ _ _ _ pe_str)) pss_nil) (@pss_cons _ _ _ _ _ (@ps_if _ _ _ _ _ _ _ _ (pt_cmpR op_eq (pv 1) pe_str (nomark _)) (@pss_one _ _ _ (@ps_ret _ _ _ _ (@pe_ix _ _ _ _ _ _ _ (ix_tupPN (K := K) rfl) (@pe_ix _ _ _ _ _ _ _ (ix_tupPN (K := K) rfl) (pv 0) pe_int (fun _ _ => rfl)) pe_int (fun _ _ => rfl)))) pss_nil) (@pss_cons _ _ _ _ _ (@ps_if _ _ _ _ _ _ _ _ (pt_cmpR op_eq (pv 1) pe_str (nomark _)) (@pss_one _ _ _ (@ps_ret _ _ _ _ (@pe_tupPK _ K _ _ _ _ rfl (@pa_cons _ _ _ _ _ pe_str (@pa_cons _ _ _ _ _ (pe_callTy (call_tuplePN (K := K) rfl) rfl T.z_tuple boot_tuple (@pa_cons _ _ _ _ _ (pe_comp rfl (cs0 (NL := ["name", "inner"]) rfl (by decide +kernel) (by decide +kernel)) (pi_tupN (K := K) rfl (@pe_ix _ _ _ _ _ _ _ (ix_tupPN (K := K) rfl) (pv 0) pe_int (fun _ _ => rfl))) (fun _ _ _ _ => (pg_tupK (K := K) (n := 2) rfl rfl (pgs_cons (pg_name (i := 0) (show List.Nodup (α := Str) ["name", "inner"] by decide +kernel) rfl (Or.inl rfl)) (pgs_cons (pg_name (i := 1) (show List.Nodup (α := Str) ["name", "inner"] by decide +kernel) rfl (Or.inl rfl)) pgs_nil)))) (fun _ _ _ _ => (pe_tupPK (K := K) rfl (@pa_cons _ _ _ _ _ (pv 0) (@pa_cons _ _ _ _ _ (pe_call G_law_least (hr.mono (by first | decide | omega)) rfl D_law_least.m D_law_least.F.kp D_law_least.b .nil pass0 (@pa_cons _ _ _ _ _ (pv 1) pa_nil (by rfl))) pa_nil (by rfl)) (by rfl))))) pa_nil (by rfl))) pa_nil (by rfl)) (by rfl))))) pss_nil) (@pss_one _ _ _ (@ps_ret _ _ _ _ (@pe_tupPK _ K _ _ _ _ rfl (@pa_cons _ _ _ _ _ (pv 1) (@pa_cons _ _ _ _ _ (@pe_tupPK _ K _ _ _ _ rfl pa_nil) pa_nil (by rfl)) (by rfl)))))))))), ?_⟩
  cases gk with
  | number i j b1 b2 b3 =>
    refine ⟨_, rfl, _, _, _, hd, rfl, rfl, fun v hv => ?_⟩
    obtain rfl := isStrV hv
    refine ⟨_, rfl, rfl, _, rfl, iteY ?_⟩
    refine ⟨_, rfl, _, _, _, hd, rfl, rfl, fun v hv => ?_⟩
    obtain rfl := isIntV hv
    refine ⟨_, _, rfl, rfl, _, rfl, ite2 (fun c1 => ?_) (fun c1 => ?_)⟩
    · have c1' : (0 : Int) < i := of_decide_eq_true c1
      refine ⟨_, rfl, _, _, _, hd, rfl, rfl, fun v hv => ?_⟩
      refine q _ H (Same.refl _) ?_
      rw [least_number]
      unfold clampI
      rw [if_pos c1']
      exact hv
    · have c1' : ¬ (0 : Int) < i := fun c => c1 (decide_eq_true c)
      refine ⟨_, rfl, _, _, _, hd, rfl, rfl, fun v hv => ?_⟩
      obtain rfl := isIntV hv
      refine ⟨_, _, rfl, ?_⟩
      refine q _ H (Same.refl _) ?_
      rw [least_number]
      unfold clampI
      rw [if_neg c1']
      exact .int
  | text i b1 b2 =>
    refine ⟨_, rfl, _, _, _, hd, rfl, rfl, fun v hv => ?_⟩
    obtain rfl := isStrV hv
    refine ⟨_, rfl, rfl, _, rfl, iteN (strNe (by decide)) ?_⟩
    refine ⟨_, rfl, rfl, _, rfl, iteY ?_⟩
    refine q _ H (Same.refl _) ?_
    rw [least_text]
    exact .str
  | choice ws hw =>
    obtain ⟨z, r, rfl⟩ := words_cons hw
    refine ⟨_, rfl, _, _, _, hd, rfl, rfl, fun v hv => ?_⟩
    obtain rfl := isStrV hv
    refine ⟨_, rfl, rfl, _, rfl, iteN (strNe (by decide)) ?_⟩
    refine ⟨_, rfl, rfl, _, rfl, iteN (strNe (by decide)) ?_⟩
    refine ⟨_, rfl, rfl, _, rfl, iteY ?_⟩
    refine ⟨_, rfl, _, _, _, hd, rfl, rfl, fun v1 hv1 => ?_⟩
    refine ⟨_, _, _, hv1, rfl, (show atI (List.map Dt.str (z :: r)) 0 = some (Dt.str z) from at0 (Dt.str z) (r.map Dt.str)), fun v hv => ?_⟩
    refine q _ H (Same.refl _) ?_
    rw [show ((z :: r).map Dt.str) = Dt.str z :: r.map Dt.str from rfl, least_choice]
    exact hv
  | @list a' c' k i g b1 b2 =>
    refine ⟨_, rfl, _, _, _, hd, rfl, rfl, fun v hv => ?_⟩
    obtain rfl := isStrV hv
    refine ⟨_, rfl, rfl, _, rfl, iteN (strNe (by decide)) ?_⟩
    refine ⟨_, rfl, rfl, _, rfl, iteN (strNe (by decide)) ?_⟩
    refine ⟨_, rfl, rfl, _, rfl, iteN (strNe (by decide)) ?_⟩
    refine ⟨_, rfl, rfl, _, rfl, iteN (strNe (by decide)) ?_⟩
    refine ⟨_, rfl, [], .nil, (by show 0 ≤ sizeLine; decide), fun v1 H1 g1 hv1 => ?_⟩
    refine ⟨[.str "list", .tup []], .cons .str (.cons hv1 .nil), (by show 2 ≤ sizeLine; decide), fun v2 H2 g2 hv2 => ?_⟩
    refine q v2 H2 (g1.trans g2) ?_
    rw [least_list]
    exact hv2
  | @rows a' c' z l i g kl b1 b2 =>
    refine ⟨_, rfl, _, _, _, hd, rfl, rfl, fun v hv => ?_⟩
    obtain rfl := isStrV hv
    refine ⟨_, rfl, rfl, _, rfl, iteN (strNe (by decide)) ?_⟩
    refine ⟨_, rfl, rfl, _, rfl, iteN (strNe (by decide)) ?_⟩
    refine ⟨_, rfl, rfl, _, rfl, iteN (strNe (by decide)) ?_⟩
    refine ⟨_, rfl, rfl, _, rfl, iteN (strNe (by decide)) ?_⟩
    refine ⟨_, rfl, [], .nil, (by show 0 ≤ sizeLine; decide), fun v1 H1 g1 hv1 => ?_⟩
    refine ⟨[.str "rows", .tup []], .cons .str (.cons hv1 .nil), (by show 2 ≤ sizeLine; decide), fun v2 H2 g2 hv2 => ?_⟩
    refine q v2 H2 (g1.trans g2) ?_
    rw [least_rows]
    exact hv2
  | @rcd gs g asc nm hl =>
    obtain ⟨fs, efs⟩ : ∃ fs : List (Str × Dt), fs = gs.map nk := ⟨_, rfl⟩
    have ep : gs.map prG = fs.map prD := by rw [efs, List.map_map]; rfl
    rw [ep] at hd q
    rw [least_record] at q
    have hl8 : fs.length ≤ 8 := by rw [efs, List.length_map]; exact hl
    refine ⟨_, rfl, _, _, _, hd, rfl, rfl, fun v hv => ?_⟩
    obtain rfl := isStrV hv
    refine ⟨_, rfl, rfl, _, rfl, iteN (strNe (by decide)) ?_⟩
    refine ⟨_, rfl, rfl, _, rfl, iteN (strNe (by decide)) ?_⟩
    refine ⟨_, rfl, rfl, _, rfl, iteN (strNe (by decide)) ?_⟩
    refine ⟨_, rfl, rfl, _, rfl, iteY ?_⟩
    refine ⟨_, rfl, _, _, _, hd, rfl, rfl, fun v hv => ?_⟩
    obtain ⟨aa, xs, rfl, ha', pa, ra⟩ := hv.unref
    have el := ra.length
    rw [List.length_map] at el
    refine ⟨aa, rfl, ⟨xs, ha'⟩, fun l hln => ?_⟩
    refine comp_tupR (K := K) (xs := xs) (fun i ys σ H' => Same H H' ∧ H' l = some (.lst ys) ∧ IsPs K H' (((fs.take i).map fun f => (f.1, leastN n f.2)).map prD) ys ∧ ys.length = i ∧ ∃ v1 v2, σ = [v1, v2])
      ⟨same_new hln _, upd_same, .nil, rfl, none, none, rfl⟩ (fun i ys σ H' _ p => p.1.tup ha') ?_ ?_
    · rintro i u ys σ H1 N hu ⟨g1, e1, hp, le1, v1, v2, rfl⟩ next
      have hi : i < xs.length := (List.getElem?_eq_some_iff.mp hu).1
      obtain ⟨e, he, hx⟩ := ra.get' hu
      rw [List.getElem?_map] at he
      obtain ⟨⟨w', d'⟩, hf, rfl⟩ := Option.map_eq_some_iff.mp he
      obtain ⟨b, zs, rfl, hb, pb, rb⟩ := (hx.same g1).unref
      cases rb with
      | cons r1 rb =>
        cases rb with
        | @cons _ _ y2 _ r2 rb =>
          cases rb
          obtain rfl := isStrV r1
          have hm := List.mem_of_getElem? hf
          rw [efs] at hm
          obtain ⟨x', hx', ex'⟩ := List.mem_map.mp hm
          have l9 := le_max (List.mem_map_of_mem (f := fun g : G4 => g.2.2.1) hx')
          have fk9 : FK x'.2.2.1 x'.2.2.2 d' := by
            have := g x' hx'
            rw [show x'.2.1 = d' from congrArg Prod.snd ex'] at this
            exact this
          refine ⟨b, _, rfl, hb, rfl, _, _, rfl, _, _, rfl, rfl, ?_⟩
          refine ⟨_, rfl, _, rfl, _, _, d', y2, by omega, rfl, r2, fk9, fun v H2 g2 hv2 => ?_⟩
          refine ⟨[.str w', leastN n d'], .cons .str (.cons hv2 .nil), (by show 2 ≤ sizeLine; decide), fun v4 H4 g4 hv4 => ?_⟩
          have f4 := g4 _ _ (g2 _ _ e1)
          have b5 : But l H4 (upd H4 l (.lst (ys ++ [v4]))) := But.put
          refine ⟨f4, small1000 (by omega), next _ _ _ ⟨same_upd hln ((g1.trans g2).trans g4), upd_same, ?_, by rw [List.length_append, le1]; rfl, _, _, rfl⟩⟩
          rw [List.take_add_one, hf, List.map_append, List.map_append]
          exact (((hp.same g2).same g4).but f4 b5).append (.cons (hv4.but f4 b5) .nil)
    · rintro ys σ H1 ⟨g1, e1, hp, le1, v1, v2, rfl⟩
      rw [← el, List.take_length] at hp
      refine ⟨l, ys, _, rfl, SqL.of e1, hp, fun v2 H2 g2 hv2 => ?_⟩
      refine ⟨[.str "record", .tup ((fs.map fun f => (f.1, leastN n f.2)).map prD)], .cons .str (.cons hv2 .nil), (by show 2 ≤ sizeLine; decide), fun v H3 g3 hv => ?_⟩
      exact q v H3 ((g1.trans g2).trans g3) hv
theorem all_law_least (T : Tx K mg ad) {f : Addr} {fd : FuncData} (D : Gn K mg "_law_least" s_law_least ["kind"] f fd) : ∀ n, FnOk P w K mg base CX0 n f fd ["kind"] (sleast K n)
  | 0 => fn_none fun vs H Q E z => by
    obtain ⟨a, _, _, _, h1, _, _, g, _⟩ := z
    have := g.pos
    omega
  | n + 1 => ok_law_least T n D (all_law_least T D n)
theorem dep_le : ∀ {l : List Dt} {B : Nat}, (∀ x ∈ l, x.dep ≤ B) → depS l ≤ B
  | [], _, _ => Nat.zero_le _
  | d :: l, B, h => by
    have h1 := h d List.mem_cons_self
    have h2 := dep_le (l := l) (B := B) fun x hx => h x (List.mem_cons_of_mem _ hx)
    simp only [depS]
    omega
theorem dep_mem : ∀ {l : List Dt} {x : Dt}, x ∈ l → x.dep ≤ depS l
  | d :: l, x, h => by
    simp only [depS]
    rcases List.mem_cons.mp h with rfl | h
    · omega
    · have := dep_mem h
      omega
/-- numbers, texts, tuples of at most eight of them -/
inductive Sm : Dt → Prop
  | int (i : Int) : Sm (.int i)
  | str (z : Str) : Sm (.str z)
  | tup {l : List Dt} : (∀ x ∈ l, Sm x) → l.length ≤ 8 → Sm (.tup l)
theorem sm2 {z : Str} {d : Dt} (h : Sm d) : Sm (.tup [.str z, d]) := .tup (fun x hx => by
  rcases List.mem_cons.mp hx with rfl | hx
  · exact .str z
  · obtain rfl := List.mem_singleton.mp hx
    exact h) (by show 2 ≤ 8; decide)
theorem fv_sm : ∀ (n a ct : Nat) (d e : Dt), a ≤ n → FK a ct d → FV d e → Sm e ∧ e.dep ≤ 3 * n := by
  intro n
  induction n with
  | zero =>
    intro a ct d e h g
    have := g.pos
    omega
  | succ n ih =>
    intro a ct d e h g gv
    cases g with
    | number i j b1 b2 b3 =>
      obtain ⟨v0, rfl, _, _⟩ := fv_num gv i j rfl
      exact ⟨.int _, Nat.zero_le _⟩
    | text i b1 b2 =>
      obtain ⟨z, rfl, _, _⟩ := fv_text gv i rfl
      exact ⟨.str _, Nat.zero_le _⟩
    | choice ws hw =>
      obtain ⟨z, rfl, _⟩ := fv_choice gv ws rfl
      exact ⟨.str _, Nat.zero_le _⟩
    | @list a' c' k i g b1 b2 =>
      obtain ⟨vs, rfl, l1, l2⟩ := fv_list gv k i rfl
      have hv : ∀ v ∈ vs, Sm v ∧ v.dep ≤ 3 * n := fun v hv => ih _ _ _ _ (by omega) g (l1 v hv)
      refine ⟨sm2 (.tup (fun v h => (hv v h).1) (by omega)), ?_⟩
      have := dep_le (B := 3 * n) fun v h => (hv v h).2
      simp only [Dt.dep, depS]
      omega
    | @rows a' c' z l i g kl b1 b2 =>
      obtain ⟨vs, rfl, l1, l2, _⟩ := fv_rows gv _ z i rfl
      have hv : ∀ v ∈ vs, Sm v ∧ v.dep ≤ 3 * n := fun v hv => ih _ _ _ _ (by omega) g (l1 v hv)
      refine ⟨sm2 (.tup (fun v h => (hv v h).1) (by omega)), ?_⟩
      have := dep_le (B := 3 * n) fun v h => (hv v h).2
      simp only [Dt.dep, depS]
      omega
    | @rcd gs g asc nm hl =>
      obtain ⟨fs, efs⟩ : ∃ fs : List (Str × Dt), fs = gs.map nk := ⟨_, rfl⟩
      have ep : gs.map prG = fs.map prD := by rw [efs, List.map_map]; rfl
      rw [ep] at gv
      obtain ⟨gs', rfl, en, gg⟩ := fv_rcd gv fs rfl
      have lgs : gs'.length = fs.length := by have := congrArg List.length en; simpa using this
      have hv : ∀ g' ∈ gs', Sm g'.2 ∧ g'.2.dep ≤ 3 * n := fun g' hg' => by
        obtain ⟨i, hi⟩ := List.mem_iff_getElem?.mp hg'
        have hi8 : i < fs.length := by rw [← lgs]; exact (List.getElem?_eq_some_iff.mp hi).1
        obtain ⟨f, hf⟩ : ∃ f, fs[i]? = some f := ⟨_, List.getElem?_eq_getElem hi8⟩
        have hm := List.mem_of_getElem? hf
        rw [efs] at hm
        obtain ⟨x', hx', rfl⟩ := List.mem_map.mp hm
        have := le_max (List.mem_map_of_mem (f := fun g : G4 => g.2.2.1) hx')
        exact ih _ _ _ _ (by omega) (g x' hx') (gg i _ g' hf hi)
      refine ⟨sm2 (.tup (fun v h => ?_) (by rw [List.length_map, lgs, efs, List.length_map]; exact hl)), ?_⟩
      · obtain ⟨g', hg', rfl⟩ := List.mem_map.mp h
        exact sm2 (hv g' hg').1
      · have : depS (gs'.map prD) ≤ 3 * n + 1 := dep_le fun x hx => by
          obtain ⟨g', hg', rfl⟩ := List.mem_map.mp hx
          have := (hv g' hg').2
          simp only [prD, Dt.dep, depS]
          omega
        simp only [Dt.dep, depS]
        omega
noncomputable def ssame (K : PySem.W.Frag) (n : Nat) : Sp := fun vs H Q _ => ∃ (d : Dt) (x y : V), vs = [x, y] ∧ IsP K H d x ∧ IsP K H d y ∧ Sm d ∧ d.dep < n ∧ n ≤ 60 ∧ ∀ H', Same H H' → Q (.bl true) H'
theorem ok_law_same (T : Tx K mg ad) {f : Addr} {fd : FuncData} (n : Nat) (D_law_same : Gn K mg "_law_same" s_law_same ["one", "other"] f fd) (G_law_same : FnOk P w K mg base CX0 n f fd ["one", "other"] (ssame K n)) : FnOk P w K mg base CX0 (n + 1) f fd ["one", "other"] (ssame K (n + 1)) := by
  refine D_law_same.F.ok sc_law_same (fun vs H Q E h => ?_) (fun cdv A outer s H vs Q E hr h => ?_)
  · obtain ⟨d, x, y, rfl, _⟩ := h
    rfl
  obtain ⟨d, x, y, rfl, hd, he, sm, dp, n60, q⟩ := h
  refine ⟨_, (@pss_cons _ _ _ _ _ (@ps_if _ _ _ _ _ _ _ _ (PW.pt (@pw_and _ _ _ _ _ _ _ (@pt_val _ _ _ (pe_callB (call_isiN' (K := K) rfl) rfl T.z_isinstance boot_isinstance (@pa_cons _ _ _ _ _ (pv 0) (@pa_cons _ _ _ _ _ (pe_gty rfl T.z_tuple boot_tuple) pa_nil (by rfl)) (by rfl))) (by intro _; rfl)) (@pw_and1 _ _ _ _ (@pt_val _ _ _ (pe_callB (call_isiN' (K := K) rfl) rfl T.z_isinstance boot_isinstance (@pa_cons _ _ _ _ _ (pv 1) (@pa_cons _ _ _ _ _ (pe_gty rfl T.z_tuple boot_tuple) pa_nil (by rfl)) (by rfl))) (by intro _; rfl))))) (@pss_one _ _ _ (@ps_ret _ _ _ _ (pe_and (pe_cmpR op_eq (pe_callB (call_lenDN (K := K) rfl) rfl T.z_len PySem.boot_len (@pa_cons _ _ _ _ _ (pv 0) pa_nil (by rfl))) (pe_callB (call_lenDN (K := K) rfl) rfl T.z_len PySem.boot_len (@pa_cons _ _ _ _ _ (pv 1) pa_nil (by rfl))) (nomark _)) (pe_one (pe_callB call_all rfl T.z_all boot_all (@pa_cons _ _ _ _ _ (pe_comp rfl (csR (sc := defScope s_law_same) (NL := ["k"]) (N := ["one", "other"]) (ρ := [0, 1]) (N' := ["k", "one", "other"]) rfl rfl rfl (by decide +kernel) (by decide +kernel) (by decide +kernel) rfl (by decide +kernel)) (pi_range1 rfl T.z_range (@pa_cons _ _ _ _ _ (pe_callB (call_lenDN (K := K) rfl) rfl T.z_len PySem.boot_len (@pa_cons _ _ _ _ _ (pv 0) pa_nil (by rfl))) pa_nil (by rfl))) (fun _ _ _ _ => (pg_name (i := 0) (show List.Nodup (α := Str) ["k", "one", "other"] by decide +kernel) rfl (Or.inl rfl))) (fun _ _ _ _ => (pe_call G_law_same (hr.mono (by first | decide | omega)) rfl D_law_same.m D_law_same.F.kp D_law_same.b .nil pass0 (@pa_cons _ _ _ _ _ (@pe_ix _ _ _ _ _ _ _ (ix_tupPN (K := K) rfl) (pv 1) (pv 0) (fun _ _ => rfl)) (@pa_cons _ _ _ _ _ (@pe_ix _ _ _ _ _ _ _ (ix_tupPN (K := K) rfl) (pv 2) (pv 0) (fun _ _ => rfl)) pa_nil (by rfl)) (by rfl))))) pa_nil (by rfl))))))) pss_nil) (@pss_cons _ _ _ _ _ (@ps_if _ _ _ _ _ _ _ _ (PW.pt (@pw_or _ _ _ _ _ _ _ (@pt_val _ _ _ (pe_callB (call_isiN' (K := K) rfl) rfl T.z_isinstance boot_isinstance (@pa_cons _ _ _ _ _ (pv 0) (@pa_cons _ _ _ _ _ (pe_gty rfl T.z_bool boot_bool) pa_nil (by rfl)) (by rfl))) (by intro _; rfl)) (@pw_or _ _ _ _ _ _ _ (@pt_val _ _ _ (pe_callB (call_isiN' (K := K) rfl) rfl T.z_isinstance boot_isinstance (@pa_cons _ _ _ _ _ (pv 1) (@pa_cons _ _ _ _ _ (pe_gty rfl T.z_bool boot_bool) pa_nil (by rfl)) (by rfl))) (by intro _; rfl)) (@pw_or1 _ _ _ _ (pt_cmpR op_ne (pe_callB (call_isiN' (K := K) rfl) rfl T.z_isinstance boot_isinstance (@pa_cons _ _ _ _ _ (pv 0) (@pa_cons _ _ _ _ _ (pe_gty rfl T.z_str boot_str) pa_nil (by rfl)) (by rfl))) (pe_callB (call_isiN' (K := K) rfl) rfl T.z_isinstance boot_isinstance (@pa_cons _ _ _ _ _ (pv 1) (@pa_cons _ _ _ _ _ (pe_gty rfl T.z_str boot_str) pa_nil (by rfl)) (by rfl))) (nomark _)))))) (@pss_one _ _ _ (@ps_ret _ _ _ _ pe_bl)) pss_nil) (@pss_one _ _ _ (@ps_ret _ _ _ _ (pe_cmpR (op_eqDK (K := K) rfl hr.units) (pv 0) (pv 1) (nomark _)))))), ?_⟩
  cases sm with
  | int i =>
    obtain rfl := isIntV hd
    obtain rfl := isIntV he
    refine ⟨_, rfl, _, _, _, rfl, .int_tuple, _, rfl, iteF (iteF ?_)⟩
    refine ⟨_, rfl, _, _, _, rfl, .int_bool, _, rfl, iteF ?_⟩
    refine ⟨_, rfl, _, _, _, rfl, .int_bool, _, rfl, iteF ?_⟩
    refine ⟨_, rfl, _, _, _, rfl, .int_str, _, rfl, _, _, _, rfl, .int_str, rfl, _, rfl, iteN' ?_⟩
    refine ⟨_, rfl, _, rfl, .int i, .int i, .int, .int, Nat.zero_le _, ?_⟩
    rw [eqD_refl]
    exact q H (Same.refl _)
  | str z =>
    obtain rfl := isStrV hd
    obtain rfl := isStrV he
    refine ⟨_, rfl, _, _, _, rfl, .str_tuple, _, rfl, iteF (iteF ?_)⟩
    refine ⟨_, rfl, _, _, _, rfl, .str_bool, _, rfl, iteF ?_⟩
    refine ⟨_, rfl, _, _, _, rfl, .str_bool, _, rfl, iteF ?_⟩
    refine ⟨_, rfl, _, _, _, rfl, .str_str, _, rfl, _, _, _, rfl, .str_str, rfl, _, rfl, iteN' ?_⟩
    refine ⟨_, rfl, _, rfl, .str z, .str z, .str, .str, Nat.zero_le _, ?_⟩
    rw [eqD_refl]
    exact q H (Same.refl _)
  | @tup l sl hl =>
    obtain ⟨a, xs, ex, ha, _⟩ := hd.unref
    obtain ⟨b, ys, ey, hb, _⟩ := he.unref
    have isx : IsiB K H x "tuple" true := by rw [ex]; exact .tup_tuple ha
    have isy : IsiB K H y "tuple" true := by rw [ey]; exact .tup_tuple hb
    refine ⟨_, rfl, _, _, _, rfl, isx, _, rfl, iteT ?_⟩
    refine ⟨_, rfl, _, _, _, rfl, isy, _, rfl, iteT ?_⟩
    refine ⟨_, rfl, x, _, rfl, hd.d, _, rfl, y, _, rfl, he.d, rfl, _, rfl, iteY ?_⟩
    refine ⟨_, rfl, x, _, rfl, hd.d, _, rfl, by omega, by omega, fun l2 hl2 => ?_⟩
    refine comp_rangeR (lo := 0) (n := ((l.length : Nat) : Int).toNat) (fun j us σ H' => us = bls (List.replicate j true) ∧ j ≤ 8 ∧ Same H H' ∧ H' l2 = some (.lst us) ∧ ∃ v1, σ = [v1, some x, some y]) ⟨rfl, Nat.zero_le _, same_new hl2 _, upd_same, none, rfl⟩ ?_ ?_
    · rintro j us σ H2 N hj ⟨rfl, hj8, g2, e2, v1, rfl⟩ next
      have hjl : j < l.length := by omega
      obtain ⟨dj, hdj⟩ : ∃ v, l[j]? = some v := ⟨_, List.getElem?_eq_getElem hjl⟩
      have atj : atI l (0 + (j : Int)) = some dj := by rw [Int.zero_add]; exact atI_nat hdj
      have mj := List.mem_of_getElem? hdj
      have dj2 := dep_mem mj
      have dl : (Dt.tup l).dep = depS l + 1 := by simp only [Dt.dep]
      refine ⟨_, rfl, _, rfl, _, _, _, hd.same g2, rfl, atj, fun v hv => ?_⟩
      refine ⟨_, rfl, _, rfl, _, _, _, he.same g2, rfl, atj, fun v2 hv2 => ?_⟩
      refine ⟨dj, v, v2, rfl, hv, hv2, sl dj mj, by omega, by omega, fun H3 g3 => ?_⟩
      refine ⟨g3 _ _ e2, ?_, next _ _ _ ⟨?_, by omega, same_upd hl2 (g2.trans g3), upd_same, _, rfl⟩⟩
      · rw [bls, List.length_map, List.length_replicate]; exact small1000 (by omega)
      · unfold bls
        rw [List.replicate_succ', List.map_append]
        rfl
    · rintro us σ H2 ⟨rfl, hj8, g2, e2, v1, rfl⟩
      refine ⟨l2, _, rfl, rfl, SqL.of e2, ?_⟩
      rw [all_rep]
      exact q H2 g2
theorem same_all (T : Tx K mg ad) {f : Addr} {fd : FuncData} (D : Gn K mg "_law_same" s_law_same ["one", "other"] f fd) : ∀ n, FnOk P w K mg base CX0 n f fd ["one", "other"] (ssame K n)
  | 0 => fn_none fun vs H Q E z => by
    obtain ⟨d, _, _, _, _, _, _, h, _⟩ := z
    omega
  | n + 1 => ok_law_same T n D (same_all T D n)
theorem ok_law (T : Tx K mg ad) {f : Addr} {fd : FuncData} (F : Gn K mg "law" s_law ["script"] f fd) : FnOk P w K mg base CX0 depth f fd ["script"] (sp_law K ad) := by
  obtain ⟨f_law_own, fd_law_own, D_law_own⟩ := T.law_own
  have G_law_own := ok_law_own (P := P) (w := w) (base := base) T D_law_own
  obtain ⟨f_law_kind, fd_law_kind, D_law_kind⟩ := T.law_kind
  obtain ⟨f1, d1, D1⟩ := T.law_record_kind
  obtain ⟨f2, d2, D2⟩ := T.law_rows_kind
  have G_law_kind := kinds_all (P := P) (w := w) (base := base) T D_law_kind D1 D2 5
  obtain ⟨f_law_value, fd_law_value, D_law_value⟩ := T.law_value
  obtain ⟨f3, d3, D3⟩ := T.law_row_values
  have G_law_value := vals_all (P := P) (w := w) (base := base) T D_law_value D3
  obtain ⟨f_is_of, fd_is_of, D_is_of⟩ := T.is_of
  obtain ⟨f4, d4, D4⟩ := T.holds_items
  obtain ⟨f5, d5, D5⟩ := T.is_record_of
  obtain ⟨f6, d6, D6⟩ := T.is_pair_of
  have G_is_of := isof_all (P := P) (w := w) (base := base) T D_is_of D4 D5 D6 5
  obtain ⟨f_made_value, fd_made_value, D_made_value⟩ := T.made_value
  have G_made_value := ok_made_value (P := P) (w := w) (base := base) T D_made_value
  obtain ⟨f_law_same, fd_law_same, D_law_same⟩ := T.law_same
  have G_law_same := same_all (P := P) (w := w) (base := base) T D_law_same 16
  obtain ⟨f_least_value, fd_least_value, D_least_value⟩ := T.least_value
  have G_least_value := all_least_value (P := P) (w := w) (base := base) T D_least_value 5
  obtain ⟨f_law_least, fd_law_least, D_law_least⟩ := T.law_least
  have G_law_least := all_law_least (P := P) (w := w) (base := base) T D_law_least 5
  refine F.F.ok sc_law (fun vs H Q E h => ?_) (fun cdv A outer s H vs Q E hr h => ?_)
  · obtain ⟨a, ns, rfl, _⟩ := h
    rfl
  obtain ⟨a, ns, rfl, hs, h63, q⟩ := h
  refine ⟨_, (@pss_cons _ _ _ _ _ (ps_for PassesOwn.never rfl (pi_range1 rfl T.z_range (@pa_cons _ _ _ _ _ (pe_callB (call_min2 rfl) rfl T.z_min boot_min (@pa_cons _ _ _ _ _ pe_int (@pa_cons _ _ _ _ _ (@pe_op _ _ _ _ _ _ _ _ op_add pe_int (pe_callB call_len_seq rfl T.z_len PySem.boot_len (@pa_cons _ _ _ _ _ (pv 0) pa_nil (by rfl)))) pa_nil (by rfl)) (by rfl))) pa_nil (by rfl))) (pg_name (i := 1) sc_law.nd rfl (Or.inl rfl))
        (@pss_cons _ _ _ _ _ (@ps_set _ _ 2 _ _ _ _ sc_law.nd rfl (Or.inl rfl) (pe_call G_law_own (hr.mono (by first | decide | omega)) rfl D_law_own.m D_law_own.F.kp D_law_own.b .nil pass0 (@pa_cons _ _ _ _ _ (pv 0) (@pa_cons _ _ _ _ _ (pv 1) pa_nil (by rfl)) (by rfl))) (by rfl) (by first | exact .inl rfl | exact .inr rfl | assumption)) (@pss_one _ _ _ (ps_for PassesOwn.never rfl (pi_range1 rfl T.z_range (@pa_cons _ _ _ _ _ pe_int pa_nil (by rfl))) (pg_name (i := 3) sc_law.nd rfl (Or.inl rfl))
        (@pss_cons _ _ _ _ _ (@ps_set _ _ 4 _ _ _ _ sc_law.nd rfl (Or.inl rfl) (pe_call G_law_kind (hr.mono (by first | decide | omega)) rfl D_law_kind.m D_law_kind.F.kp D_law_kind.b .nil pass0 (@pa_cons _ _ _ _ _ (pv 2) (@pa_cons _ _ _ _ _ pe_int (@pa_cons _ _ _ _ _ (@pe_lst _ _ _ _ (@pa_cons _ _ _ _ _ pe_int pa_nil (by rfl))) pa_nil (by rfl)) (by rfl)) (by rfl))) (by rfl) (by first | exact .inl rfl | exact .inr rfl | assumption)) (@pss_cons _ _ _ _ _ (@ps_set _ _ 5 _ _ _ _ sc_law.nd rfl (Or.inl rfl) (pe_call G_law_value (hr.mono (by first | decide | omega)) rfl D_law_value.m D_law_value.F.kp D_law_value.b .nil pass0 (@pa_cons _ _ _ _ _ (pv 2) (@pa_cons _ _ _ _ _ (pv 4) pa_nil (by rfl)) (by rfl))) (by rfl) (by first | exact .inl rfl | exact .inr rfl | assumption)) (@pss_cons _ _ _ _ _ (@ps_if _ _ _ _ _ _ _ _ (PW.pt (@pw_or _ _ _ _ _ _ _ (pt_cmpR op_isnot_bl (pe_call G_is_of (hr.mono (by first | decide | omega)) rfl D_is_of.m D_is_of.F.kp D_is_of.b .nil pass0 (@pa_cons _ _ _ _ _ (pv 5) (@pa_cons _ _ _ _ _ (pv 4) pa_nil (by rfl)) (by rfl))) pe_bl (nomark _)) (@pw_or1 _ _ _ _ (@pt_not _ _ _ _ (@pt_val _ _ _ (pe_call G_law_same (hr.mono (by first | decide | omega)) rfl D_law_same.m D_law_same.F.kp D_law_same.b .nil pass0 (@pa_cons _ _ _ _ _ (pe_call G_made_value (hr.mono (by first | decide | omega)) rfl D_made_value.m D_made_value.F.kp D_made_value.b .nil pass0 (@pa_cons _ _ _ _ _ (pv 5) (@pa_cons _ _ _ _ _ (pv 4) pa_nil (by rfl)) (by rfl))) (@pa_cons _ _ _ _ _ (pv 5) pa_nil (by rfl)) (by rfl))) (by intro _; rfl)))))) (@pss_one _ _ _ (@ps_ret _ _ _ _ pe_bl)) pss_nil) (@pss_cons _ _ _ _ _ (@ps_set _ _ 6 _ _ _ _ sc_law.nd rfl (Or.inl rfl) (pe_call G_least_value (hr.mono (by first | decide | omega)) rfl D_least_value.m D_least_value.F.kp D_least_value.b .nil pass0 (@pa_cons _ _ _ _ _ (pv 4) pa_nil (by rfl))) (by rfl) (by first | exact .inl rfl | exact .inr rfl | assumption)) (@pss_one _ _ _ (@ps_if _ _ _ _ _ _ _ _ (PW.pt (@pw_or _ _ _ _ _ _ _ (@pt_not _ _ _ _ (@pt_val _ _ _ (pe_call G_law_same (hr.mono (by first | decide | omega)) rfl D_law_same.m D_law_same.F.kp D_law_same.b .nil pass0 (@pa_cons _ _ _ _ _ (pv 6) (@pa_cons _ _ _ _ _ (pe_call G_law_least (hr.mono (by first | decide | omega)) rfl D_law_least.m D_law_least.F.kp D_law_least.b .nil pass0 (@pa_cons _ _ _ _ _ (pv 4) pa_nil (by rfl))) pa_nil (by rfl)) (by rfl))) (by intro _; rfl))) (@pw_or1 _ _ _ _ (pt_cmpR op_isnot_bl (pe_call G_is_of (hr.mono (by first | decide | omega)) rfl D_is_of.m D_is_of.F.kp D_is_of.b .nil pass0 (@pa_cons _ _ _ _ _ (pv 6) (@pa_cons _ _ _ _ _ (pv 4) pa_nil (by rfl)) (by rfl))) pe_bl (nomark _))))) (@pss_one _ _ _ (@ps_ret _ _ _ _ pe_bl)) pss_nil)))))))))) (@pss_one _ _ _ (@ps_ret _ _ _ _ pe_bl))), ?_⟩
  have lns : (ns.map V.int).length = ns.length := List.length_map ..
  refine ⟨_, rfl, a, _, rfl, .inl hs, _, _, rfl, rfl, _, _, rfl, ?_⟩
  rw [lns]
  generalize hJ : (if (1 + ((ns.length : Nat) : Int)) < 12 then (1 + ((ns.length : Nat) : Int)) else 12) = J
  have J1 : 0 ≤ J ∧ J ≤ 12 := by rw [← hJ]; split <;> omega
  refine ⟨J, rfl, by omega, by omega, for_range (lo := 0) (n := J.toNat) (fun i σ H' => Same H H' ∧ ∃ v1 v2 v3 v4 v5 v6, σ = [some (.ref a), v1, v2, v3, v4, v5, v6]) ⟨Same.refl H, _, _, _, _, _, _, rfl⟩ ?_ ?_⟩
  · rintro i σ H1 hi ⟨g1, v1, v2, v3, v4, v5, v6, rfl⟩
    refine ⟨_, rfl, _, rfl, a, ns, i, (by show [V.ref a, V.int (0 + (i : Int))] = _; rw [Int.zero_add]), g1.seq hs, h63, by omega, fun r c H2 hr2 g2 e2 => ?_⟩
    have hrH : H r = none := g1.free hr2
    refine ⟨6, rfl, by decide, by decide, for_range (lo := 0) (n := (6 : Int).toNat) (fun j σ H' => ∃ c', But r H2 H' ∧ H' r = some (.lst [.int c']) ∧ ∃ v3 v4 v5 v6, σ = [some (.ref a), some (.int (0 + i)), some (.ref r), v3, v4, v5, v6]) ⟨c, But.refl _ _, e2, _, _, _, _, rfl⟩ ?_ ?_⟩
    · rintro j σ H3 hj ⟨c3, b3, r3, w3, w4, w5, w6, rfl⟩
      refine ⟨_, rfl, (by show 1 ≤ sizeLine; decide), fun p1 hp1 => ?_⟩
      have nr1 : r ≠ p1 := ne_of_none r3 hp1
      have g3 := same_new hp1 (.lst [.int 30])
      refine ⟨r, p1, c3, 30, 5, by decide, by decide, rfl, nr1, g3 _ _ r3, upd_same, fun vk dk ak ck n4 x4 H4 b4 r4 p4 hvk fkk hak hck => ?_⟩
      have B4 : But r H3 H4 := fun x o n e => b4 x o n (ne_of_none e hp1) (g3 _ _ e)
      refine ⟨_, rfl, _, rfl, r, n4, ak, ck, dk, vk, hak, rfl, r4, hvk, fkk, fun vv e c5 H5 b5 r5 hvv fv => ?_⟩
      have hvk5 := hvk.but r4 b5
      obtain ⟨sm, dp⟩ := fv_sm 5 _ _ _ _ hak fkk fv
      refine ⟨_, rfl, _, rfl, ak, ck, dk, e, vk, vv, hak, rfl, hvk5, hvv, fkk, fv, fun H6 g6 => ?_⟩
      refine ⟨_, _, rfl, rfl, _, rfl, iteF ?_⟩
      refine ⟨_, rfl, _, rfl, ak, ck, dk, e, vk, vv, hak, rfl, hvk5.same g6, hvv.same g6, fkk, fv, fun H7 g7 => ?_⟩
      refine ⟨_, rfl, e, vv, vv, rfl, (hvv.same g6).same g7, (hvv.same g6).same g7, sm, by omega, by decide, fun H8 g8 => ?_⟩
      refine ⟨_, rfl, iteF ?_⟩
      have S8 := (g6.trans g7).trans g8
      have hvk8 := hvk5.same S8
      refine ⟨_, rfl, ak, ck, dk, vk, hak, rfl, hvk8, fkk, fun vl H9 g9 hvl => ?_⟩
      have fvl := least_fv 5 _ _ _ hak fkk
      obtain ⟨sml, dpl⟩ := fv_sm 5 _ _ _ _ hak fkk fvl
      refine ⟨_, rfl, _, rfl, ak, ck, dk, vk, hak, rfl, hvk8.same g9, fkk, fun vm H10 g10 hvm => ?_⟩
      refine ⟨_, vl, vm, rfl, hvl.same g10, hvm, sml, by omega, by decide, fun H11 g11 => ?_⟩
      refine ⟨_, rfl, iteF ?_⟩
      refine ⟨_, rfl, _, rfl, ak, ck, dk, _, vk, vl, hak, rfl, ((hvk8.same g9).same g10).same g11, (hvl.same g10).same g11, fkk, fvl, fun H12 g12 => ?_⟩
      refine ⟨_, _, rfl, rfl, _, rfl, iteF ?_⟩
      have SZ := (S8.trans g9).trans ((g10.trans g11).trans g12)
      exact ⟨c5, ((b3.trans B4).trans b5).trans (But.same SZ), SZ _ _ r5, _, _, _, _, rfl⟩
    · rintro σ H3 ⟨c3, b3, r3, w3, w4, w5, w6, rfl⟩
      exact ⟨fun x o e => b3 x o (ne_of_none e hrH) (g2 _ _ (g1 _ _ e)), _, _, _, _, _, _, rfl⟩
  · rintro σ H1 ⟨g1, v1, v2, v3, v4, v5, v6, rfl⟩
    exact q H1
end
@[elab_as_elim] theorem of_len0 {α : Type} {p : List α → Prop} {us : List α} (hl : us.length = 0) (h : p []) : p us := by
  cases us with
  | nil => exact h
  | cons a r => cases hl
@[elab_as_elim] theorem of_len1 {α : Type} {p : List α → Prop} {us : List α} (hl : us.length = 1) (h : ∀ x0, p [x0]) : p us := by
  cases us with
  | nil => cases hl
  | cons a r => exact of_len0 (p := fun r => p (a :: r)) (Nat.succ.inj hl) (h a)
@[elab_as_elim] theorem of_len2 {α : Type} {p : List α → Prop} {us : List α} (hl : us.length = 2) (h : ∀ x0 x1, p [x0, x1]) : p us := by
  cases us with
  | nil => cases hl
  | cons a r => exact of_len1 (p := fun r => p (a :: r)) (Nat.succ.inj hl) (h a)
@[elab_as_elim] theorem of_len3 {α : Type} {p : List α → Prop} {us : List α} (hl : us.length = 3) (h : ∀ x0 x1 x2, p [x0, x1, x2]) : p us := by
  cases us with
  | nil => cases hl
  | cons a r => exact of_len2 (p := fun r => p (a :: r)) (Nat.succ.inj hl) (h a)
@[elab_as_elim] theorem of_len4 {α : Type} {p : List α → Prop} {us : List α} (hl : us.length = 4) (h : ∀ x0 x1 x2 x3, p [x0, x1, x2, x3]) : p us := by
  cases us with
  | nil => cases hl
  | cons a r => exact of_len3 (p := fun r => p (a :: r)) (Nat.succ.inj hl) (h a)
theorem tx_mk {K : PySem.W.Frag} {h : Heap} {mg : Str → Option Value} (X : K.In h) (G : h.Ns mainGlobals mg)
    {f0 : Addr} {od0 an0 : Option Addr} {sl0 : Array (Option Value)} {oc0 kV0 dc0 pm0 cd0 ct0 : Value}
    {f1 : Addr} {od1 an1 : Option Addr} {sl1 : Array (Option Value)} {oc1 kV1 dc1 pm1 cd1 ct1 : Value}
    {f2 : Addr} {od2 an2 : Option Addr} {sl2 : Array (Option Value)} {oc2 kV2 dc2 pm2 cd2 ct2 : Value}
    {f3 : Addr} {od3 an3 : Option Addr} {sl3 : Array (Option Value)} {oc3 kV3 dc3 pm3 cd3 ct3 : Value}
    {f4 : Addr} {od4 an4 : Option Addr} {sl4 : Array (Option Value)} {oc4 kV4 dc4 pm4 cd4 ct4 : Value}
    {f5 : Addr} {od5 an5 : Option Addr} {sl5 : Array (Option Value)} {oc5 kV5 dc5 pm5 cd5 ct5 : Value}
    {f6 : Addr} {od6 an6 : Option Addr} {sl6 : Array (Option Value)} {oc6 kV6 dc6 pm6 cd6 ct6 : Value}
    {f7 : Addr} {od7 an7 : Option Addr} {sl7 : Array (Option Value)} {oc7 kV7 dc7 pm7 cd7 ct7 : Value}
    {f8 : Addr} {od8 an8 : Option Addr} {sl8 : Array (Option Value)} {oc8 kV8 dc8 pm8 cd8 ct8 : Value}
    {f9 : Addr} {od9 an9 : Option Addr} {sl9 : Array (Option Value)} {oc9 kV9 dc9 pm9 cd9 ct9 : Value}
    {f10 : Addr} {od10 an10 : Option Addr} {sl10 : Array (Option Value)} {oc10 kV10 dc10 pm10 cd10 ct10 : Value}
    {f11 : Addr} {od11 an11 : Option Addr} {sl11 : Array (Option Value)} {oc11 kV11 dc11 pm11 cd11 ct11 : Value}
    {f12 : Addr} {od12 an12 : Option Addr} {sl12 : Array (Option Value)} {oc12 kV12 dc12 pm12 cd12 ct12 : Value}
    {f13 : Addr} {od13 an13 : Option Addr} {sl13 : Array (Option Value)} {oc13 kV13 dc13 pm13 cd13 ct13 : Value}
    {f14 : Addr} {od14 an14 : Option Addr} {sl14 : Array (Option Value)} {oc14 kV14 dc14 pm14 cd14 ct14 : Value}
    {f15 : Addr} {od15 an15 : Option Addr} {sl15 : Array (Option Value)} {oc15 kV15 dc15 pm15 cd15 ct15 : Value}
    {f16 : Addr} {od16 an16 : Option Addr} {sl16 : Array (Option Value)} {oc16 kV16 dc16 pm16 cd16 ct16 : Value}
    {f17 : Addr} {od17 an17 : Option Addr} {sl17 : Array (Option Value)} {oc17 kV17 dc17 pm17 cd17 ct17 : Value}
    {f18 : Addr} {od18 an18 : Option Addr} {sl18 : Array (Option Value)} {oc18 kV18 dc18 pm18 cd18 ct18 : Value}
    {f19 : Addr} {od19 an19 : Option Addr} {sl19 : Array (Option Value)} {oc19 kV19 dc19 pm19 cd19 ct19 : Value}
    {f20 : Addr} {od20 an20 : Option Addr} {sl20 : Array (Option Value)} {oc20 kV20 dc20 pm20 cd20 ct20 : Value}
    {f21 : Addr} {od21 an21 : Option Addr} {sl21 : Array (Option Value)} {oc21 kV21 dc21 pm21 cd21 ct21 : Value}
    {f22 : Addr} {od22 an22 : Option Addr} {sl22 : Array (Option Value)} {oc22 kV22 dc22 pm22 cd22 ct22 : Value}
    {f23 : Addr} {od23 an23 : Option Addr} {sl23 : Array (Option Value)} {oc23 kV23 dc23 pm23 cd23 ct23 : Value}
    {f24 : Addr} {od24 an24 : Option Addr} {sl24 : Array (Option Value)} {oc24 kV24 dc24 pm24 cd24 ct24 : Value}
    {f25 : Addr} {od25 an25 : Option Addr} {sl25 : Array (Option Value)} {oc25 kV25 dc25 pm25 cd25 ct25 : Value}
    {f26 : Addr} {od26 an26 : Option Addr} {sl26 : Array (Option Value)} {oc26 kV26 dc26 pm26 cd26 ct26 : Value}
    {f27 : Addr} {od27 an27 : Option Addr} {sl27 : Array (Option Value)} {oc27 kV27 dc27 pm27 cd27 ct27 : Value}
    {f28 : Addr} {od28 an28 : Option Addr} {sl28 : Array (Option Value)} {oc28 kV28 dc28 pm28 cd28 ct28 : Value}
    {f29 : Addr} {od29 an29 : Option Addr} {sl29 : Array (Option Value)} {oc29 kV29 dc29 pm29 cd29 ct29 : Value}
    {C_HandError : Addr} {cdx0 : ClassData}
    {C_BadValue : Addr} {cdx1 : ClassData}
    {tk0 : Tok}
    (a0 : PySem.W.nsIn K mainGlobals "is_whole" = some (some (.ref f0))) (l0 : K.lookup f0 = some ⟨oc0, od0, .func (PySem.W.fnOf "is_whole" "is_whole" (defArgs s_is_whole) (defBody s_is_whole) (defScope s_is_whole) .none kV0 dc0 pm0 an0 cd0 ct0), sl0⟩) (c0 : PySem.W.codeIn K cd0 "is_whole" = true) (k0 : PySem.W.keepIn K (.ref f0) = true)
    (a1 : PySem.W.nsIn K mainGlobals "is_whole_within" = some (some (.ref f1))) (l1 : K.lookup f1 = some ⟨oc1, od1, .func (PySem.W.fnOf "is_whole_within" "is_whole_within" (defArgs s_is_whole_within) (defBody s_is_whole_within) (defScope s_is_whole_within) .none kV1 dc1 pm1 an1 cd1 ct1), sl1⟩) (c1 : PySem.W.codeIn K cd1 "is_whole_within" = true) (k1 : PySem.W.keepIn K (.ref f1) = true)
    (a2 : PySem.W.nsIn K mainGlobals "is_sign" = some (some (.ref f2))) (l2 : K.lookup f2 = some ⟨oc2, od2, .func (PySem.W.fnOf "is_sign" "is_sign" (defArgs s_is_sign) (defBody s_is_sign) (defScope s_is_sign) .none kV2 dc2 pm2 an2 cd2 ct2), sl2⟩) (c2 : PySem.W.codeIn K cd2 "is_sign" = true) (k2 : PySem.W.keepIn K (.ref f2) = true)
    (a3 : PySem.W.nsIn K mainGlobals "is_of" = some (some (.ref f3))) (l3 : K.lookup f3 = some ⟨oc3, od3, .func (PySem.W.fnOf "is_of" "is_of" (defArgs s_is_of) (defBody s_is_of) (defScope s_is_of) .none kV3 dc3 pm3 an3 cd3 ct3), sl3⟩) (c3 : PySem.W.codeIn K cd3 "is_of" = true) (k3 : PySem.W.keepIn K (.ref f3) = true)
    (a4 : PySem.W.nsIn K mainGlobals "made_value" = some (some (.ref f4))) (l4 : K.lookup f4 = some ⟨oc4, od4, .func (PySem.W.fnOf "made_value" "made_value" (defArgs s_made_value) (defBody s_made_value) (defScope s_made_value) .none kV4 dc4 pm4 an4 cd4 ct4), sl4⟩) (c4 : PySem.W.codeIn K cd4 "made_value" = true) (k4 : PySem.W.keepIn K (.ref f4) = true)
    (a5 : PySem.W.nsIn K mainGlobals "is_text_of" = some (some (.ref f5))) (l5 : K.lookup f5 = some ⟨oc5, od5, .func (PySem.W.fnOf "is_text_of" "is_text_of" (defArgs s_is_text_of) (defBody s_is_text_of) (defScope s_is_text_of) .none kV5 dc5 pm5 an5 cd5 ct5), sl5⟩) (c5 : PySem.W.codeIn K cd5 "is_text_of" = true) (k5 : PySem.W.keepIn K (.ref f5) = true)
    (a6 : PySem.W.nsIn K mainGlobals "holds_tuple" = some (some (.ref f6))) (l6 : K.lookup f6 = some ⟨oc6, od6, .func (PySem.W.fnOf "holds_tuple" "holds_tuple" (defArgs s_holds_tuple) (defBody s_holds_tuple) (defScope s_holds_tuple) .none kV6 dc6 pm6 an6 cd6 ct6), sl6⟩) (c6 : PySem.W.codeIn K cd6 "holds_tuple" = true) (k6 : PySem.W.keepIn K (.ref f6) = true)
    (a7 : PySem.W.nsIn K mainGlobals "holds_items" = some (some (.ref f7))) (l7 : K.lookup f7 = some ⟨oc7, od7, .func (PySem.W.fnOf "holds_items" "holds_items" (defArgs s_holds_items) (defBody s_holds_items) (defScope s_holds_items) .none kV7 dc7 pm7 an7 cd7 ct7), sl7⟩) (c7 : PySem.W.codeIn K cd7 "holds_items" = true) (k7 : PySem.W.keepIn K (.ref f7) = true)
    (a8 : PySem.W.nsIn K mainGlobals "is_record_of" = some (some (.ref f8))) (l8 : K.lookup f8 = some ⟨oc8, od8, .func (PySem.W.fnOf "is_record_of" "is_record_of" (defArgs s_is_record_of) (defBody s_is_record_of) (defScope s_is_record_of) .none kV8 dc8 pm8 an8 cd8 ct8), sl8⟩) (c8 : PySem.W.codeIn K cd8 "is_record_of" = true) (k8 : PySem.W.keepIn K (.ref f8) = true)
    (a9 : PySem.W.nsIn K mainGlobals "is_pair_of" = some (some (.ref f9))) (l9 : K.lookup f9 = some ⟨oc9, od9, .func (PySem.W.fnOf "is_pair_of" "is_pair_of" (defArgs s_is_pair_of) (defBody s_is_pair_of) (defScope s_is_pair_of) .none kV9 dc9 pm9 an9 cd9 ct9), sl9⟩) (c9 : PySem.W.codeIn K cd9 "is_pair_of" = true) (k9 : PySem.W.keepIn K (.ref f9) = true)
    (a10 : PySem.W.nsIn K mainGlobals "are_keyed" = some (some (.ref f10))) (l10 : K.lookup f10 = some ⟨oc10, od10, .func (PySem.W.fnOf "are_keyed" "are_keyed" (defArgs s_are_keyed) (defBody s_are_keyed) (defScope s_are_keyed) .none kV10 dc10 pm10 an10 cd10 ct10), sl10⟩) (c10 : PySem.W.codeIn K cd10 "are_keyed" = true) (k10 : PySem.W.keepIn K (.ref f10) = true)
    (a11 : PySem.W.nsIn K mainGlobals "least_value" = some (some (.ref f11))) (l11 : K.lookup f11 = some ⟨oc11, od11, .func (PySem.W.fnOf "least_value" "least_value" (defArgs s_least_value) (defBody s_least_value) (defScope s_least_value) .none kV11 dc11 pm11 an11 cd11 ct11), sl11⟩) (c11 : PySem.W.codeIn K cd11 "least_value" = true) (k11 : PySem.W.keepIn K (.ref f11) = true)
    (a12 : PySem.W.nsIn K mainGlobals "field_of" = some (some (.ref f12))) (l12 : K.lookup f12 = some ⟨oc12, od12, .func (PySem.W.fnOf "field_of" "field_of" (defArgs s_field_of) (defBody s_field_of) (defScope s_field_of) .none kV12 dc12 pm12 an12 cd12 ct12), sl12⟩) (c12 : PySem.W.codeIn K cd12 "field_of" = true) (k12 : PySem.W.keepIn K (.ref f12) = true)
    (a13 : PySem.W.nsIn K mainGlobals "_law_cell_at" = some (some (.ref f13))) (l13 : K.lookup f13 = some ⟨oc13, od13, .func (PySem.W.fnOf "_law_cell_at" "_law_cell_at" (defArgs s_law_cell_at) (defBody s_law_cell_at) (defScope s_law_cell_at) .none kV13 dc13 pm13 an13 cd13 ct13), sl13⟩) (c13 : PySem.W.codeIn K cd13 "_law_cell_at" = true) (k13 : PySem.W.keepIn K (.ref f13) = true)
    (a14 : PySem.W.nsIn K mainGlobals "_law_mixed" = some (some (.ref f14))) (l14 : K.lookup f14 = some ⟨oc14, od14, .func (PySem.W.fnOf "_law_mixed" "_law_mixed" (defArgs s_law_mixed) (defBody s_law_mixed) (defScope s_law_mixed) .none kV14 dc14 pm14 an14 cd14 ct14), sl14⟩) (c14 : PySem.W.codeIn K cd14 "_law_mixed" = true) (k14 : PySem.W.keepIn K (.ref f14) = true)
    (a15 : PySem.W.nsIn K mainGlobals "_law_own" = some (some (.ref f15))) (l15 : K.lookup f15 = some ⟨oc15, od15, .func (PySem.W.fnOf "_law_own" "_law_own" (defArgs s_law_own) (defBody s_law_own) (defScope s_law_own) .none kV15 dc15 pm15 an15 cd15 ct15), sl15⟩) (c15 : PySem.W.codeIn K cd15 "_law_own" = true) (k15 : PySem.W.keepIn K (.ref f15) = true)
    (a16 : PySem.W.nsIn K mainGlobals "_law_digit" = some (some (.ref f16))) (l16 : K.lookup f16 = some ⟨oc16, od16, .func (PySem.W.fnOf "_law_digit" "_law_digit" (defArgs s_law_digit) (defBody s_law_digit) (defScope s_law_digit) .none kV16 dc16 pm16 an16 cd16 ct16), sl16⟩) (c16 : PySem.W.codeIn K cd16 "_law_digit" = true) (k16 : PySem.W.keepIn K (.ref f16) = true)
    (a17 : PySem.W.nsIn K mainGlobals "_law_names" = some (some (.ref f17))) (l17 : K.lookup f17 = some ⟨oc17, od17, .func (PySem.W.fnOf "_law_names" "_law_names" (defArgs s_law_names) (defBody s_law_names) (defScope s_law_names) .none kV17 dc17 pm17 an17 cd17 ct17), sl17⟩) (c17 : PySem.W.codeIn K cd17 "_law_names" = true) (k17 : PySem.W.keepIn K (.ref f17) = true)
    (a18 : PySem.W.nsIn K mainGlobals "_law_number_kind" = some (some (.ref f18))) (l18 : K.lookup f18 = some ⟨oc18, od18, .func (PySem.W.fnOf "_law_number_kind" "_law_number_kind" (defArgs s_law_number_kind) (defBody s_law_number_kind) (defScope s_law_number_kind) .none kV18 dc18 pm18 an18 cd18 ct18), sl18⟩) (c18 : PySem.W.codeIn K cd18 "_law_number_kind" = true) (k18 : PySem.W.keepIn K (.ref f18) = true)
    (a19 : PySem.W.nsIn K mainGlobals "_law_leaf_kind" = some (some (.ref f19))) (l19 : K.lookup f19 = some ⟨oc19, od19, .func (PySem.W.fnOf "_law_leaf_kind" "_law_leaf_kind" (defArgs s_law_leaf_kind) (defBody s_law_leaf_kind) (defScope s_law_leaf_kind) .none kV19 dc19 pm19 an19 cd19 ct19), sl19⟩) (c19 : PySem.W.codeIn K cd19 "_law_leaf_kind" = true) (k19 : PySem.W.keepIn K (.ref f19) = true)
    (a20 : PySem.W.nsIn K mainGlobals "_law_record_kind" = some (some (.ref f20))) (l20 : K.lookup f20 = some ⟨oc20, od20, .func (PySem.W.fnOf "_law_record_kind" "_law_record_kind" (defArgs s_law_record_kind) (defBody s_law_record_kind) (defScope s_law_record_kind) .none kV20 dc20 pm20 an20 cd20 ct20), sl20⟩) (c20 : PySem.W.codeIn K cd20 "_law_record_kind" = true) (k20 : PySem.W.keepIn K (.ref f20) = true)
    (a21 : PySem.W.nsIn K mainGlobals "_law_rows_kind" = some (some (.ref f21))) (l21 : K.lookup f21 = some ⟨oc21, od21, .func (PySem.W.fnOf "_law_rows_kind" "_law_rows_kind" (defArgs s_law_rows_kind) (defBody s_law_rows_kind) (defScope s_law_rows_kind) .none kV21 dc21 pm21 an21 cd21 ct21), sl21⟩) (c21 : PySem.W.codeIn K cd21 "_law_rows_kind" = true) (k21 : PySem.W.keepIn K (.ref f21) = true)
    (a22 : PySem.W.nsIn K mainGlobals "_law_kind" = some (some (.ref f22))) (l22 : K.lookup f22 = some ⟨oc22, od22, .func (PySem.W.fnOf "_law_kind" "_law_kind" (defArgs s_law_kind) (defBody s_law_kind) (defScope s_law_kind) .none kV22 dc22 pm22 an22 cd22 ct22), sl22⟩) (c22 : PySem.W.codeIn K cd22 "_law_kind" = true) (k22 : PySem.W.keepIn K (.ref f22) = true)
    (a23 : PySem.W.nsIn K mainGlobals "_law_text" = some (some (.ref f23))) (l23 : K.lookup f23 = some ⟨oc23, od23, .func (PySem.W.fnOf "_law_text" "_law_text" (defArgs s_law_text) (defBody s_law_text) (defScope s_law_text) .none kV23 dc23 pm23 an23 cd23 ct23), sl23⟩) (c23 : PySem.W.codeIn K cd23 "_law_text" = true) (k23 : PySem.W.keepIn K (.ref f23) = true)
    (a24 : PySem.W.nsIn K mainGlobals "_law_keys" = some (some (.ref f24))) (l24 : K.lookup f24 = some ⟨oc24, od24, .func (PySem.W.fnOf "_law_keys" "_law_keys" (defArgs s_law_keys) (defBody s_law_keys) (defScope s_law_keys) .none kV24 dc24 pm24 an24 cd24 ct24), sl24⟩) (c24 : PySem.W.codeIn K cd24 "_law_keys" = true) (k24 : PySem.W.keepIn K (.ref f24) = true)
    (a25 : PySem.W.nsIn K mainGlobals "_law_row_values" = some (some (.ref f25))) (l25 : K.lookup f25 = some ⟨oc25, od25, .func (PySem.W.fnOf "_law_row_values" "_law_row_values" (defArgs s_law_row_values) (defBody s_law_row_values) (defScope s_law_row_values) .none kV25 dc25 pm25 an25 cd25 ct25), sl25⟩) (c25 : PySem.W.codeIn K cd25 "_law_row_values" = true) (k25 : PySem.W.keepIn K (.ref f25) = true)
    (a26 : PySem.W.nsIn K mainGlobals "_law_value" = some (some (.ref f26))) (l26 : K.lookup f26 = some ⟨oc26, od26, .func (PySem.W.fnOf "_law_value" "_law_value" (defArgs s_law_value) (defBody s_law_value) (defScope s_law_value) .none kV26 dc26 pm26 an26 cd26 ct26), sl26⟩) (c26 : PySem.W.codeIn K cd26 "_law_value" = true) (k26 : PySem.W.keepIn K (.ref f26) = true)
    (a27 : PySem.W.nsIn K mainGlobals "_law_least" = some (some (.ref f27))) (l27 : K.lookup f27 = some ⟨oc27, od27, .func (PySem.W.fnOf "_law_least" "_law_least" (defArgs s_law_least) (defBody s_law_least) (defScope s_law_least) .none kV27 dc27 pm27 an27 cd27 ct27), sl27⟩) (c27 : PySem.W.codeIn K cd27 "_law_least" = true) (k27 : PySem.W.keepIn K (.ref f27) = true)
    (a28 : PySem.W.nsIn K mainGlobals "_law_same" = some (some (.ref f28))) (l28 : K.lookup f28 = some ⟨oc28, od28, .func (PySem.W.fnOf "_law_same" "_law_same" (defArgs s_law_same) (defBody s_law_same) (defScope s_law_same) .none kV28 dc28 pm28 an28 cd28 ct28), sl28⟩) (c28 : PySem.W.codeIn K cd28 "_law_same" = true) (k28 : PySem.W.keepIn K (.ref f28) = true)
    (a29 : PySem.W.nsIn K mainGlobals "law" = some (some (.ref f29))) (l29 : K.lookup f29 = some ⟨oc29, od29, .func (PySem.W.fnOf "law" "law" (defArgs s_law) (defBody s_law) (defScope s_law) .none kV29 dc29 pm29 an29 cd29 ct29), sl29⟩) (c29 : PySem.W.codeIn K cd29 "law" = true) (k29 : PySem.W.keepIn K (.ref f29) = true)
    (xa0 : PySem.W.nsIn K mainGlobals "HandError" = some (some (.ref C_HandError))) (xq0 : PySem.W.excIn K C_HandError bmV "ValueError.__new__" = true) (xg0 : PySem.W.findIn K (.ref C_HandError) "__getattribute__" = some (some (.builtin "BaseException.__getattribute__"))) (xt0 : PySem.W.findIn K (.ref C_HandError) "__getattr__" = some none) (xc0 : PySem.W.findIn K (.ref C_HandError) "__class__" = some (some (.builtin "object.__class__"))) (xb0 : PySem.W.mroIn K C_HandError (.type "BaseException") = some true) (xo0 : PySem.W.mroIn K C_HandError (.type "object") = some true) (xd0 : PySem.W.clsIn K C_HandError = some cdx0) (xk0 : PySem.W.keepIn K (.ref C_HandError) = true)
    (xa1 : PySem.W.nsIn K mainGlobals "BadValue" = some (some (.ref C_BadValue))) (xq1 : PySem.W.excIn K C_BadValue bmV "ValueError.__new__" = true) (xg1 : PySem.W.findIn K (.ref C_BadValue) "__getattribute__" = some (some (.builtin "BaseException.__getattribute__"))) (xt1 : PySem.W.findIn K (.ref C_BadValue) "__getattr__" = some none) (xc1 : PySem.W.findIn K (.ref C_BadValue) "__class__" = some (some (.builtin "object.__class__"))) (xb1 : PySem.W.mroIn K C_BadValue (.type "BaseException") = some true) (xo1 : PySem.W.mroIn K C_BadValue (.type "object") = some true) (xd1 : PySem.W.clsIn K C_BadValue = some cdx1) (xk1 : PySem.W.keepIn K (.ref C_BadValue) = true)
    (g0 : PySem.W.nsIn K mainGlobals "PERCENT" = some (some (.int 37 tk0)))
    (z0 : PySem.W.nsIn K mainGlobals "all" = some none)
    (z1 : PySem.W.nsIn K mainGlobals "any" = some none)
    (z2 : PySem.W.nsIn K mainGlobals "bool" = some none)
    (z3 : PySem.W.nsIn K mainGlobals "dict" = some none)
    (z4 : PySem.W.nsIn K mainGlobals "int" = some none)
    (z5 : PySem.W.nsIn K mainGlobals "isinstance" = some none)
    (z6 : PySem.W.nsIn K mainGlobals "len" = some none)
    (z7 : PySem.W.nsIn K mainGlobals "max" = some none)
    (z8 : PySem.W.nsIn K mainGlobals "min" = some none)
    (z9 : PySem.W.nsIn K mainGlobals "ord" = some none)
    (z10 : PySem.W.nsIn K mainGlobals "range" = some none)
    (z11 : PySem.W.nsIn K mainGlobals "sorted" = some none)
    (z12 : PySem.W.nsIn K mainGlobals "str" = some none)
    (z13 : PySem.W.nsIn K mainGlobals "sum" = some none)
    (z14 : PySem.W.nsIn K mainGlobals "tuple" = some none)
    (z15 : PySem.W.nsIn K mainGlobals "zip" = some none) : Tx K mg ⟨C_HandError, C_BadValue⟩ :=
  ⟨⟨f0, _, fun_mk (st := s_is_whole) l0 c0 k0, (fun_mk (st := s_is_whole) l0 c0 k0).binds (ps := ["thing"]) fun _ _ _ _ _ _ us hl => of_len1 hl fun _ => rfl, PySem.W.mg_of X G a0⟩,
    ⟨f1, _, fun_mk (st := s_is_whole_within) l1 c1 k1, (fun_mk (st := s_is_whole_within) l1 c1 k1).binds (ps := ["thing", "low", "high"]) fun _ _ _ _ _ _ us hl => of_len3 hl fun _ _ _ => rfl, PySem.W.mg_of X G a1⟩,
    ⟨f2, _, fun_mk (st := s_is_sign) l2 c2 k2, (fun_mk (st := s_is_sign) l2 c2 k2).binds (ps := ["letter"]) fun _ _ _ _ _ _ us hl => of_len1 hl fun _ => rfl, PySem.W.mg_of X G a2⟩,
    ⟨f3, _, fun_mk (st := s_is_of) l3 c3 k3, (fun_mk (st := s_is_of) l3 c3 k3).binds (ps := ["value", "kind"]) fun _ _ _ _ _ _ us hl => of_len2 hl fun _ _ => rfl, PySem.W.mg_of X G a3⟩,
    ⟨f4, _, fun_mk (st := s_made_value) l4 c4 k4, (fun_mk (st := s_made_value) l4 c4 k4).binds (ps := ["value", "kind"]) fun _ _ _ _ _ _ us hl => of_len2 hl fun _ _ => rfl, PySem.W.mg_of X G a4⟩,
    ⟨f5, _, fun_mk (st := s_is_text_of) l5 c5 k5, (fun_mk (st := s_is_text_of) l5 c5 k5).binds (ps := ["value", "most"]) fun _ _ _ _ _ _ us hl => of_len2 hl fun _ _ => rfl, PySem.W.mg_of X G a5⟩,
    ⟨f6, _, fun_mk (st := s_holds_tuple) l6 c6 k6, (fun_mk (st := s_holds_tuple) l6 c6 k6).binds (ps := ["value", "word"]) fun _ _ _ _ _ _ us hl => of_len2 hl fun _ _ => rfl, PySem.W.mg_of X G a6⟩,
    ⟨f7, _, fun_mk (st := s_holds_items) l7 c7 k7, (fun_mk (st := s_holds_items) l7 c7 k7).binds (ps := ["value", "word", "kind", "most"]) fun _ _ _ _ _ _ us hl => of_len4 hl fun _ _ _ _ => rfl, PySem.W.mg_of X G a7⟩,
    ⟨f8, _, fun_mk (st := s_is_record_of) l8 c8 k8, (fun_mk (st := s_is_record_of) l8 c8 k8).binds (ps := ["value", "fields"]) fun _ _ _ _ _ _ us hl => of_len2 hl fun _ _ => rfl, PySem.W.mg_of X G a8⟩,
    ⟨f9, _, fun_mk (st := s_is_pair_of) l9 c9 k9, (fun_mk (st := s_is_pair_of) l9 c9 k9).binds (ps := ["pair", "field"]) fun _ _ _ _ _ _ us hl => of_len2 hl fun _ _ => rfl, PySem.W.mg_of X G a9⟩,
    ⟨f10, _, fun_mk (st := s_are_keyed) l10 c10 k10, (fun_mk (st := s_are_keyed) l10 c10 k10).binds (ps := ["items", "key"]) fun _ _ _ _ _ _ us hl => of_len2 hl fun _ _ => rfl, PySem.W.mg_of X G a10⟩,
    ⟨f11, _, fun_mk (st := s_least_value) l11 c11 k11, (fun_mk (st := s_least_value) l11 c11 k11).binds (ps := ["kind"]) fun _ _ _ _ _ _ us hl => of_len1 hl fun _ => rfl, PySem.W.mg_of X G a11⟩,
    ⟨f12, _, fun_mk (st := s_field_of) l12 c12 k12, (fun_mk (st := s_field_of) l12 c12 k12).binds (ps := ["record", "name"]) fun _ _ _ _ _ _ us hl => of_len2 hl fun _ _ => rfl, PySem.W.mg_of X G a12⟩,
    ⟨f13, _, fun_mk (st := s_law_cell_at) l13 c13 k13, (fun_mk (st := s_law_cell_at) l13 c13 k13).binds (ps := ["script", "k"]) fun _ _ _ _ _ _ us hl => of_len2 hl fun _ _ => rfl, PySem.W.mg_of X G a13⟩,
    ⟨f14, _, fun_mk (st := s_law_mixed) l14 c14 k14, (fun_mk (st := s_law_mixed) l14 c14 k14).binds (ps := ["cell", "k"]) fun _ _ _ _ _ _ us hl => of_len2 hl fun _ _ => rfl, PySem.W.mg_of X G a14⟩,
    ⟨f15, _, fun_mk (st := s_law_own) l15 c15 k15, (fun_mk (st := s_law_own) l15 c15 k15).binds (ps := ["script", "k"]) fun _ _ _ _ _ _ us hl => of_len2 hl fun _ _ => rfl, PySem.W.mg_of X G a15⟩,
    ⟨f16, _, fun_mk (st := s_law_digit) l16 c16 k16, (fun_mk (st := s_law_digit) l16 c16 k16).binds (ps := ["row", "many"]) fun _ _ _ _ _ _ us hl => of_len2 hl fun _ _ => rfl, PySem.W.mg_of X G a16⟩,
    ⟨f17, _, fun_mk (st := s_law_names) l17 c17 k17, (fun_mk (st := s_law_names) l17 c17 k17).binds (ps := ["row", "many"]) fun _ _ _ _ _ _ us hl => of_len2 hl fun _ _ => rfl, PySem.W.mg_of X G a17⟩,
    ⟨f18, _, fun_mk (st := s_law_number_kind) l18 c18 k18, (fun_mk (st := s_law_number_kind) l18 c18 k18).binds (ps := ["row"]) fun _ _ _ _ _ _ us hl => of_len1 hl fun _ => rfl, PySem.W.mg_of X G a18⟩,
    ⟨f19, _, fun_mk (st := s_law_leaf_kind) l19 c19 k19, (fun_mk (st := s_law_leaf_kind) l19 c19 k19).binds (ps := ["row"]) fun _ _ _ _ _ _ us hl => of_len1 hl fun _ => rfl, PySem.W.mg_of X G a19⟩,
    ⟨f20, _, fun_mk (st := s_law_record_kind) l20 c20 k20, (fun_mk (st := s_law_record_kind) l20 c20 k20).binds (ps := ["row", "deep", "room"]) fun _ _ _ _ _ _ us hl => of_len3 hl fun _ _ _ => rfl, PySem.W.mg_of X G a20⟩,
    ⟨f21, _, fun_mk (st := s_law_rows_kind) l21 c21 k21, (fun_mk (st := s_law_rows_kind) l21 c21 k21).binds (ps := ["row", "deep", "room"]) fun _ _ _ _ _ _ us hl => of_len3 hl fun _ _ _ => rfl, PySem.W.mg_of X G a21⟩,
    ⟨f22, _, fun_mk (st := s_law_kind) l22 c22 k22, (fun_mk (st := s_law_kind) l22 c22 k22).binds (ps := ["row", "deep", "room"]) fun _ _ _ _ _ _ us hl => of_len3 hl fun _ _ _ => rfl, PySem.W.mg_of X G a22⟩,
    ⟨f23, _, fun_mk (st := s_law_text) l23 c23 k23, (fun_mk (st := s_law_text) l23 c23 k23).binds (ps := ["row", "most"]) fun _ _ _ _ _ _ us hl => of_len2 hl fun _ _ => rfl, PySem.W.mg_of X G a23⟩,
    ⟨f24, _, fun_mk (st := s_law_keys) l24 c24 k24, (fun_mk (st := s_law_keys) l24 c24 k24).binds (ps := ["row", "kind"]) fun _ _ _ _ _ _ us hl => of_len2 hl fun _ _ => rfl, PySem.W.mg_of X G a24⟩,
    ⟨f25, _, fun_mk (st := s_law_row_values) l25 c25 k25, (fun_mk (st := s_law_row_values) l25 c25 k25).binds (ps := ["row", "kind"]) fun _ _ _ _ _ _ us hl => of_len2 hl fun _ _ => rfl, PySem.W.mg_of X G a25⟩,
    ⟨f26, _, fun_mk (st := s_law_value) l26 c26 k26, (fun_mk (st := s_law_value) l26 c26 k26).binds (ps := ["row", "kind"]) fun _ _ _ _ _ _ us hl => of_len2 hl fun _ _ => rfl, PySem.W.mg_of X G a26⟩,
    ⟨f27, _, fun_mk (st := s_law_least) l27 c27 k27, (fun_mk (st := s_law_least) l27 c27 k27).binds (ps := ["kind"]) fun _ _ _ _ _ _ us hl => of_len1 hl fun _ => rfl, PySem.W.mg_of X G a27⟩,
    ⟨f28, _, fun_mk (st := s_law_same) l28 c28 k28, (fun_mk (st := s_law_same) l28 c28 k28).binds (ps := ["one", "other"]) fun _ _ _ _ _ _ us hl => of_len2 hl fun _ _ => rfl, PySem.W.mg_of X G a28⟩,
    ⟨f29, _, fun_mk (st := s_law) l29 c29 k29, (fun_mk (st := s_law) l29 c29 k29).binds (ps := ["script"]) fun _ _ _ _ _ _ us hl => of_len1 hl fun _ => rfl, PySem.W.mg_of X G a29⟩,
    ⟨PySem.W.mg_of X G xa0, xq0, ⟨xg0, xt0, xc0, xb0, xo0, _, xd0⟩, xk0⟩,
    ⟨PySem.W.mg_of X G xa1, xq1, ⟨xg1, xt1, xc1, xb1, xo1, _, xd1⟩, xk1⟩,
    ⟨_, PySem.W.mg_of X G g0⟩,
    PySem.W.mg_none_of X G z0,
    PySem.W.mg_none_of X G z1,
    PySem.W.mg_none_of X G z2,
    PySem.W.mg_none_of X G z3,
    PySem.W.mg_none_of X G z4,
    PySem.W.mg_none_of X G z5,
    PySem.W.mg_none_of X G z6,
    PySem.W.mg_none_of X G z7,
    PySem.W.mg_none_of X G z8,
    PySem.W.mg_none_of X G z9,
    PySem.W.mg_none_of X G z10,
    PySem.W.mg_none_of X G z11,
    PySem.W.mg_none_of X G z12,
    PySem.W.mg_none_of X G z13,
    PySem.W.mg_none_of X G z14,
    PySem.W.mg_none_of X G z15⟩
theorem law_binds {K : PySem.W.Frag} {f : Addr} {fd : FuncData} (F : Fun K "law" "law" s_law f fd) : ∀ (s : Shared) (u : Value), BindsTo s fd ⟨[u], []⟩ [("script", u)] := by
  obtain ⟨oc, od, kV, doc, pm, an, cdv, ct, osl, rfl, lk, hcd⟩ := F.ex
  exact fun s u => .of_eq rfl
end K04
open PySem PySem.W PyProof.Rows
set_option maxRecDepth 100000 in
set_option maxHeartbeats 0 in
theorem PySem.Challenge.cw_oldhands_k04_values_of_kinds_holds : PySem.Challenge.rw_oldhands_k04_values_of_kinds.Holds := by
  w_on; o_law; k_head; (case hw => w_witness2)
  k_fill
  refine L2.walk_ofK (l := PySem.Challenge.rw_oldhands_k04_values_of_kinds) (n := 63) (k := K04.depth) (x := "script") (CX := L2.CX0) (sp := K04.spLaw) rfl (by decide) rfl ⟨rfl, by decide, by decide⟩ (fun w h Y => PySem.W.kIn_of Y) ?F (fun _ _ a ns hl _ hS => ⟨a, ns, rfl, hS, hl, fun _ => rfl⟩) (fun _ _ _ _ z => z)
  case F =>
    intro w mg fa h KX G hmg
    have T : ∃ ad, K04.Tx (L2.KOf KX) mg ad := by
      dsimp only [L2.KOf]
      refine' ⟨_, K04.tx_mk KX G ?ya0 ?yl0 ?yc0 ?yk0 ?ya1 ?yl1 ?yc1 ?yk1 ?ya2 ?yl2 ?yc2 ?yk2 ?ya3 ?yl3 ?yc3 ?yk3 ?ya4 ?yl4 ?yc4 ?yk4 ?ya5 ?yl5 ?yc5 ?yk5 ?ya6 ?yl6 ?yc6 ?yk6 ?ya7 ?yl7 ?yc7 ?yk7 ?ya8 ?yl8 ?yc8 ?yk8 ?ya9 ?yl9 ?yc9 ?yk9 ?ya10 ?yl10 ?yc10 ?yk10 ?ya11 ?yl11 ?yc11 ?yk11 ?ya12 ?yl12 ?yc12 ?yk12 ?ya13 ?yl13 ?yc13 ?yk13 ?ya14 ?yl14 ?yc14 ?yk14 ?ya15 ?yl15 ?yc15 ?yk15 ?ya16 ?yl16 ?yc16 ?yk16 ?ya17 ?yl17 ?yc17 ?yk17 ?ya18 ?yl18 ?yc18 ?yk18 ?ya19 ?yl19 ?yc19 ?yk19 ?ya20 ?yl20 ?yc20 ?yk20 ?ya21 ?yl21 ?yc21 ?yk21 ?ya22 ?yl22 ?yc22 ?yk22 ?ya23 ?yl23 ?yc23 ?yk23 ?ya24 ?yl24 ?yc24 ?yk24 ?ya25 ?yl25 ?yc25 ?yk25 ?ya26 ?yl26 ?yc26 ?yk26 ?ya27 ?yl27 ?yc27 ?yk27 ?ya28 ?yl28 ?yc28 ?yk28 ?ya29 ?yl29 ?yc29 ?yk29 ?yxa0 ?yxq0 ?yxg0 ?yxt0 ?yxc0 ?yxb0 ?yxo0 ?yxd0 ?yxk0 ?yxa1 ?yxq1 ?yxg1 ?yxt1 ?yxc1 ?yxb1 ?yxo1 ?yxd1 ?yxk1 ?yg0 ?yz0 ?yz1 ?yz2 ?yz3 ?yz4 ?yz5 ?yz6 ?yz7 ?yz8 ?yz9 ?yz10 ?yz11 ?yz12 ?yz13 ?yz14 ?yz15⟩
      (case ya0 => k_is)
      (case yl0 => k_is)
      (case yc0 => k_is)
      (case yk0 => k_is)
      (case ya1 => k_is)
      (case yl1 => k_is)
      (case yc1 => k_is)
      (case yk1 => k_is)
      (case ya2 => k_is)
      (case yl2 => k_is)
      (case yc2 => k_is)
      (case yk2 => k_is)
      (case ya3 => k_is)
      (case yl3 => k_is)
      (case yc3 => k_is)
      (case yk3 => k_is)
      (case ya4 => k_is)
      (case yl4 => k_is)
      (case yc4 => k_is)
      (case yk4 => k_is)
      (case ya5 => k_is)
      (case yl5 => k_is)
      (case yc5 => k_is)
      (case yk5 => k_is)
      (case ya6 => k_is)
      (case yl6 => k_is)
      (case yc6 => k_is)
      (case yk6 => k_is)
      (case ya7 => k_is)
      (case yl7 => k_is)
      (case yc7 => k_is)
      (case yk7 => k_is)
      (case ya8 => k_is)
      (case yl8 => k_is)
      (case yc8 => k_is)
      (case yk8 => k_is)
      (case ya9 => k_is)
      (case yl9 => k_is)
      (case yc9 => k_is)
      (case yk9 => k_is)
      (case ya10 => k_is)
      (case yl10 => k_is)
      (case yc10 => k_is)
      (case yk10 => k_is)
      (case ya11 => k_is)
      (case yl11 => k_is)
      (case yc11 => k_is)
      (case yk11 => k_is)
      (case ya12 => k_is)
      (case yl12 => k_is)
      (case yc12 => k_is)
      (case yk12 => k_is)
      (case ya13 => k_is)
      (case yl13 => k_is)
      (case yc13 => k_is)
      (case yk13 => k_is)
      (case ya14 => k_is)
      (case yl14 => k_is)
      (case yc14 => k_is)
      (case yk14 => k_is)
      (case ya15 => k_is)
      (case yl15 => k_is)
      (case yc15 => k_is)
      (case yk15 => k_is)
      (case ya16 => k_is)
      (case yl16 => k_is)
      (case yc16 => k_is)
      (case yk16 => k_is)
      (case ya17 => k_is)
      (case yl17 => k_is)
      (case yc17 => k_is)
      (case yk17 => k_is)
      (case ya18 => k_is)
      (case yl18 => k_is)
      (case yc18 => k_is)
      (case yk18 => k_is)
      (case ya19 => k_is)
      (case yl19 => k_is)
      (case yc19 => k_is)
      (case yk19 => k_is)
      (case ya20 => k_is)
      (case yl20 => k_is)
      (case yc20 => k_is)
      (case yk20 => k_is)
      (case ya21 => k_is)
      (case yl21 => k_is)
      (case yc21 => k_is)
      (case yk21 => k_is)
      (case ya22 => k_is)
      (case yl22 => k_is)
      (case yc22 => k_is)
      (case yk22 => k_is)
      (case ya23 => k_is)
      (case yl23 => k_is)
      (case yc23 => k_is)
      (case yk23 => k_is)
      (case ya24 => k_is)
      (case yl24 => k_is)
      (case yc24 => k_is)
      (case yk24 => k_is)
      (case ya25 => k_is)
      (case yl25 => k_is)
      (case yc25 => k_is)
      (case yk25 => k_is)
      (case ya26 => k_is)
      (case yl26 => k_is)
      (case yc26 => k_is)
      (case yk26 => k_is)
      (case ya27 => k_is)
      (case yl27 => k_is)
      (case yc27 => k_is)
      (case yk27 => k_is)
      (case ya28 => k_is)
      (case yl28 => k_is)
      (case yc28 => k_is)
      (case yk28 => k_is)
      (case ya29 => k_is)
      (case yl29 => k_is)
      (case yc29 => k_is)
      (case yk29 => k_is)
      (case yxa0 => k_is)
      (case yxq0 => kernel_rfl)
      (case yxg0 => k_is)
      (case yxt0 => k_is)
      (case yxc0 => k_is)
      (case yxb0 => k_is)
      (case yxo0 => k_is)
      (case yxd0 => k_is)
      (case yxk0 => k_is)
      (case yxa1 => k_is)
      (case yxq1 => kernel_rfl)
      (case yxg1 => k_is)
      (case yxt1 => k_is)
      (case yxc1 => k_is)
      (case yxb1 => k_is)
      (case yxo1 => k_is)
      (case yxd1 => k_is)
      (case yxk1 => k_is)
      (case yg0 => k_is)
      (case yz0 => k_is)
      (case yz1 => k_is)
      (case yz2 => k_is)
      (case yz3 => k_is)
      (case yz4 => k_is)
      (case yz5 => k_is)
      (case yz6 => k_is)
      (case yz7 => k_is)
      (case yz8 => k_is)
      (case yz9 => k_is)
      (case yz10 => k_is)
      (case yz11 => k_is)
      (case yz12 => k_is)
      (case yz13 => k_is)
      (case yz14 => k_is)
      (case yz15 => k_is)
    obtain ⟨ad, T⟩ := T
    obtain ⟨fL, dL, L⟩ := T.law
    have e := hmg.symm.trans L.m
    cases e
    exact ⟨dL, K04.law_binds L.F, fun base _ _ => K04.ok_law T L⟩
#print axioms PySem.Challenge.cw_oldhands_k04_values_of_kinds_holds
