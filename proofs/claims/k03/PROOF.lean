import PyProof.Rows.All
import Wide.All
import OpenK.AllK
import Wide.FinOn
import Lean
import PyProof.EqAt
import PyProof.EqKinds
import PyProof.TupleCall
import PyProof.NeKinds
import KE.KIntText
import PyProof.StrCalls
import PyProof.ZipIter
import PyProof.Rows.SetFrom
import PyProof.SetRoads
import PyProof.CompUse
import PyProof.Rows.MinMaxN
import PyProof.Rows.SortStr
import PyProof.Rows.SortWalk
import PyProof.Rows.SeqMore2
import KE.KMinKey
import PyProof.Rows.CallKwBuiltin
import PyProof.TupleOfStr
import PySem.Challenge.RW_oldhands_k03_no_kinds
set_option Elab.async false
set_option linter.all false
set_option maxRecDepth 100000
/-! THE HAND LAYER, for ints, bools, texts, own classes, LISTS and tuples (index, slices, in, append, pop ..), calls, loops. Paste it whole ahead of your own text; what your proof does not reach may be deleted. -/
namespace L2
open PySem PySem.Spec PyProof.Rows

/-- a key: an int or a str -/
noncomputable abbrev Key := Sum Int Str
noncomputable def keyIs : Key → Value → Bool
  | .inl k, v => Value.isInt k v
  | .inr x, v => Value.isStrOf x v
noncomputable def keyH (w : World) : Key → Int
  | .inl k => hashInt k
  | .inr x => hashStr w x
theorem keyIs_shape : ∀ {k : Key} {v : Value}, keyIs k v = true → (∃ i t, k = Sum.inl i ∧ v = Value.int i t) ∨ (∃ x t, k = Sum.inr x ∧ v = Value.str x t)
  | .inl i, v, h => by
    obtain ⟨t, e⟩ := Value.isInt_shape (k := i) (v := v) h
    exact .inl ⟨i, t, rfl, e⟩
  | .inr x, v, h => by
    obtain ⟨t, e⟩ := Value.isStrOf_shape (x := x) (v := v) h
    exact .inr ⟨x, t, rfl, e⟩
theorem keyIs_int (i : Int) (t : Tok) : keyIs (.inl i) (.int i t) = true := by simp [keyIs, Value.isInt]
theorem keyIs_str (x : Str) (t : Tok) : keyIs (.inr x) (.str x t) = true := by simp [keyIs, Value.isStrOf]
theorem key_ll (a b : Int) : decide ((Sum.inl a : Key) = Sum.inl b) = (a == b) := by
  by_cases e : a = b
  · subst e; simp
  · have h : ¬ (Sum.inl a : Key) = Sum.inl b := fun q => e (Sum.inl.inj q)
    rw [decide_eq_false h]
    exact (beq_eq_false_iff_ne.mpr e).symm
theorem key_rr (a b : Str) : decide ((Sum.inr a : Key) = Sum.inr b) = decide (a = b) := by
  by_cases e : a = b
  · subst e; simp
  · have h : ¬ (Sum.inr a : Key) = Sum.inr b := fun q => e (Sum.inr.inj q)
    rw [decide_eq_false h, decide_eq_false e]
theorem key_lr (a : Int) (b : Str) : decide ((Sum.inl a : Key) = Sum.inr b) = false := decide_eq_false (fun q => nomatch q)
theorem key_rl (a : Str) (b : Int) : decide ((Sum.inr a : Key) = Sum.inl b) = false := decide_eq_false (fun q => nomatch q)

noncomputable def mixKind (prog : Program) (w : World) : PySem.KeyKind prog w Key where
  is := keyIs
  hash := keyH w
  inj := fun v a b ha hb => by
    rcases keyIs_shape ha with ⟨i, t, rfl, rfl⟩ | ⟨x, t, rfl, rfl⟩
    · rcases keyIs_shape hb with ⟨j, u, rfl, e⟩ | ⟨y, u, rfl, e⟩
      · injection e with e1 _; rw [e1]
      · exact nomatch e
    · rcases keyIs_shape hb with ⟨j, u, rfl, e⟩ | ⟨y, u, rfl, e⟩
      · exact nomatch e
      · injection e with e1 _; rw [e1]
  byValue := fun k v h => by
    rcases keyIs_shape h with ⟨i, t, rfl, rfl⟩ | ⟨x, t, rfl, rfl⟩ <;> rfl
  pyHash := fun hv h => by
    rcases keyIs_shape hv with ⟨i, t, rfl, rfl⟩ | ⟨x, t, rfl, rfl⟩
    · exact wpAny_pyHash_int h
    · exact wpAny_pyHash_str h
  eqBool := fun hu hv h => by
    rcases keyIs_shape hu with ⟨i, t, rfl, rfl⟩ | ⟨x, t, rfl, rfl⟩
    · rcases keyIs_shape hv with ⟨j, u, rfl, rfl⟩ | ⟨y, u, rfl, rfl⟩
      · rw [key_ll] at h; exact wpAny_eqBool_int h
      · rw [key_lr] at h; exact SeqAt.EqAt.int_str i t y u _ _ _ _ h
    · rcases keyIs_shape hv with ⟨j, u, rfl, rfl⟩ | ⟨y, u, rfl, rfl⟩
      · rw [key_rl] at h; exact SeqAt.EqAt.str_int x t j u _ _ _ _ h
      · rw [key_rr] at h; exact wpAny_eqBool_str h
  «strs» := fun k x t v h => by
    rcases keyIs_shape h with ⟨i, u, rfl, e⟩ | ⟨y, u, rfl, e⟩
    · exact nomatch e
    · injection e with e1 _
      subst e1
      cases v <;> rfl

theorem mixKind_int (prog : Program) (w : World) (i : Int) (t : Tok) : (mixKind prog w).is (.inl i) (.int i t) = true := keyIs_int i t
theorem mixKind_str (prog : Program) (w : World) (x : Str) (t : Tok) : (mixKind prog w).is (.inr x) (.str x t) = true := keyIs_str x t
end L2

namespace L2
open PySem PySem.Spec PyProof.Rows

/-- a value, without the heap -/
inductive V where
  | non | bl (b : Bool) | int (i : Int) | str (x : Str) | byt (b : Array UInt8) | flt (b : UInt64) | ref (a : Addr) | ty (n : String)
  deriving DecidableEq

noncomputable def RelV : V → Value → Prop
  | .non, u => u = Value.none
  | .bl b, u => u = Value.bool b
  | .int i, u => ∃ t, u = Value.int i t
  | .str x, u => ∃ t, u = Value.str x t
  | .byt b, u => ∃ t, u = Value.bytes b t
  | .flt b, u => ∃ t, u = Value.float b t
  | .ref a, u => u = Value.ref a
  | .ty n, u => u = Value.type n

noncomputable abbrev Vals : List V → List Value → Prop := Paired RelV
theorem Vals.length {xs : List V} {us : List Value} (r : Vals xs us) : xs.length = us.length := Paired.length r
theorem Vals.get : ∀ {xs : List V} {us : List Value} {i : Nat} {x : V}, Vals xs us → xs[i]? = some x → ∃ u, us[i]? = some u ∧ RelV x u
  | _, _, _, _, .nil, e => by simp at e
  | _, _, 0, _, .cons r _, e => by simp at e; subst e; exact ⟨_, rfl, r⟩
  | _, _, i + 1, x, .cons _ t, e => by
    obtain ⟨u, h1, h2⟩ := Vals.get (i := i) (x := x) t (by simpa using e)
    exact ⟨u, by simpa using h1, h2⟩
theorem Vals.set {x : V} {u : Value} (r : RelV x u) : ∀ {xs : List V} {us : List Value} (i : Nat), Vals xs us → Vals (xs.set i x) (us.set i u)
  | _, _, _, .nil => .nil
  | _, _, 0, .cons _ t => .cons r t
  | _, _, i + 1, .cons q t => .cons q (Vals.set r i t)
theorem Vals.append : ∀ {xs ys : List V} {us ws : List Value}, Vals xs us → Vals ys ws → Vals (xs ++ ys) (us ++ ws)
  | _, _, _, _, .nil, s => s
  | _, _, _, _, .cons r t, s => .cons r (Vals.append t s)
theorem Vals.take : ∀ {xs : List V} {us : List Value} (n : Nat), Vals xs us → Vals (xs.take n) (us.take n)
  | _, _, 0, _ => .nil
  | _, _, _ + 1, .nil => .nil
  | _, _, n + 1, .cons r t => .cons r (Vals.take n t)
theorem Vals.drop : ∀ {xs : List V} {us : List Value} (n : Nat), Vals xs us → Vals (xs.drop n) (us.drop n)
  | _, _, 0, r => r
  | _, _, _ + 1, .nil => .nil
  | _, _, n + 1, .cons _ t => Vals.drop n t
noncomputable def RelO : Option V → Option Value → Prop
  | some v, some u => RelV v u
  | none, none => True
  | _, _ => False
noncomputable def KV {κ : Type} : List (κ × V) → List (κ × Value) → Prop := Paired fun (p : κ × V) (q : κ × Value) => p.1 = q.1 ∧ RelV p.2 q.2

/-- a key of a dict (00_mix): an int or a text -/
noncomputable def kV : Key → V
  | .inl i => .int i
  | .inr x => .str x

/-- what stands at a tracked address -/
inductive HO where
  /-- a list -/
  | lst (xs : List V)
  /-- a tuple (never changes) -/
  | tup (xs : List V)
  /-- a dict whose keys are ints and texts; one whose keys are tuples of ints and texts (the empty one is both) -/
  | dK (kvs : List (Key × V)) | dT (kvs : List (List Key × V))
  /-- a set of ints: its members, its size -/
  | set (S : Int → Bool) (n : Nat)
  /-- an instance of the class at C, its dict at dx, its attributes -/
  | ins (C dx : Addr) (fs : List (Str × V))
  /-- the dict of the instance at x -/
  | own (x : Addr)
  /-- the dict of an exception -/
  | xd (fs : List (Str × V))
  /-- a bound method, f of x -/
  | met (f x : Addr)
  /-- a range object lo, lo + 1, .. below hi -/
  | rng (lo hi : Int)
  /-- a thing that is known to the object (the script; a dict while a loop walks it): read, never written while it is so -/
  | frz (o : Obj) (u : HO)
  /-- a code object's table -/
  | tbl (ps : Array Value)
  /-- any other thing, by what is true of its one object (a def of one's own: SetO a S n := HO.ext fun h => ..) -/
  | ext (φ : Heap → Prop)

noncomputable abbrev Hp := Addr → Option HO
noncomputable def upd (H : Hp) (a : Addr) (o : HO) : Hp := fun b => if b = a then some o else H b
theorem upd_same {H : Hp} {a : Addr} {o : HO} : upd H a o a = some o := by unfold upd; rw [if_pos rfl]
theorem upd_ne {H : Hp} {a b : Addr} {o : HO} (h : b ≠ a) : upd H a o b = H b := by unfold upd; rw [if_neg h]
theorem upd_upd {H : Hp} {a : Addr} {o u : HO} : upd (upd H a o) a u = upd H a u := by
  funext b; unfold upd; split <;> rfl
/-- two objects of different content stand apart -/
theorem ne_of {H : Hp} {a b : Addr} {o u : HO} (h : H a = some o) (h' : H b = some u) (d : o ≠ u) : a ≠ b := by
  intro e; subst e; rw [h] at h'; exact d (Option.some.inj h')
theorem ne_of_none {H : Hp} {a b : Addr} {o : HO} (h : H a = some o) (h' : H b = none) : a ≠ b := by
  intro e; subst e; rw [h] at h'; cases h'

section
variable (P : Program) (w : World)
noncomputable def ObjOk (H : Hp) (h : Heap) (a : Addr) : HO → Prop
  | .lst xs => xs.length ≤ sizeLine ∧ ∃ (its : List Value) (n : Nat), Vals xs its ∧ h.get? a = some { cls := .type "list", data := .seq its.toArray n }
  | .tup xs => xs.length ≤ sizeLine ∧ ∃ its : List Value, Vals xs its ∧ IsTup h a its.toArray
  | .dK kvs => kvs.length ≤ sizeLine ∧ (a == sysModules) = false ∧ ∃ vs, KV kvs vs ∧ h.DictOf (mixKind P w) a vs
  | .dT kvs => kvs.length ≤ sizeLine ∧ (a == sysModules) = false ∧ ∃ xs : List (List Key × Addr × Value),
      Paired (fun (p : List Key × V) (q : List Key × Addr × Value) => p.1 = q.1 ∧ H q.2.1 = some (.tup (p.1.map kV)) ∧ RelV p.2 q.2.2) kvs xs ∧
      ∃ o es ep, h.get? a = some o ∧ o.ExactDict ∧ o.data = .dict es ep ∧ es.toList = xs.map (entryOfKey (tupleKind (mixKind P w))) ∧ (xs.map (·.1)).Nodup
  | .set S n => h.SetOf (intKind P w) a S n
  | .ins C dx fs => H dx = some (.own a) ∧ fs.length ≤ 1000 ∧ dx ≠ a ∧ h.get? a = some (PySem.W.instObj C dx) ∧
      ∃ mA, h.Ns1 dx mA ∧ (∀ f, RelO (fs.lookup f) (mA f)) ∧ PySem.Within mA (fs.map (·.1))
  | .own _ => ∃ o, h.get? a = some o
  | .xd fs => ∃ mA, h.Ns1 a mA ∧ ∀ f, RelO (fs.lookup f) (mA f)
  | .rng lo hi => ∃ t u v, h.get? a = some { cls := .type "range", data := .fields #[.int lo t, .int hi u, .int 1 v] }
  | .frz o u => h.get? a = some o ∧ ObjOk H h a u
  | .tbl ps => h.get? a = some { cls := .none, data := .fields ps }
  | .met f x => h.get? a = some (PySem.W.methodObj (.ref f) (.ref x))
  | .ext φ => φ h ∧ (∃ o, h.get? a = some o) ∧ ∀ h1 h2 : Heap, φ h1 → (∀ o, h1.get? a = some o → h2.get? a = some o) → φ h2
/-- the abstract heap is held -/
noncomputable def HOk (H : Hp) (h : Heap) : Prop := ∀ a o, H a = some o → ObjOk P w H h a o
end

section
variable {P : Program} {w : World} {H H' : Hp} {h h' : Heap} {a : Addr} {o : HO}
theorem ObjOk.lt (x : ObjOk P w H h a o) : a < h.objs.size := by
  cases o with
  | lst xs => obtain ⟨_, _, _, _, e⟩ := x; exact Heap.lt_size e
  | tup xs => obtain ⟨_, _, _, p⟩ := x; exact p.lt
  | dK kvs => obtain ⟨_, _, _, _, o, _, _, e, _⟩ := x; exact Heap.lt_size e
  | dT kvs => obtain ⟨_, _, _, _, o, _, _, e, _⟩ := x; exact Heap.lt_size e
  | set S n => obtain ⟨o, _, _, _, e, _⟩ := x; exact Heap.lt_size e
  | ins C dx fs => obtain ⟨_, _, _, e, _⟩ := x; exact Heap.lt_size e
  | own y => obtain ⟨_, e⟩ := x; exact Heap.lt_size e
  | xd fs => obtain ⟨_, ⟨_, _, _, e, _⟩, _⟩ := x; exact Heap.lt_size e
  | rng lo hi => obtain ⟨_, _, _, e⟩ := x; exact Heap.lt_size e
  | frz ob u => obtain ⟨e, _⟩ := x; exact Heap.lt_size e
  | tbl ps => exact Heap.lt_size (show h.get? a = some _ from x)
  | met f y => exact Heap.lt_size (show h.get? a = some _ from x)
  | ext φ => obtain ⟨_, ⟨_, e⟩, _⟩ := x; exact Heap.lt_size e
theorem Paired.mapP {α β : Type} {F G : α → β → Prop} : ∀ {l₁ : List α} {l₂ : List β}, Paired F l₁ l₂ → (∀ a b, F a b → G a b) → Paired G l₁ l₂
  | _, _, .nil, _ => .nil
  | _, _, .cons r t, f => .cons (f _ _ r) (Paired.mapP t f)
/-- what an object's description leans on: its own object, its own dict, the tuples -/
theorem ObjOk.stay (x : ObjOk P w H h a o) (k : ∀ b u, (b = a ∨ H b = some (.own a)) → h.get? b = some u → h'.get? b = some u)
    (ho : ∀ b, H b = some (.own a) → H' b = some (.own a)) (ht : ∀ b xs, H b = some (.tup xs) → H' b = some (.tup xs)) : ObjOk P w H' h' a o := by
  induction o with
  | lst xs => obtain ⟨z, its, n, r, e⟩ := x; exact ⟨z, its, n, r, k _ _ (.inl rfl) e⟩
  | tup xs => obtain ⟨z, its, r, ob, e, c⟩ := x; exact ⟨z, its, r, ob, k _ _ (.inl rfl) e, c⟩
  | dK kvs => obtain ⟨z, y, vs, r, ob, es, ep, e, c⟩ := x; exact ⟨z, y, vs, r, ob, es, ep, k _ _ (.inl rfl) e, c⟩
  | dT kvs =>
    obtain ⟨z, y, xs, r, ob, es, ep, e, c⟩ := x
    exact ⟨z, y, xs, Paired.mapP r fun p q z => ⟨z.1, ht _ _ z.2.1, z.2.2⟩, ob, es, ep, k _ _ (.inl rfl) e, c⟩
  | set S n => obtain ⟨ob, es, ep, t, e, c⟩ := x; exact ⟨ob, es, ep, t, k _ _ (.inl rfl) e, c⟩
  | ins C dx fs =>
    obtain ⟨d, z, ne, e, mA, ⟨od, es, ep, e2, c⟩, r⟩ := x
    exact ⟨ho _ d, z, ne, k _ _ (.inl rfl) e, mA, ⟨od, es, ep, k _ _ (.inr d) e2, c⟩, r⟩
  | own y => obtain ⟨ob, e⟩ := x; exact ⟨ob, k _ _ (.inl rfl) e⟩
  | xd fs => obtain ⟨mA, ⟨od, es, ep, e, c⟩, r⟩ := x; exact ⟨mA, ⟨od, es, ep, k _ _ (.inl rfl) e, c⟩, r⟩
  | rng lo hi => obtain ⟨t, u, v, e⟩ := x; exact ⟨t, u, v, k _ _ (.inl rfl) e⟩
  | frz ob u ih => obtain ⟨e, q⟩ := x; exact ⟨k _ _ (.inl rfl) e, ih q⟩
  | tbl ps =>
    have e : h.get? a = some { cls := .none, data := .fields ps } := x
    show h'.get? a = some { cls := .none, data := .fields ps }
    exact k a _ (.inl rfl) e
  | met f y =>
    have e : h.get? a = some (PySem.W.methodObj (.ref f) (.ref y)) := x
    show h'.get? a = some (PySem.W.methodObj (.ref f) (.ref y))
    exact k a _ (.inl rfl) e
  | ext φ => obtain ⟨p, ⟨o, e⟩, st⟩ := x; exact ⟨st _ _ p fun o q => k _ _ (.inl rfl) q, ⟨o, k _ _ (.inl rfl) e⟩, st⟩
theorem HOk.lt (x : HOk P w H h) (e : H a = some o) : a < h.objs.size := (x a o e).lt
theorem HOk.fresh (x : HOk P w H h) (e : h.objs.size ≤ a) : H a = none := by
  cases q : H a with
  | none => rfl
  | some u => exact absurd (Nat.lt_of_lt_of_le (x.lt q) e) (Nat.lt_irrefl _)
/-- every object of the heap is kept -/
theorem HOk.kept (x : HOk P w H h) (k : ∀ b u, h.get? b = some u → h'.get? b = some u) : HOk P w H h' := fun a o e =>
  (x a o e).stay (fun b u _ q => k b u q) (fun _ q => q) fun _ _ q => q
/-- a new object is laid and tracked -/
theorem HOk.laid (x : HOk P w H h) (k : ∀ b u, h.get? b = some u → h'.get? b = some u) (hp : h.objs.size ≤ a) (new : ObjOk P w (upd H a o) h' a o) : HOk P w (upd H a o) h' := fun b u e => by
  have hn := x.fresh hp
  by_cases hb : b = a
  · subst hb; rw [upd_same] at e; cases e; exact new
  · rw [upd_ne hb] at e
    exact (x b u e).stay (fun c v _ q => k c v q) (fun c q => by rw [upd_ne (ne_of_none q hn)]; exact q) fun c xs q => by rw [upd_ne (ne_of_none q hn)]; exact q
end

/-- what may be read as u: it is u, or a known u -/
noncomputable def Rd (H : Hp) (a : Addr) (u : HO) : Prop := H a = some u ∨ ∃ o, H a = some (.frz o u)
theorem Rd.of {H : Hp} {a : Addr} {u : HO} (h : H a = some u) : Rd H a u := .inl h
theorem Rd.ok {P : Program} {w : World} {H : Hp} {h : Heap} {a : Addr} {u : HO} (r : Rd H a u) (x : HOk P w H h) : ObjOk P w H h a u := by
  rcases r with r | ⟨o, r⟩
  · exact x a u r
  · obtain ⟨_, q⟩ := x a _ r
    exact q
/-- what may be written -/
noncomputable def Mut : Option HO → Prop
  | some (.lst _) => True
  | some (.dK _) => True
  | some (.dT _) => True
  | some (.set _ _) => True
  | some (.ins _ _ _) => True
  | some (.ext _) => True
  | _ => False
section
variable {P : Program} {w : World} {H : Hp} {h h' : Heap} {x e : Addr} {o' : HO}
/-- the object at e is changed: x itself, or the dict of the instance x -/
theorem HOk.write (ok : HOk P w H h) (mu : Mut (H x)) (he : e = x ∨ H e = some (.own x)) (k : ∀ b u, b ≠ e → h.get? b = some u → h'.get? b = some u) (heo : ∃ u, h'.get? e = some u)
    (new : ObjOk P w (upd H x o') h' x o') : HOk P w (upd H x o') h' := fun b u q => by
  have nown : ∀ c y, H c = some (.own y) → c ≠ x := fun c y r z => by subst z; rw [r] at mu; exact mu
  have ntup : ∀ c xs, H c = some (.tup xs) → c ≠ x := fun c xs r z => by subst z; rw [r] at mu; exact mu
  by_cases hb : b = x
  · subst hb; rw [upd_same] at q; cases q; exact new
  · rw [upd_ne hb] at q
    by_cases hbe : b = e
    · have q' : H b = some (.own x) := by
        rcases he with z | z
        · exact absurd (hbe.trans z) hb
        · rw [hbe]; exact z
      rw [q] at q'; cases q'
      obtain ⟨v, hv⟩ := heo
      exact ⟨v, by rw [hbe]; exact hv⟩
    · refine (ok b u q).stay (fun c v hc r => k c v ?_ r) (fun c r => by rw [upd_ne (nown c b r)]; exact r) fun c xs r => by rw [upd_ne (ntup c xs r)]; exact r
      rcases hc with rfl | hc
      · exact hbe
      · rintro rfl
        rcases he with z | z
        · exact nown c b hc z
        · rw [hc] at z; cases z; exact hb rfl
end

/-! ### kept unless tracked; of the frames at fs (the callers') the slots may change (an exception that passes writes there); of the records at ex (iterators) nothing is said -/
structure Un (fs ex : List Addr) (H H' : Hp) (h h' : Heap) : Prop where
  keep : ∀ b o, h.get? b = some o → H b = none → b ∉ fs → b ∉ ex → h'.get? b = some o
  slot : ∀ b o, h.get? b = some o → H b = none → b ∈ fs → b ∉ ex → ∃ sl, h'.get? b = some { o with slots := sl }
  free : ∀ b o, h.get? b = some o → H b = none → b ∉ ex → H' b = none
  there : ∀ b o, h.get? b = some o → b ∉ ex → ∃ o', h'.get? b = some o'
  tups : ∀ b xs, H b = some (.tup xs) → H' b = some (.tup xs)
  frzs : ∀ b o u, H b = some (.frz o u) → H' b = some (.frz o u)
  tbls : ∀ b ps, H b = some (.tbl ps) → ∃ more, H' b = some (.tbl (ps ++ more))
section
variable {fs fs' ex ex' : List Addr} {H H1 H2 : Hp} {h h1 h2 h' : Heap} {a x e : Addr} {o : HO}
theorem Un.any (u : Un fs ex H H1 h h1) {b : Addr} {ob : Obj} (q : h.get? b = some ob) (n : H b = none) (hx : b ∉ ex) : ∃ sl, h1.get? b = some { ob with slots := sl } := by
  by_cases hb : b ∈ fs
  · exact u.slot b ob q n hb hx
  · exact ⟨ob.slots, u.keep b ob q n hb hx⟩
theorem Un.trans (a : Un fs ex H H1 h h1) (b : Un fs ex H1 H2 h1 h2) : Un fs ex H H2 h h2 where
  keep := fun c ob q n hc hx => b.keep c ob (a.keep c ob q n hc hx) (a.free c ob q n hx) hc hx
  slot := fun c ob q n hc hx => by
    obtain ⟨sl, e1⟩ := a.slot c ob q n hc hx
    obtain ⟨sl', e2⟩ := b.slot c _ e1 (a.free c ob q n hx) hc hx
    exact ⟨sl', e2⟩
  free := fun c ob q n hx => by
    obtain ⟨o', e1⟩ := a.there c ob q hx
    exact b.free c o' e1 (a.free c ob q n hx) hx
  there := fun c ob q hx => by
    obtain ⟨o', e1⟩ := a.there c ob q hx
    exact b.there c o' e1 hx
  tups := fun c xs q => b.tups c xs (a.tups c xs q)
  frzs := fun c ob xs q => b.frzs c ob xs (a.frzs c ob xs q)
  tbls := fun c ps q => by
    obtain ⟨m1, e1⟩ := a.tbls c ps q
    obtain ⟨m2, e2⟩ := b.tbls c _ e1
    exact ⟨m1 ++ m2, by rw [e2, Array.append_assoc]⟩
theorem Un.kept (k : ∀ b u, h.get? b = some u → h'.get? b = some u) : Un fs ex H H h h' :=
  ⟨fun b ob q _ _ _ => k b ob q, fun b ob q _ _ _ => ⟨ob.slots, k b ob q⟩, fun _ _ _ n _ => n, fun b ob q _ => ⟨ob, k b ob q⟩, fun _ _ q => q, fun _ _ _ q => q, fun _ ps q => ⟨#[], by rw [q]; simp⟩⟩
theorem Un.refl : Un fs ex H H h h := Un.kept fun _ _ q => q
theorem Un.laid (k : ∀ b u, h.get? b = some u → h'.get? b = some u) (hp : h.objs.size ≤ a) (hn : H a = none) : Un fs ex H (upd H a o) h h' where
  keep := fun b u q _ _ _ => k b u q
  slot := fun b u q _ _ _ => ⟨u.slots, k b u q⟩
  free := fun b u q n _ => by rw [upd_ne (Nat.ne_of_lt (Nat.lt_of_lt_of_le (Heap.lt_size q) hp))]; exact n
  there := fun b u q _ => ⟨u, k b u q⟩
  tups := fun b xs q => by rw [upd_ne (ne_of_none q hn)]; exact q
  frzs := fun b u xs q => by rw [upd_ne (ne_of_none q hn)]; exact q
  tbls := fun b ps q => ⟨#[], by rw [upd_ne (ne_of_none q hn), q]; simp⟩
theorem Un.write (mu : Mut (H x)) (he : e = x ∨ H e = some (.own x)) (k : ∀ b u, b ≠ e → h.get? b = some u → h'.get? b = some u) (heo : ∃ u, h'.get? e = some u) : Un fs ex H (upd H x o) h h' := by
  have hx : ∀ b, H b = none → b ≠ x := fun b n z => by subst z; rw [n] at mu; exact mu
  have hb : ∀ b, H b = none → b ≠ e := fun b n z => by
    subst z
    rcases he with r | r
    · exact hx b n r
    · rw [n] at r; cases r
  have hm : ∀ b u, H b = some u → ¬ Mut (some u) → b ≠ x := fun b u q nm z => by subst z; rw [q] at mu; exact nm mu
  refine ⟨fun b u q n _ _ => k b u (hb b n) q, fun b u q n _ _ => ⟨u.slots, k b u (hb b n) q⟩, fun b u q n _ => by rw [upd_ne (hx b n)]; exact n, fun b u q _ => ?_,
    fun b xs q => by rw [upd_ne (hm b _ q fun z => z)]; exact q, fun b u xs q => by rw [upd_ne (hm b _ q fun z => z)]; exact q, fun b ps q => ⟨#[], by rw [upd_ne (hm b _ q fun z => z), q]; simp⟩⟩
  by_cases hbe : b = e
  · subst hbe; exact heo
  · exact ⟨u, k b u hbe q⟩
theorem Un.mono (u : Un fs ex H H1 h h1) (hs : ∀ b ∈ fs, b ∈ fs') (hx : ∀ b ∈ ex, b ∈ ex') : Un fs' ex' H H1 h h1 :=
  ⟨fun b ob q n hb he => u.keep b ob q n (fun z => hb (hs b z)) fun z => he (hx b z), fun _ _ q n _ he => u.any q n fun z => he (hx _ z), fun b ob q n he => u.free b ob q n fun z => he (hx b z), fun b ob q he => u.there b ob q fun z => he (hx b z), u.tups, u.frzs, u.tbls⟩
end

/-! ### the heap without what is tracked -/
noncomputable def trk (h : Heap) (H : Hp) : List Addr := (List.range h.objs.size).filter fun a => (H a).isSome
noncomputable def hidT (h : Heap) (H : Hp) : Heap := PySem.W.hideAll h (trk h H)
theorem hidT_size (h : Heap) (H : Hp) : (hidT h H).objs.size = h.objs.size := PySem.W.hideAll_size _ _
theorem hidT_get {h : Heap} {H : Hp} {b : Addr} {o : Obj} (e : h.get? b = some o) (n : H b = none) : (hidT h H).get? b = some o :=
  PySem.W.hideAll_get _ e fun hm => by
    have q : (H b).isSome = true := (List.mem_filter.mp hm).2
    rw [n] at q; simp at q
theorem of_hidT {h : Heap} {H : Hp} {b : Addr} {o : Obj} (e : (hidT h H).get? b = some o) : h.get? b = some o ∧ H b = none := by
  have e' : h.get? b = some o := PySem.W.of_hideAll (trk h H) e
  refine ⟨e', ?_⟩
  cases q : H b with
  | none => rfl
  | some x =>
    have hm : b ∈ trk h H := List.mem_filter.mpr ⟨List.mem_range.mpr (Heap.lt_size e'), by simp [q]⟩
    have z : (hidT h H).get? b = none := PySem.W.hideAll_none (trk h H) hm
    rw [z] at e; cases e

/-! ### OpenK's ledger, filled with every new object but one -/
noncomputable def allNews (g h : Heap) (L : Addr) : List (Addr × Obj) := (List.range h.objs.size).filterMap fun a => if a = L ∨ (g.get? a).isSome = true then none else (h.get? a).map fun o => (a, o)
noncomputable def rest (g h : Heap) (L d : Addr) : List (Addr × Obj) := (allNews g h L).filter fun p => decide (p.1 ≠ d)
end L2

namespace L2
open PySem PySem.Spec PyProof.Rows

/-- the module's facts, over the base: the heap at the law's entry without what is tracked there -/
structure Mod (K : PySem.W.Frag) (mg : Str → Option Value) (base : Heap) : Prop where
  kin : K.In base
  glob : base.Ns mainGlobals mg
  blt : ∃ mb, base.Ns builtinsNs mb ∧ ∀ x : Str, x ≠ "__name__" → mb x = bootBuiltins x
  nolimit : base.NoLimit

/-- the context: a def's body (or a comprehension's block) running. base: fixed through the whole law; s₀, H₀: the entry; outer: the frames whose slots others may change (a def's callers); stack: all frames that run;
   ex: iterators that were made ahead of the entry and are walked here (a comprehension's); fn: the names whose cells were made at the entry (a def: all; a comprehension's block: its own); calm: not within an except suite; pn: pins that every state bears; xe: what is wanted of an exception that leaves the code -/
structure Cx where
  prog : Program
  w : World
  K : PySem.W.Frag
  mg : Str → Option Value
  base : Heap
  A : Around
  N : List Str
  s₀ : Shared
  H₀ : Hp
  env : Env
  outer : List Env
  stack : List Env
  ex : List Addr
  fn : Str → Bool
  calm : Bool
  pn : List (Addr × Obj)
  xe : Value → Shared → Prop
/-- the callers' frames -/
noncomputable def frs (l : List Env) : List Addr := l.filterMap (·.frame)
noncomputable abbrev Cx.fs (X : Cx) : List Addr := frs X.outer

noncomputable def Vis (sc : Scope) (x : Str) : Prop := sc.names.lookup x = some .local ∨ sc.names.lookup x = some .cell ∨ sc.names.lookup x = some .free
noncomputable def Loc (sc : Scope) (x : Str) : Prop := sc.names.lookup x = some .local ∨ sc.names.lookup x = some .cell
noncomputable def Look (env : Env) (h : Heap) (m : Str → Option Value) (x : Str) (u : Value) : Prop :=
  (env.kindOf x = some .local ∧ m x = some u) ∨ ((env.kindOf x = some .cell ∨ env.kindOf x = some .free) ∧ ∃ c, env.cells.lookup x = some c ∧ h.IsCell c (some u))

structure Cx.Ok (X : Cx) : Prop where
  mod : Mod X.K X.mg X.base
  kind : X.env.scope.kind = .function
  glob : X.env.globals = mainGlobals
  blt : X.env.builtins = builtinsNs
  above : X.s₀.heap.objs.size ≤ X.env.locals
  inj : ∀ x y c, X.env.cells.lookup x = some c → X.env.cells.lookup y = some c → x = y
  has : ∀ x, (X.env.kindOf x = some .cell ∨ X.env.kindOf x = some .free) → ∃ c, X.env.cells.lookup x = some c
  cab : ∀ x c, X.fn x = true → X.env.cells.lookup x = some c → X.s₀.heap.objs.size ≤ c
  hd : X.calm = true → X.A.handled = none
  frames : X.A.frames = some X.stack
  stk : X.stack = X.outer ∨ (X.stack = X.env :: X.outer ∧ X.env.frame = some X.env.locals)
  exf : ∀ b ∈ X.ex, b ≠ X.env.locals ∧ ∀ x c, X.env.cells.lookup x = some c → c ≠ b
  bs : ∀ b o, X.base.get? b = some o → X.s₀.heap.get? b = some o ∧ X.H₀ b = none
  bsz : X.base.objs.size ≤ X.s₀.heap.objs.size
  noex : ∀ b o, X.base.get? b = some o → b ∉ X.ex
  exfs : ∀ b ∈ X.ex, b ∉ X.fs
  funs : X.s₀.heap.FunFrames X.base X.outer
  frf : ∀ b ∈ X.fs, X.H₀ b = none

structure Inv (X : Cx) (pins : List (Addr × Obj)) (σ : List (Option V)) (H : Hp) (s : Shared) : Prop where
  ok : X.Ok
  os : s.os = X.s₀.os
  bare : AllBare s.gens
  base : Un X.fs X.ex X.H₀ H X.s₀.heap s.heap
  loc : ∃ m, s.heap.Ns X.env.locals m ∧ ∀ (i : Nat) (x : Str) (v : V), X.N[i]? = some x → σ[i]? = some (some v) → Vis X.env.scope x → ∃ u, RelV v u ∧ Look X.env s.heap m x u
  cell : ∀ x c, X.env.cells.lookup x = some c → ∃ v, s.heap.IsCell c v
  free : H X.env.locals = none
  freeC : ∀ x c, X.env.cells.lookup x = some c → H c = none
  pin : ∀ p ∈ X.pn ++ pins, s.heap.get? p.1 = some p.2 ∧ H p.1 = none ∧ p.1 ≠ X.env.locals ∧ p.1 ∉ X.fs ∧ ∀ v, p.2.data ≠ .cell v
  hok : HOk X.prog X.w H s.heap
  len : σ.length = X.N.length

section
variable {X : Cx} {pins : List (Addr × Obj)} {σ : List (Option V)} {H H' : Hp} {s : Shared} {h' : Heap}

theorem Cx.Ok.nofr (ok : X.Ok) {b : Addr} {o : Obj} (e : X.base.get? b = some o) : b ∉ X.fs := fun hb => by
  have := (ok.funs.mem hb).1
  rw [e] at this; cases this
theorem Inv.bs (I : Inv X pins σ H s) : ∀ b o, X.base.get? b = some o → s.heap.get? b = some o ∧ H b = none := fun b o e =>
  ⟨I.base.keep b o (I.ok.bs b o e).1 (I.ok.bs b o e).2 (I.ok.nofr e) (I.ok.noex b o e), I.base.free b o (I.ok.bs b o e).1 (I.ok.bs b o e).2 (I.ok.noex b o e)⟩
theorem Inv.bk (I : Inv X pins σ H s) : ∀ b o, X.base.get? b = some o → s.heap.get? b = some o := fun b o e => (I.bs b o e).1
theorem Inv.mod (I : Inv X pins σ H s) : Mod X.K X.mg X.base := I.ok.mod
theorem Inv.kIn (I : Inv X pins σ H s) : X.K.In s.heap := I.ok.mod.kin.keeps I.bk
theorem Inv.nolimit (I : Inv X pins σ H s) : s.heap.NoLimit := I.ok.mod.nolimit.keeps I.bk
/-- the frame over the base: for OpenK's rules (K.In X.base is I.mod.kin) -/
theorem Inv.fr (I : Inv X pins σ H s) : ∃ m, Fr X.base X.env.locals s.heap m :=
  let ⟨m, hn, _⟩ := I.loc
  ⟨m, hn, I.bk, Nat.le_trans I.ok.bsz I.ok.above⟩
theorem Inv.lt (I : Inv X pins σ H s) : X.env.locals < s.heap.objs.size := let ⟨_, hn, _⟩ := I.loc; hn.lt
theorem Inv.sz (I : Inv X pins σ H s) : X.s₀.heap.objs.size ≤ s.heap.objs.size := Nat.le_trans I.ok.above (Nat.le_of_lt I.lt)
theorem Inv.nofs (I : Inv X pins σ H s) {a : Addr} (h : s.heap.objs.size ≤ a) : a ∉ X.fs := fun hb => by
  obtain ⟨_, o, ho, _⟩ := I.ok.funs.mem hb
  exact absurd (Nat.lt_of_lt_of_le (Heap.lt_size ho) (Nat.le_trans I.sz h)) (Nat.lt_irrefl _)
theorem Inv.cne (I : Inv X pins σ H s) : ∀ x c, X.env.cells.lookup x = some c → c ≠ X.env.locals := fun x c e z => by
  obtain ⟨v, o, ho, hd⟩ := I.cell x c e
  obtain ⟨m, ⟨o', es, ep, ho', hd', _⟩, _⟩ := I.loc
  rw [z, ho'] at ho; cases ho; rw [hd'] at hd; cases hd
theorem Inv.funs (I : Inv X pins σ H s) : s.heap.FunFrames X.base X.outer := by
  have all : ∀ (l : List Env), (∀ b ∈ frs l, b ∈ X.fs) → X.s₀.heap.FunFrames X.base l → s.heap.FunFrames X.base l := by
    intro l
    induction l with
    | nil => intro _ _; trivial
    | cons env r ih =>
      intro hs hl
      obtain ⟨hk, ⟨L, o, hf, hn, ho, hd⟩, hr⟩ := hl
      have hL : L ∈ X.fs := hs L (by unfold frs; rw [List.filterMap_cons, hf]; exact List.mem_cons_self)
      obtain ⟨sl, e⟩ := I.base.slot L o ho (I.ok.frf L hL) hL fun z => I.ok.exfs L z hL
      exact ⟨hk, ⟨L, _, hf, hn, e, hd⟩, ih (fun b hb => hs b (by unfold frs; rw [List.filterMap_cons, hf]; exact List.mem_cons_of_mem _ hb)) hr⟩
  exact all X.outer (fun _ hb => hb) I.ok.funs

/-- the frames that run, for a call -/
theorem Inv.stack (I : Inv X pins σ H s) : s.heap.FunFrames X.base X.stack := by
  rcases I.ok.stk with e | ⟨e, hf⟩
  · rw [e]; exact I.funs
  · rw [e]
    obtain ⟨m, hn, _⟩ := I.loc
    refine .cons (by rw [I.ok.kind]; decide) hf hn ?_ I.funs
    exact Heap.get?_none_of_le (Nat.le_trans I.ok.bsz I.ok.above)
theorem Inv.stkSub (I : Inv X pins σ H s) : ∀ b ∈ frs X.stack, b ∈ X.env.locals :: X.fs := fun b hb => by
  rcases I.ok.stk with e | ⟨e, hf⟩
  · rw [e] at hb; exact List.mem_cons_of_mem _ hb
  · rw [e] at hb
    unfold frs at hb
    rw [List.filterMap_cons, hf] at hb
    exact hb
theorem Inv.stkFree (I : Inv X pins σ H s) : ∀ b ∈ frs X.stack, H b = none := fun b hb => by
  rcases List.mem_cons.mp (I.stkSub b hb) with e | hb
  · rw [e]; exact I.free
  · obtain ⟨_, o, ho, _⟩ := I.ok.funs.mem hb
    exact I.base.free b o ho (I.ok.frf b hb) fun z => I.ok.exfs b z hb

/-- THE STEP: the untracked objects but the frame and the records at ch are kept (the callers' frames up to slots), the frame's map is kept, the new abstract heap is held -/
theorem Inv.step {g' : Array GenState} {t' : Nat} {d' : Drawn} {ch : List Addr} (I : Inv X pins σ H s)
    (hch : ∀ b ∈ ch, (b ∈ X.ex ∨ X.s₀.heap.objs.size ≤ b) ∧ b ≠ X.env.locals ∧ (∀ x c, X.env.cells.lookup x = some c → c ≠ b) ∧ ∀ p ∈ X.pn ++ pins, p.1 ≠ b)
    (keep : ∀ b o, b ≠ X.env.locals → b ∉ X.fs → b ∉ ch → s.heap.get? b = some o → H b = none → h'.get? b = some o)
    (slot : ∀ b o, b ≠ X.env.locals → b ∈ X.fs → b ∉ ch → s.heap.get? b = some o → H b = none → ∃ sl, h'.get? b = some { o with slots := sl }) (free : ∀ b o, b ∉ ch → s.heap.get? b = some o → H b = none → H' b = none)
    (there : ∀ b o, b ∉ ch → s.heap.get? b = some o → ∃ o', h'.get? b = some o')
    (tups : ∀ b xs, H b = some (.tup xs) → H' b = some (.tup xs)) (frzs : ∀ b o u, H b = some (.frz o u) → H' b = some (.frz o u)) (tbls : ∀ b ps, H b = some (.tbl ps) → ∃ more, H' b = some (.tbl (ps ++ more)))
    (ns : ∀ m, s.heap.Ns X.env.locals m → h'.Ns X.env.locals m) (hok : HOk X.prog X.w H' h') (hg : AllBare g') :
    Inv X pins σ H' { s with heap := h', gens := g', drawn := d', toks := t' } := by
  have neL : ∀ b o, X.s₀.heap.get? b = some o → b ≠ X.env.locals := fun b o e => Nat.ne_of_lt (Nat.lt_of_lt_of_le (Heap.lt_size e) I.ok.above)
  have neC : ∀ b o, X.s₀.heap.get? b = some o → b ∉ X.ex → b ∉ ch := fun b o e hx hb => by
    rcases (hch b hb).1 with z | z
    · exact hx z
    · exact absurd (Nat.lt_of_lt_of_le (Heap.lt_size e) z) (Nat.lt_irrefl _)
  have cellK : ∀ x c, X.env.cells.lookup x = some c → ∀ v, s.heap.IsCell c v → h'.IsCell c v := fun x c e v ⟨o, ho, hd⟩ => by
    have nch : c ∉ ch := fun z => (hch c z).2.2.1 x c e rfl
    by_cases hc : c ∈ X.fs
    · obtain ⟨sl, q⟩ := slot c o (I.cne x c e) hc nch ho (I.freeC x c e)
      exact ⟨_, q, hd⟩
    · exact ⟨o, keep c o (I.cne x c e) hc nch ho (I.freeC x c e), hd⟩
  refine ⟨I.ok, I.os, hg, ⟨fun b o e n hb hx => ?_, fun b o e n hb hx => ?_, fun b o e n hx => ?_, fun b o e hx => ?_, fun b xs e => tups b xs (I.base.tups b xs e), fun b o xs e => frzs b o xs (I.base.frzs b o xs e), fun b ps e => ?_⟩, ?_, fun x c e => ?_, ?_, fun x c e => ?_, fun p hp => ?_, hok, I.len⟩
  · exact keep b o (neL b o e) hb (neC b o e hx) (I.base.keep b o e n hb hx) (I.base.free b o e n hx)
  · obtain ⟨sl, e1⟩ := I.base.slot b o e n hb hx
    obtain ⟨sl', e2⟩ := slot b _ (neL b o e) hb (neC b o e hx) e1 (I.base.free b o e n hx)
    exact ⟨sl', e2⟩
  · obtain ⟨o', e1⟩ := I.base.there b o e hx
    exact free b o' (neC b o e hx) e1 (I.base.free b o e n hx)
  · obtain ⟨o', e1⟩ := I.base.there b o e hx
    exact there b o' (neC b o e hx) e1
  · obtain ⟨m1, e1⟩ := I.base.tbls b ps e
    obtain ⟨m2, e2⟩ := tbls b _ e1
    exact ⟨m1 ++ m2, by rw [e2, Array.append_assoc]⟩
  · obtain ⟨m, hn, hl⟩ := I.loc
    refine ⟨m, ns m hn, fun i x v e1 e2 e3 => ?_⟩
    obtain ⟨u, r, l⟩ := hl i x v e1 e2 e3
    refine ⟨u, r, ?_⟩
    rcases l with l | ⟨k, c, e, z⟩
    · exact .inl l
    · exact .inr ⟨k, c, e, cellK x c e _ z⟩
  · obtain ⟨v, z⟩ := I.cell x c e
    exact ⟨v, cellK x c e v z⟩
  · obtain ⟨m, ⟨o, _, _, ho, _⟩, _⟩ := I.loc
    exact free _ o (fun z => (hch _ z).2.1 rfl) ho I.free
  · obtain ⟨v, o, ho, hd⟩ := I.cell x c e
    exact free c o (fun z => (hch c z).2.2.1 x c e rfl) ho (I.freeC x c e)
  · obtain ⟨e, n, ne, nf, d⟩ := I.pin p hp
    have nch : p.1 ∉ ch := fun z => (hch p.1 z).2.2.2 p hp rfl
    exact ⟨keep p.1 p.2 ne nf nch e n, free p.1 p.2 nch e n, ne, nf, d⟩
/-- .. where the frame's own object is kept too -/
theorem Inv.un {t' : Nat} (I : Inv X pins σ H s) (u : Un X.fs [] H H' s.heap h') (hok : HOk X.prog X.w H' h') : Inv X pins σ H' { s with heap := h', toks := t' } := by
  obtain ⟨m, ⟨o, es, ep, ho, r⟩, _⟩ := id I.loc
  obtain ⟨sl, hL⟩ := u.any ho I.free (by simp)
  exact I.step (g' := s.gens) (d' := s.drawn) (ch := []) (fun _ z => nomatch z) (fun b o _ hb _ e n => u.keep b o e n hb (by simp)) (fun b o _ hb _ e n => u.slot b o e n hb (by simp)) (fun b o _ e n => u.free b o e n (by simp)) (fun b o _ e => u.there b o e (by simp)) u.tups u.frzs u.tbls (fun m' hm => by
    obtain ⟨o', es', ep', ho', r'⟩ := hm
    rw [ho] at ho'; cases ho'
    exact ⟨_, es', ep', hL, r'⟩) hok I.bare
/-- behind a call (or a comprehension's block): the slots of this frame may have changed too, the records at ch may have turned -/
theorem Inv.call {g' : Array GenState} {t' : Nat} {d' : Drawn} {ch : List Addr} (I : Inv X pins σ H s) (u : Un (frs X.stack) ch H H' s.heap h') (hok : HOk X.prog X.w H' h') (hg : AllBare g')
    (hch : ∀ b ∈ ch, (b ∈ X.ex ∨ X.s₀.heap.objs.size ≤ b) ∧ b ≠ X.env.locals ∧ (∀ x c, X.env.cells.lookup x = some c → c ≠ b) ∧ ∀ p ∈ X.pn ++ pins, p.1 ≠ b) :
    Inv X pins σ H' { s with heap := h', gens := g', drawn := d', toks := t' } := by
  obtain ⟨m, ⟨o, es, ep, ho, r⟩, _⟩ := id I.loc
  obtain ⟨sl, hL⟩ := u.any ho I.free fun z => (hch _ z).2.1 rfl
  exact I.step (ch := ch) hch (fun b o hL hb hc e n => u.keep b o e n (fun z => (List.mem_cons.mp (I.stkSub b z)).elim hL hb) hc) (fun b o _ _ hc e n => u.any e n hc) (fun b o hc e n => u.free b o e n hc) (fun b o hc e => u.there b o e hc) u.tups u.frzs u.tbls (fun m' hm => by
    obtain ⟨o', es', ep', ho', r'⟩ := hm
    rw [ho] at ho'; cases ho'
    exact ⟨_, es', ep', hL, r'⟩) hok hg
/-- an untracked record of ours (an iterator) has turned -/
theorem Inv.turned {t' : Nat} {it : Addr} (I : Inv X pins σ H s) (k : ∀ b o, b ≠ it → s.heap.get? b = some o → h'.get? b = some o) (hn : H it = none) (hL : it ≠ X.env.locals)
    (h1 : it ∈ X.ex ∨ X.s₀.heap.objs.size ≤ it) (h2 : ∀ x c, X.env.cells.lookup x = some c → c ≠ it) (h3 : ∀ p ∈ X.pn ++ pins, p.1 ≠ it) : Inv X pins σ H { s with heap := h', toks := t' } := by
  have nit : ∀ b u, H b = some u → b ≠ it := fun b u e z => by rw [z, hn] at e; cases e
  refine I.step (g' := s.gens) (d' := s.drawn) (ch := [it]) (fun b hb => ?_) (fun b o _ _ hc e _ => k b o (fun z => hc (by simp [z])) e) (fun b o _ _ hc e _ => ⟨o.slots, k b o (fun z => hc (by simp [z])) e⟩) (fun _ _ _ _ n => n)
    (fun b o hc e => ⟨o, k b o (fun z => hc (by simp [z])) e⟩) (fun _ _ e => e) (fun _ _ _ e => e) (fun b ps e => ⟨#[], by rw [e]; simp⟩) (fun m hm => ?_) (fun b u e => ?_) I.bare
  · have e : b = it := by simpa using hb
    subst e
    exact ⟨h1, hL, h2, h3⟩
  · obtain ⟨o, es, ep, ho, r⟩ := hm
    exact ⟨o, es, ep, k _ o (Ne.symm hL) ho, r⟩
  · refine (I.hok b u e).stay (fun c v hc q => k c v ?_ q) (fun _ q => q) fun _ _ q => q
    rcases hc with z | z
    · rw [z]; exact nit b u e
    · exact nit c _ z
theorem Inv.tok (I : Inv X pins σ H s) (t : Nat) : Inv X pins σ H { s with toks := t } := I.un (h' := s.heap) (t' := t) Un.refl I.hok
/-- all objects kept -/
theorem Inv.kept {t' : Nat} (I : Inv X pins σ H s) (k : ∀ b u, s.heap.get? b = some u → h'.get? b = some u) : Inv X pins σ H { s with heap := h', toks := t' } := I.un (Un.kept k) (I.hok.kept k)
/-- a new object laid and tracked -/
theorem Inv.laid {a : Addr} {o : HO} {t' : Nat} (I : Inv X pins σ H s) (k : ∀ b u, s.heap.get? b = some u → h'.get? b = some u) (hp : s.heap.objs.size ≤ a) (new : ObjOk X.prog X.w (upd H a o) h' a o) :
    Inv X pins σ (upd H a o) { s with heap := h', toks := t' } := I.un (Un.laid k hp (I.hok.fresh hp)) (I.hok.laid k hp new)
/-- an object written -/
theorem Inv.write {x e : Addr} {o : HO} {t' : Nat} (I : Inv X pins σ H s) (mu : Mut (H x)) (he : e = x ∨ H e = some (.own x)) (k : ∀ b u, b ≠ e → s.heap.get? b = some u → h'.get? b = some u) (heo : ∃ u, h'.get? e = some u)
    (new : ObjOk X.prog X.w (upd H x o) h' x o) : Inv X pins σ (upd H x o) { s with heap := h', toks := t' } := I.un (Un.write mu he k heo) (I.hok.write mu he k heo new)
theorem Inv.pins_of {pins' : List (Addr × Obj)} (I : Inv X pins σ H s) (h : ∀ p ∈ pins', s.heap.get? p.1 = some p.2 ∧ H p.1 = none ∧ p.1 ≠ X.env.locals ∧ p.1 ∉ X.fs ∧ ∀ v, p.2.data ≠ .cell v) : Inv X pins' σ H s :=
  ⟨I.ok, I.os, I.bare, I.base, I.loc, I.cell, I.free, I.freeC, fun p hp => (List.mem_append.mp hp).elim (fun z => I.pin p (List.mem_append_left _ z)) (h p), I.hok, I.len⟩

theorem nodup_ix {N : List Str} (hN : N.Nodup) {i j : Nat} {x : Str} (a : N[i]? = some x) (b : N[j]? = some x) : i = j := by
  obtain ⟨h1, e1⟩ := List.getElem?_eq_some_iff.mp a
  obtain ⟨h2, e2⟩ := List.getElem?_eq_some_iff.mp b
  exact (List.getElem_inj hN).mp (e1.trans e2.symm)

/-- a name is stored; what changed -/
theorem store_ok2 {M : Model} {A : Around} {E : Value → Shared → Prop} {i : Nat} {x : Str} {v : V} {u : Value} {Q : Unit → Shared → Prop} (I : Inv X pins σ H s) (hN : X.N.Nodup) (hi : X.N[i]? = some x) (hx : Loc X.env.scope x) (r : RelV v u)
    (h : ∀ s', Inv X pins (σ.set i (some v)) H s' → (∃ a, Heap.SameBut a s.heap s'.heap ∧ (a = X.env.locals ∨ X.env.cells.lookup x = some a)) → Q () s') (hf : X.fn x = true ∨ X.env.scope.names.lookup x = some .local := by first | exact .inl rfl | exact .inr rfl | assumption) : wpAny M A (storeName X.env x u) Q E s := by
  obtain ⟨m, hn, hl⟩ := id I.loc
  have hcls : (X.env.scope.kind == .class || (X.env.scope.kind == .module && X.env.locals != X.env.globals)) = false := by rw [I.ok.kind]; rfl
  have hiσ : i < σ.length := by rw [I.len]; exact (List.getElem?_eq_some_iff.mp hi).1
  have cne := I.cne
  have tracked : ∀ {a : Addr} {h' : Heap}, (∃ o, s.heap.get? a = some o ∧ H a = none) → Heap.SameBut a s.heap h' → HOk X.prog X.w H h' := fun {a h'} ha hs b ob e => by
    obtain ⟨_, _, hfree⟩ := ha
    refine (I.hok b ob e).stay (fun c w' hc q => (hs.2 c ?_).trans q) (fun _ q => q) fun _ _ q => q
    rintro rfl
    rcases hc with rfl | hc
    · rw [hfree] at e; cases e
    · rw [hfree] at hc; cases hc
  rcases hx with hk | hk
  · refine wpAny_storeName_local hk hn (fun h' hn' hs => ?_) hcls
    obtain ⟨oL, _, _, hoL, _⟩ := id hn
    refine h _ ⟨I.ok, I.os, I.bare, ⟨fun b o e n hb hx => ?_, fun b o e n hb hx => ?_, I.base.free, fun b o e hx => ?_, I.base.tups, I.base.frzs, I.base.tbls⟩, ⟨_, hn', fun j y v' e1 e2 e3 => ?_⟩, fun y c e => ?_, I.free, I.freeC, fun p hp => ?_, tracked ⟨oL, hoL, I.free⟩ hs, by simpa using I.len⟩ ⟨_, hs, .inl rfl⟩
    · exact (hs.2 b (Nat.ne_of_lt (Nat.lt_of_lt_of_le (Heap.lt_size e) I.ok.above))).trans (I.base.keep b o e n hb hx)
    · obtain ⟨sl, e1⟩ := I.base.slot b o e n hb hx
      exact ⟨sl, (hs.2 b (Nat.ne_of_lt (Nat.lt_of_lt_of_le (Heap.lt_size e) I.ok.above))).trans e1⟩
    · obtain ⟨o', e1⟩ := I.base.there b o e hx
      exact ⟨o', (hs.2 b (Nat.ne_of_lt (Nat.lt_of_lt_of_le (Heap.lt_size e) I.ok.above))).trans e1⟩
    · by_cases hj : j = i
      · subst hj
        rw [hi] at e1; cases e1
        rw [List.getElem?_set_self hiσ] at e2
        cases e2
        exact ⟨u, r, .inl ⟨hk, by simp⟩⟩
      · rw [List.getElem?_set_ne (Ne.symm hj)] at e2
        obtain ⟨u', r', q⟩ := hl j y v' e1 e2 e3
        refine ⟨u', r', ?_⟩
        rcases q with ⟨k, e⟩ | ⟨k, c, e, z⟩
        · refine .inl ⟨k, ?_⟩
          have : y ≠ x := fun e => hj (nodup_ix hN e1 (e ▸ hi))
          simp [this, e]
        · exact .inr ⟨k, c, e, z.sameBut hs (cne y c e)⟩
    · obtain ⟨w', z⟩ := I.cell y c e
      exact ⟨w', z.sameBut hs (cne y c e)⟩
    · obtain ⟨e, n, ne, nf, d⟩ := I.pin p hp
      exact ⟨(hs.2 p.1 ne).trans e, n, ne, nf, d⟩
  · have hfn : X.fn x = true := by
      rcases hf with z | z
      · exact z
      · rw [z] at hk; cases hk
    obtain ⟨c, hc⟩ := I.ok.has x (.inl hk)
    obtain ⟨w', z⟩ := I.cell x c hc
    refine wpAny_storeName_cell I.ok.kind hk hc z (fun h' hc' hs => ?_)
    obtain ⟨oc, hoc, hocd⟩ := id z
    refine h { s with heap := h' } ⟨I.ok, I.os, I.bare, ⟨fun b o e n hb hx => ?_, fun b o e n hb hx => ?_, I.base.free, fun b o e hx => ?_, I.base.tups, I.base.frzs, I.base.tbls⟩, ⟨m, hn.sameBut hs (Ne.symm (cne x c hc)), fun j y v' e1 e2 e3 => ?_⟩, fun y c' e => ?_, I.free, I.freeC, fun p hp => ?_, tracked ⟨oc, hoc, I.freeC x c hc⟩ hs, by simpa using I.len⟩ ⟨c, hs, .inr hc⟩
    · exact (hs.2 b (Nat.ne_of_lt (Nat.lt_of_lt_of_le (Heap.lt_size e) (I.ok.cab x c hfn hc)))).trans (I.base.keep b o e n hb hx)
    · obtain ⟨sl, e1⟩ := I.base.slot b o e n hb hx
      exact ⟨sl, (hs.2 b (Nat.ne_of_lt (Nat.lt_of_lt_of_le (Heap.lt_size e) (I.ok.cab x c hfn hc)))).trans e1⟩
    · obtain ⟨o', e1⟩ := I.base.there b o e hx
      exact ⟨o', (hs.2 b (Nat.ne_of_lt (Nat.lt_of_lt_of_le (Heap.lt_size e) (I.ok.cab x c hfn hc)))).trans e1⟩
    · by_cases hj : j = i
      · subst hj
        rw [hi] at e1; cases e1
        rw [List.getElem?_set_self hiσ] at e2
        cases e2
        exact ⟨u, r, .inr ⟨.inl hk, c, hc, hc'⟩⟩
      · rw [List.getElem?_set_ne (Ne.symm hj)] at e2
        obtain ⟨u', r', q⟩ := hl j y v' e1 e2 e3
        refine ⟨u', r', ?_⟩
        rcases q with q | ⟨k, c', e, z'⟩
        · exact .inl q
        · refine .inr ⟨k, c', e, z'.sameBut hs ?_⟩
          rintro rfl
          exact hj (nodup_ix hN e1 (I.ok.inj _ _ _ e hc ▸ hi))
    · by_cases hcc : c' = c
      · subst hcc; exact ⟨_, hc'⟩
      · obtain ⟨w2, z2⟩ := I.cell y c' e
        exact ⟨w2, z2.sameBut hs hcc⟩
    · obtain ⟨e, n, ne, nf, d⟩ := I.pin p hp
      refine ⟨(hs.2 p.1 ?_).trans e, n, ne, nf, d⟩
      intro q
      rw [q, hoc] at e
      have q' : oc = p.2 := Option.some.inj e
      exact d w' (by rw [← q']; exact hocd)
theorem store_ok {M : Model} {A : Around} {E : Value → Shared → Prop} {i : Nat} {x : Str} {v : V} {u : Value} {Q : Unit → Shared → Prop} (I : Inv X pins σ H s) (hN : X.N.Nodup) (hi : X.N[i]? = some x) (hx : Loc X.env.scope x) (r : RelV v u)
    (h : ∀ s', Inv X pins (σ.set i (some v)) H s' → Q () s') (hf : X.fn x = true ∨ X.env.scope.names.lookup x = some .local := by first | exact .inl rfl | exact .inr rfl | assumption) : wpAny M A (storeName X.env x u) Q E s :=
  store_ok2 I hN hi hx r (fun s' I' _ => h s' I') hf
/-- behind a call or a block, the state as it is -/
theorem Inv.call' {s' : Shared} {ch : List Addr} (I : Inv X pins σ H s) (ho : s'.os = s.os) (u : Un (frs X.stack) ch H H' s.heap s'.heap) (hok : HOk X.prog X.w H' s'.heap) (hg : AllBare s'.gens)
    (hch : ∀ b ∈ ch, (b ∈ X.ex ∨ X.s₀.heap.objs.size ≤ b) ∧ b ≠ X.env.locals ∧ (∀ x c, X.env.cells.lookup x = some c → c ≠ b) ∧ ∀ p ∈ X.pn ++ pins, p.1 ≠ b) : Inv X pins σ H' s' := by
  obtain ⟨h', g', d', t', o'⟩ := s'
  have e : o' = s.os := ho
  subst e
  exact I.call (g' := g') (t' := t') (d' := d') u hok hg hch
end

/-! ### the judgements -/
/-- an exception: its class, its own dict's address (where it has one), the abstract heap behind it -/
noncomputable abbrev XK := Value → Option Addr → Hp → Prop
noncomputable abbrev St := List (Option V)
noncomputable abbrev VK := V → Hp → Prop
/-- an expression's reading; a test's; an argument list's -/
noncomputable abbrev TE := St → Hp → VK → Prop
noncomputable abbrev TT := St → Hp → (Bool → Hp → Prop) → Prop
noncomputable abbrev TA := St → Hp → (List V → Hp → Prop) → Prop
/-- what is wanted behind a statement -/
structure Ends where
  nx : St → Hp → Prop
  rt : VK
  bk : St → Hp → Prop := fun _ _ => False
  ct : St → Hp → Prop := fun _ _ => False
noncomputable abbrev TS := Ends → St → Hp → Prop

noncomputable def EP (X : Cx) (pins : List (Addr × Obj)) (σ : St) (Q : VK) (u : Value) (s' : Shared) : Prop := ∃ v H', Inv X pins σ H' s' ∧ RelV v u ∧ Q v H'
noncomputable def TP (X : Cx) (pins : List (Addr × Obj)) (σ : St) (Q : Bool → Hp → Prop) (b : Bool) (s' : Shared) : Prop := ∃ H', Inv X pins σ H' s' ∧ Q b H'
noncomputable def AP (X : Cx) (pins : List (Addr × Obj)) (σ : St) (Q : List V → Hp → Prop) (us : List Value) (s' : Shared) : Prop := ∃ vs H', Inv X pins σ H' s' ∧ Vals vs us ∧ Q vs H'
noncomputable def SP (X : Cx) (pins : List (Addr × Obj)) (D : Ends) (f : Flow) (s' : Shared) : Prop :=
  match f with
  | .next => ∃ σ' H', Inv X pins σ' H' s' ∧ D.nx σ' H'
  | .brk => ∃ σ' H', Inv X pins σ' H' s' ∧ D.bk σ' H'
  | .cont => ∃ σ' H', Inv X pins σ' H' s' ∧ D.ct σ' H'
  | .ret u => ∃ v σ' H', Inv X pins σ' H' s' ∧ RelV v u ∧ D.rt v H'

noncomputable def PE (X : Cx) (e : Expr) (t : TE) : Prop :=
  ∀ (pins : List (Addr × Obj)) (s : Shared) (σ : St) (H : Hp) (Q : VK), Inv X pins σ H s → t σ H Q → wpAny (model X.prog X.w) X.A (eval e X.env) (EP X pins σ Q) X.xe s
noncomputable def PT (X : Cx) (e : Expr) (t : TT) : Prop :=
  ∀ (pins : List (Addr × Obj)) (s : Shared) (σ : St) (H : Hp) (Q : Bool → Hp → Prop), Inv X pins σ H s → t σ H Q → wpAny (model X.prog X.w) X.A (isTrue e X.env (eval e X.env)) (TP X pins σ Q) X.xe s
/-- a test whatever its 'whole' is (and, or) -/
noncomputable def PW (X : Cx) (e : Expr) (t : TT) : Prop :=
  ∀ (whole : Sem Value) (pins : List (Addr × Obj)) (s : Shared) (σ : St) (H : Hp) (Q : Bool → Hp → Prop), Inv X pins σ H s → t σ H Q → wpAny (model X.prog X.w) X.A (isTrue e X.env whole) (TP X pins σ Q) X.xe s
theorem PW.pt {X : Cx} {e : Expr} {t : TT} (h : PW X e t) : PT X e t := h _
/-- an argument list (no star), from the left -/
noncomputable def PA (X : Cx) (es : List Expr) (t : TA) : Prop :=
  ∀ (pos : Pos) (pins : List (Addr × Obj)) (s : Shared) (σ : St) (H : Hp) (Q : List V → Hp → Prop), Inv X pins σ H s → t σ H Q → wpAny (model X.prog X.w) X.A (spliced (backTo pos (starEach es X.env))) (AP X pins σ Q) X.xe s
noncomputable def PS (X : Cx) (st : Stmt) (t : TS) : Prop :=
  ∀ (pins : List (Addr × Obj)) (s : Shared) (σ : St) (H : Hp) (D : Ends), Inv X pins σ H s → t D σ H → wpAny (model X.prog X.w) X.A (exec st X.env) (SP X pins D) X.xe s
noncomputable def PSs (X : Cx) (st : List Stmt) (t : TS) : Prop :=
  ∀ (pins : List (Addr × Obj)) (s : Shared) (σ : St) (H : Hp) (D : Ends), Inv X pins σ H s → t D σ H → wpAny (model X.prog X.w) X.A (execs st X.env) (SP X pins D) X.xe s
/-- weaken the end -/
theorem thn {α : Type} {t : Sem α} {Q Q' : α → Shared → Prop} {M : Model} {A : Around} {E : Value → Shared → Prop} {s : Shared} (h : wpAny M A t Q E s) (hQ : ∀ a s, Q a s → Q' a s) : wpAny M A t Q' E s := wpAny_mono h hQ fun _ _ x => x
end L2

namespace L2
open PySem PySem.Spec PyProof.Rows
section
variable {X : Cx}

/-! ### names and constants -/
noncomputable def tVar (i : Nat) : TE := fun σ H Q => ∃ v, σ[i]? = some (some v) ∧ Q v H
noncomputable def tC (v : V) : TE := fun _ H Q => Q v H
theorem pe_var {i : Nat} {x : Str} {pos : Pos} (hN : X.N[i]? = some x) (hv : Vis X.env.scope x) (hd : (x == ("__debug__" : Str)) = false := by decide) (hcd : (x == ("__classdict__" : Str)) = false := by decide) : PE X (.Name x pos) (tVar i) := by
  intro pins s σ H Q I h
  obtain ⟨v, e, h⟩ := h
  obtain ⟨m, hn, hl⟩ := I.loc
  obtain ⟨u, r, l⟩ := hl i x v hN e hv
  have fin : EP X pins σ Q u s := ⟨v, H, I, r, h⟩
  rcases l with ⟨hk, hm⟩ | ⟨hk, c, hc, hcell⟩
  · exact wpAny_Name (wpAny_loadName_local I.ok.kind hk hn hm fin) hd
  · rcases hk with hk | hk
    · exact wpAny_Name (wpAny_loadName_cell I.ok.kind hk hc hcell fin) hd
    · exact wpAny_Name (wpAny_loadName_free I.ok.kind hk hc hcell fin hcd) hd
theorem pe_int {i j pos} : PE X (.Constant (.int i) j pos) (tC (.int i)) := fun _ _ _ H _ I h => wpAny_Constant_int ⟨.int i, H, I.tok _, ⟨_, rfl⟩, h⟩
theorem pe_bl {b j pos} : PE X (.Constant (.bool b) j pos) (tC (.bl b)) := fun _ _ _ H _ I h => Constant_bool ⟨.bl b, H, I, rfl, h⟩
theorem pe_non {j pos} : PE X (.Constant .none j pos) (tC .non) := fun _ _ _ H _ I h => Constant_none ⟨.non, H, I, rfl, h⟩
theorem pe_str {x j pos} : PE X (.Constant (.str x) j pos) (tC (.str x)) := fun _ _ _ H _ I h => Calls.Constant_str ⟨.str x, H, I.tok _, ⟨_, rfl⟩, h⟩

/-- a global name of the def -/
noncomputable def Gl (X : Cx) (x : Str) : Prop := X.env.kindOf x = some .globalImplicit
theorem ld_glob {E : Value → Shared → Prop} {pins : List (Addr × Obj)} {s : Shared} {σ : St} {H : Hp} {x : Str} {u : Value} {pos : Pos} {Q : Value → Shared → Prop} (I : Inv X pins σ H s) (hg : Gl X x) (hm : X.mg x = some u) (h : Q u s)
    (hd : (x == ("__debug__" : Str)) = false := by decide) : wpAny (model X.prog X.w) X.A (eval (.Name x pos) X.env) Q E s :=
  Calls.Name_function_global I.ok.kind hg (Calls.loadGlobal_global (by rw [I.ok.glob]; exact I.mod.glob.keeps I.bk) hm h) hd
theorem ld_blt {E : Value → Shared → Prop} {pins : List (Addr × Obj)} {s : Shared} {σ : St} {H : Hp} {x : Str} {u : Value} {pos : Pos} {Q : Value → Shared → Prop} (I : Inv X pins σ H s) (hg : Gl X x) (hm : X.mg x = none) (hv : bootBuiltins x = some u) (h : Q u s)
    (hn : x ≠ "__name__" := by decide) (hd : (x == ("__debug__" : Str)) = false := by decide) : wpAny (model X.prog X.w) X.A (eval (.Name x pos) X.env) Q E s := by
  obtain ⟨mb, h1, h2⟩ := I.mod.blt
  exact Calls.Name_function_global I.ok.kind hg (Calls.loadGlobal_builtin (by rw [I.ok.glob]; exact I.mod.glob.keeps I.bk) hm (by rw [I.ok.blt]; exact h1.keeps I.bk) ((h2 x hn).trans hv) h) hd
/-- a module's constant, a class, a function, as a value -/
theorem pe_glob {x : Str} {v : V} {u : Value} {pos : Pos} (hg : Gl X x) (hm : X.mg x = some u) (r : RelV v u) (hd : (x == ("__debug__" : Str)) = false := by decide) : PE X (.Name x pos) (tC v) :=
  fun _ _ _ H _ I h => ld_glob I hg hm ⟨v, H, I, r, h⟩ hd
theorem pe_bltn {x : Str} {v : V} {u : Value} {pos : Pos} (hg : Gl X x) (hm : X.mg x = none) (hv : bootBuiltins x = some u) (r : RelV v u) (hn : x ≠ "__name__" := by decide) (hd : (x == ("__debug__" : Str)) = false := by decide) : PE X (.Name x pos) (tC v) :=
  fun _ _ _ H _ I h => ld_blt I hg hm hv ⟨v, H, I, r, h⟩ hn hd

/-! ### arithmetic -/
variable {a b : Expr} {ta tb : TE} {pos : Pos}
/-! ### comparisons -/
/-- a comparison as a value, as a test -/
noncomputable def tB (t : TE) : TT := fun σ H Q => t σ H fun x H1 => ∃ c, x = .bl c ∧ Q c H1
/-- an expression whose value is a bool, as a test -/
theorem pt_val {e : Expr} {t : TE} (h : PE X e t) (he : ∀ whole, isTrue e X.env whole = (do let v ← whole; standAt e.pos; holding [v] (truthy v)) := by intro _; rfl) : PT X e (tB t) := by
  intro pins s σ H Q I hw
  refine isTrue_plain (thn (h pins s σ H _ I hw) fun v s1 ⟨x, H1, I1, r1, q1⟩ => ?_) (he _)
  obtain ⟨d, rfl, q⟩ := q1
  cases r1
  exact wpAny_truthy_bool ⟨H1, I1, q⟩

/-! ### and, or, not -/
variable {tA tB' : TT} {rest : List Expr}
noncomputable def tAnd (t u : TT) : TT := fun σ H Q => t σ H fun c H1 => if c = true then u σ H1 Q else Q false H1
noncomputable def tOr (t u : TT) : TT := fun σ H Q => t σ H fun c H1 => if c = true then Q true H1 else u σ H1 Q
noncomputable def tNot (t : TT) : TT := fun σ H Q => t σ H fun c H1 => Q (!c) H1
theorem pw_and1 (ha : PT X a tA) : PW X (.BoolOp .And [a] pos) tA := by
  intro wh pins s σ H Q I h
  refine isTrue_and (thn (ha pins s σ H Q I h) fun c s1 e => ?_)
  cases c with
  | true => exact isTrue_and_nil e
  | false => exact e
theorem pw_or1 (ha : PT X a tA) : PW X (.BoolOp .Or [a] pos) tA := by
  intro wh pins s σ H Q I h
  refine isTrue_or (thn (ha pins s σ H Q I h) fun c s1 e => ?_)
  cases c with
  | false => exact isTrue_or_nil e
  | true => exact e
theorem pw_and (ha : PT X a tA) (hb : PW X (.BoolOp .And (b :: rest) pos) tB') : PW X (.BoolOp .And (a :: b :: rest) pos) (tAnd tA tB') := by
  intro wh pins s σ H Q I h
  refine isTrue_and (thn (ha pins s σ H _ I h) fun c s1 ⟨H1, I1, q1⟩ => ?_)
  cases c with
  | true => exact hb wh pins s1 σ H1 Q I1 q1
  | false => exact ⟨H1, I1, q1⟩
theorem pw_or (ha : PT X a tA) (hb : PW X (.BoolOp .Or (b :: rest) pos) tB') : PW X (.BoolOp .Or (a :: b :: rest) pos) (tOr tA tB') := by
  intro wh pins s σ H Q I h
  refine isTrue_or (thn (ha pins s σ H _ I h) fun c s1 ⟨H1, I1, q1⟩ => ?_)
  cases c with
  | true => exact ⟨H1, I1, q1⟩
  | false => exact hb wh pins s1 σ H1 Q I1 q1
theorem pt_not (ha : PT X a tA) : PT X (.UnaryOp .Not a pos) (tNot tA) := by
  intro pins s σ H Q I h
  exact isTrue_not (ha pins s σ H (fun c H1 => Q (!c) H1) I h)
/-- .. as values (bools) -/
noncomputable def tAndV (ta tb : TE) : TE := fun σ H Q => ta σ H fun x H1 => ∃ c, x = .bl c ∧ if c = true then tb σ H1 Q else Q (.bl false) H1
noncomputable def tNotV (ta : TE) : TE := fun σ H Q => ta σ H fun x H1 => ∃ c, x = .bl c ∧ Q (.bl (!c)) H1
theorem pe_one {op} {t : TE} (h : PE X a t) : PE X (.BoolOp op [a] pos) t := fun pins s σ H Q I hw => BoolOp_one (h pins s σ H Q I hw)
theorem pe_and (ha : PE X a ta) (hb : PE X (.BoolOp .And (b :: rest) pos) tb) : PE X (.BoolOp .And (a :: b :: rest) pos) (tAndV ta tb) := by
  intro pins s σ H Q I h
  refine BoolOp_and (thn (ha pins s σ H _ I h) fun v s1 ⟨x, H1, I1, r1, q1⟩ => ?_)
  obtain ⟨c, rfl, q1⟩ := q1
  cases r1
  refine wpAny_truthy_bool ?_
  cases c with
  | true => exact hb pins s1 σ H1 Q I1 q1
  | false => exact ⟨.bl false, H1, I1, rfl, q1⟩
theorem pe_not (ha : PE X a ta) : PE X (.UnaryOp .Not a pos) (tNotV ta) := by
  intro pins s σ H Q I h
  refine UnaryOp_ (thn (ha pins s σ H _ I h) fun v s1 ⟨x, H1, I1, r1, q1⟩ => ?_)
  obtain ⟨c, rfl, q1⟩ := q1
  cases r1
  exact not_of (wpAny_truthy_bool ⟨.bl (!c), H1, I1, rfl, q1⟩)
/-- a if t else b -/
noncomputable def tIf (t : TT) (ta tb : TE) : TE := fun σ H Q => t σ H fun c H1 => if c = true then ta σ H1 Q else tb σ H1 Q
theorem pe_ifExp {c : Expr} (hc : PT X c tA) (ha : PE X a ta) (hb : PE X b tb) : PE X (.IfExp c a b pos) (tIf tA ta tb) := by
  intro pins s σ H Q I h
  refine wpAny_IfExp (thn (hc pins s σ H _ I h) fun d s1 ⟨H1, I1, q1⟩ => ?_)
  cases d with
  | true => exact ha pins s1 σ H1 Q I1 q1
  | false => exact hb pins s1 σ H1 Q I1 q1
end
end L2

namespace L2
open PySem PySem.Spec PyProof.Rows

/-! ### a list, a tuple that is read: tracked, frozen, or an object of the module -/
noncomputable def SqL (K : PySem.W.Frag) (H : Hp) (a : Addr) (xs : List V) : Prop :=
  Rd H a (.lst xs) ∨
    ∃ (o : Obj) (its : Array Value) (n : Nat), K.lookup a = some o ∧ o.cls = .type "list" ∧ o.dict = none ∧ o.data = .seq its n ∧ its.size ≤ sizeLine ∧ Vals xs its.toList
noncomputable def SqT (K : PySem.W.Frag) (H : Hp) (a : Addr) (xs : List V) : Prop :=
  Rd H a (.tup xs) ∨
    ∃ (o : Obj) (its : Array Value) (n : Nat), K.lookup a = some o ∧ o.cls = .type "tuple" ∧ o.data = .seq its n ∧ its.size ≤ sizeLine ∧ Vals xs its.toList
noncomputable def absV : Value → Option V
  | .none => some .non
  | .bool b => some (.bl b)
  | .int i _ => some (.int i)
  | .str x _ => some (.str x)
  | .bytes b _ => some (.byt b)
  | .float b _ => some (.flt b)
  | .ref a => some (.ref a)
  | .type n => some (.ty n)
  | _ => none
theorem RelV.abs {x : V} {u : Value} (r : RelV x u) : absV u = some x := by
  cases x with
  | non => cases r; rfl
  | bl _ => cases r; rfl
  | int _ => obtain ⟨t, rfl⟩ := r; rfl
  | str _ => obtain ⟨t, rfl⟩ := r; rfl
  | byt _ => obtain ⟨t, rfl⟩ := r; rfl
  | flt _ => obtain ⟨t, rfl⟩ := r; rfl
  | ref _ => cases r; rfl
  | ty _ => cases r; rfl
theorem RelV.inj {x y : V} {u : Value} (r : RelV x u) (q : RelV y u) : x = y := Option.some.inj (r.abs.symm.trans q.abs)
theorem Vals.inj : ∀ {xs ys : List V} {us : List Value}, Vals xs us → Vals ys us → xs = ys
  | _, _, _, .nil, .nil => rfl
  | _, _, _, .cons r t, .cons r' t' => by rw [r.inj r', Vals.inj t t']
section
variable {X : Cx} {pins : List (Addr × Obj)} {σ : St} {H : Hp} {s : Shared} {a : Addr} {xs ys : List V}
theorem SqL.of {K : PySem.W.Frag} (h : H a = some (.lst xs)) : SqL K H a xs := .inl (.inl h)
theorem SqT.of {K : PySem.W.Frag} (h : H a = some (.tup xs)) : SqT K H a xs := .inl (.inl h)
theorem Inv.list (I : Inv X pins σ H s) (h : SqL X.K H a xs) : ∃ its : List Value, Vals xs its ∧ PlainL s.heap a its.toArray ∧ xs.length ≤ sizeLine := by
  rcases h with h | ⟨o, its, n, hk, hc, hd, hs, hz, r⟩
  · obtain ⟨z, its, n, r, e⟩ := h.ok I.hok
    exact ⟨its, r, ⟨_, n, e, rfl, rfl, rfl⟩, z⟩
  · refine ⟨its.toList, r, ⟨o, n, I.kIn a o hk, hc, hd, by simpa using hs⟩, ?_⟩
    have e := r.length
    simp only [Array.length_toList] at e
    omega
theorem Inv.tuple (I : Inv X pins σ H s) (h : SqT X.K H a xs) : ∃ its : List Value, Vals xs its ∧ IsTup s.heap a its.toArray ∧ xs.length ≤ sizeLine := by
  rcases h with h | ⟨o, its, n, hk, hc, hs, hz, r⟩
  · obtain ⟨z, its, r, p⟩ := h.ok I.hok
    exact ⟨its, r, p, z⟩
  · refine ⟨its.toList, r, ⟨o, I.kIn a o hk, hc, n, by simpa using hs⟩, ?_⟩
    have e := r.length
    simp only [Array.length_toList] at e
    omega
theorem Inv.list_inj (I : Inv X pins σ H s) (h : SqL X.K H a xs) (h' : SqL X.K H a ys) : xs = ys := by
  obtain ⟨its, r, ⟨o, n, e, _, _, d⟩, _⟩ := I.list h
  obtain ⟨its', r', ⟨o', n', e', _, _, d'⟩, _⟩ := I.list h'
  rw [e] at e'; cases e'
  rw [d] at d'
  injection d' with d1 _
  have : its = its' := by simpa using congrArg Array.toList d1
  subst this
  exact r.inj r'
theorem Inv.tuple_inj (I : Inv X pins σ H s) (h : SqT X.K H a xs) (h' : SqT X.K H a ys) : xs = ys := by
  obtain ⟨its, r, ⟨o, e, _, n, d⟩, _⟩ := I.tuple h
  obtain ⟨its', r', ⟨o', e', _, n', d'⟩, _⟩ := I.tuple h'
  rw [e] at e'; cases e'
  rw [d] at d'
  injection d' with d1 _
  have : its = its' := by simpa using congrArg Array.toList d1
  subst this
  exact r.inj r'
end

/-! ### another wish about exceptions -/
noncomputable abbrev Cx.wish (X : Cx) (E : Value → Shared → Prop) : Cx := { X with xe := E }
/-- no exception leaves -/
noncomputable abbrev Cx.nox (X : Cx) : Cx := X.wish fun _ _ => False
theorem Cx.Ok.wish {X : Cx} (ok : X.Ok) (E : Value → Shared → Prop) : (X.wish E).Ok :=
  ⟨ok.mod, ok.kind, ok.glob, ok.blt, ok.above, ok.inj, ok.has, ok.cab, ok.hd, ok.frames, ok.stk, ok.exf, ok.bs, ok.bsz, ok.noex, ok.exfs, ok.funs, ok.frf⟩
theorem Cx.Ok.unwish {X : Cx} {E : Value → Shared → Prop} (ok : (X.wish E).Ok) : X.Ok :=
  ⟨ok.mod, ok.kind, ok.glob, ok.blt, ok.above, ok.inj, ok.has, ok.cab, ok.hd, ok.frames, ok.stk, ok.exf, ok.bs, ok.bsz, ok.noex, ok.exfs, ok.funs, ok.frf⟩
section
variable {X : Cx} {pins : List (Addr × Obj)} {σ : St} {H : Hp} {s : Shared} {E : Value → Shared → Prop}
theorem Inv.wish (I : Inv X pins σ H s) (E : Value → Shared → Prop) : Inv (X.wish E) pins σ H s := ⟨I.ok.wish E, I.os, I.bare, I.base, I.loc, I.cell, I.free, I.freeC, I.pin, I.hok, I.len⟩
theorem Inv.unwish (I : Inv (X.wish E) pins σ H s) : Inv X pins σ H s := ⟨I.ok.unwish, I.os, I.bare, I.base, I.loc, I.cell, I.free, I.freeC, I.pin, I.hok, I.len⟩
theorem SP.unwish {D : Ends} {f : Flow} {s' : Shared} (h : SP (X.wish E) pins D f s') : SP X pins D f s' := by
  cases f with
  | next => obtain ⟨σ', H', I, q⟩ := h; exact ⟨σ', H', I.unwish, q⟩
  | brk => obtain ⟨σ', H', I, q⟩ := h; exact ⟨σ', H', I.unwish, q⟩
  | cont => obtain ⟨σ', H', I, q⟩ := h; exact ⟨σ', H', I.unwish, q⟩
  | ret u => obtain ⟨v, σ', H', I, r, q⟩ := h; exact ⟨v, σ', H', I.unwish, r, q⟩
theorem PE.nox {e : Expr} {t : TE} (h : PE X.nox e t) : PE X e t := fun pins s σ H Q I hw =>
  wpAny_mono (h pins s σ H Q (I.wish _) hw) (fun _ _ ⟨v, H', I', r, q⟩ => ⟨v, H', I'.unwish, r, q⟩) fun _ _ z => False.elim z
theorem PT.nox {e : Expr} {t : TT} (h : PT X.nox e t) : PT X e t := fun pins s σ H Q I hw =>
  wpAny_mono (h pins s σ H Q (I.wish _) hw) (fun _ _ ⟨H', I', q⟩ => ⟨H', I'.unwish, q⟩) fun _ _ z => False.elim z
theorem PSs.nox {st : List Stmt} {t : TS} (h : PSs X.nox st t) : PSs X st t := fun pins s σ H D I hw =>
  wpAny_mono (h pins s σ H D (I.wish _) hw) (fun _ _ q => q.unwish) fun _ _ z => False.elim z
end

/-! ### blocks and small statements -/
section
variable {X : Cx} {st : Stmt} {rest : List Stmt} {t u : TS} {e : Expr} {te : TE} {pos : Pos}
noncomputable def tNext : TS := fun D σ H => D.nx σ H
noncomputable def tSeq (t u : TS) : TS := fun D σ H => t { D with nx := u D } σ H
theorem pss_nil : PSs X [] tNext := fun _ _ σ H _ I h => wpAny_execs_nil ⟨σ, H, I, h⟩
theorem pss_cons (h1 : PS X st t) (h2 : PSs X rest u) : PSs X (st :: rest) (tSeq t u) := by
  intro pins s σ H D I h
  refine wpAny_execs_cons (thn (h1 pins s σ H { D with nx := u D } I h) fun f s1 q => ?_)
  cases f with
  | next =>
    obtain ⟨σ', H', I', q⟩ := q
    exact h2 pins s1 σ' H' D I' q
  | ret v => exact q
  | brk => exact q
  | cont => exact q
theorem pss_one (h1 : PS X st t) : PSs X [st] t := by
  intro pins s σ H D I h
  refine wpAny_execs_cons (thn (h1 pins s σ H D I h) fun f s1 q => ?_)
  cases f with
  | next => exact wpAny_execs_nil q
  | ret v => exact q
  | brk => exact q
  | cont => exact q
/-- in a def's body nothing is shown -/
theorem Inv.quiet {pins : List (Addr × Obj)} {σ : St} {H : Hp} {s : Shared} (I : Inv X pins σ H s) : interactive X.env = false := by simp [interactive, I.ok.kind]
/-- an expression whose value is dropped -/
noncomputable def tDrop (te : TE) : TS := fun D σ H => te σ H fun _ H1 => D.nx σ H1
theorem ps_expr (he : PE X e te) (hs : swapsWith e none pos.line X.env = pure false := by rfl) : PS X (.Expr e pos) (tDrop te) := by
  intro pins s σ H D I h
  exact wpAny_Expr_any (thn (he pins s σ H _ I h) fun v s1 ⟨x, H1, I1, r1, q1⟩ => ⟨σ, H1, I1, q1⟩) I.quiet hs
noncomputable def tRet (te : TE) : TS := fun D σ H => te σ H D.rt
theorem ps_ret (he : PE X e te) : PS X (.Return (some e) pos) (tRet te) := by
  intro pins s σ H D I h
  exact wpAny_Return_some (thn (he pins s σ H _ I h) fun v s1 ⟨x, H1, I1, r1, q1⟩ => ⟨x, σ, H1, I1, r1, q1⟩)
noncomputable def tIfS (c : TT) (t u : TS) : TS := fun D σ H => c σ H fun b H1 => if b = true then t D σ H1 else u D σ H1
theorem ps_if {c : Expr} {a b : List Stmt} {tc : TT} (hc : PT X c tc) (ha : PSs X a t) (hb : PSs X b u) : PS X (.If c a b pos) (tIfS tc t u) := by
  intro pins s σ H D I h
  refine wpAny_If (thn (hc pins s σ H _ I h) fun d s1 ⟨H1, I1, q1⟩ => ?_)
  cases d with
  | true => exact ha pins s1 σ H1 D I1 q1
  | false => exact hb pins s1 σ H1 D I1 q1
end

/-! ### targets -/
noncomputable abbrev TG := V → St → Hp → (St → Hp → Prop) → Prop
noncomputable abbrev TGs := List V → St → Hp → (St → Hp → Prop) → Prop
noncomputable def PG (X : Cx) (target : Expr) (t : TG) : Prop :=
  ∀ (pins : List (Addr × Obj)) (s : Shared) (σ : St) (H : Hp) (v : V) (u : Value) (Q : St → Hp → Prop), Inv X pins σ H s → RelV v u → t v σ H Q →
    wpAny (model X.prog X.w) X.A (assign target X.env u) (fun _ s' => ∃ σ' H', Inv X pins σ' H' s' ∧ Q σ' H') X.xe s
/-- several targets, one after another -/
noncomputable def PGs (X : Cx) (ts : List Expr) (t : TGs) : Prop :=
  ∀ (pins : List (Addr × Obj)) (s : Shared) (σ : St) (H : Hp) (vs : List V) (us : List Value) (Q : St → Hp → Prop), Inv X pins σ H s → Vals vs us → t vs σ H Q →
    wpAny (model X.prog X.w) X.A (assignInOrder ((assignEach ts X.env).map (·.2)) us) (fun _ s' => ∃ σ' H', Inv X pins σ' H' s' ∧ Q σ' H') X.xe s
/-- o[i] = v, by values -/
noncomputable abbrev TSet := V → V → V → Hp → (Hp → Prop) → Prop
noncomputable def PSet (X : Cx) (t : TSet) : Prop :=
  ∀ (pins : List (Addr × Obj)) (s : Shared) (σ : St) (H : Hp) (o i v : V) (ov iv u : Value) (Q : Hp → Prop), Inv X pins σ H s → RelV o ov → RelV i iv → RelV v u → t o i v H Q →
    wpAny (model X.prog X.w) X.A (setItem ov iv u) (fun _ s' => ∃ H', Inv X pins σ H' s' ∧ Q H') X.xe s
section
variable {X : Cx} {pos : Pos}
noncomputable def gName (i : Nat) : TG := fun v σ H Q => Q (σ.set i (some v)) H
theorem pg_name {i : Nat} {x : Str} (hN : X.N.Nodup) (hi : X.N[i]? = some x) (hx : Loc X.env.scope x) (hf : X.fn x = true ∨ X.env.scope.names.lookup x = some .local := by first | exact .inl rfl | exact .inr rfl | assumption) : PG X (.Name x pos) (gName i) := by
  intro pins s σ H v u Q I r h
  exact wpAny_assign_Name (store_ok I hN hi hx r (fun s' I' => ⟨_, H, I', h⟩) hf)
noncomputable def gNil : TGs := fun vs σ H Q => vs = [] ∧ Q σ H
noncomputable def gCons (t : TG) (u : TGs) : TGs := fun vs σ H Q => ∃ v r, vs = v :: r ∧ t v σ H fun σ' H' => u r σ' H' Q
theorem pgs_nil : PGs X [] gNil := by
  intro pins s σ H vs us Q I r h
  obtain ⟨e, h⟩ := h
  subst e
  cases r
  exact assignInOrder_nil ⟨σ, H, I, h⟩
theorem pgs_cons {e : Expr} {es : List Expr} {t : TG} {u : TGs} (h1 : PG X e t) (h2 : PGs X es u)
    (hs : (assignEach (e :: es) X.env).map (·.2) = assign e X.env :: (assignEach es X.env).map (·.2) := by rfl) : PGs X (e :: es) (gCons t u) := by
  intro pins s σ H vs us Q I r h
  obtain ⟨v, vr, e1, h⟩ := h
  subst e1
  cases r with
  | cons r rr =>
    rw [hs]
    refine assignInOrder_cons (thn (h1 pins s σ H _ _ _ I r h) fun _ s1 ⟨σ1, H1, I1, q1⟩ => ?_)
    exact h2 pins s1 σ1 H1 _ _ Q I1 rr q1
/-- (a, b, ..) = a tuple of that length -/
noncomputable def gTup (K : PySem.W.Frag) (n : Nat) (t : TGs) : TG := fun v σ H Q => ∃ a xs, v = .ref a ∧ SqT K H a xs ∧ xs.length = n ∧ t xs σ H Q
theorem pg_tup {es : List Expr} {k : Nat} {t : TGs} {n : Nat} (hc : X.calm = true) (h : PGs X es t)
    (hn : (assignEach es X.env).length = n := by rfl) (hst : (assignEach es X.env).findIdx? (·.1) = none := by rfl) : PG X (.Tuple es k pos) (gTup X.K n t) := by
  intro pins s σ H v u Q I r hw
  obtain ⟨a, xs, e1, hq, hl, hw⟩ := hw
  subst e1
  cases r
  obtain ⟨its, rv, ht, hz⟩ := I.tuple hq
  refine assign_Tuple_tuple (I.ok.hd hc) ht (by simp [hn, ← hl, rv.length]) hst fun h' hx => ?_
  have I1 : Inv X pins σ H { s with heap := h' } := I.kept (t' := s.toks) fun b o e => hx b o (Nat.ne_of_lt (Heap.lt_size e)) e
  exact h pins _ σ H xs _ Q I1 (by simpa using rv) hw
/-- o[i] = .. -/
noncomputable def gSub (to ti : TE) (t : TSet) : TG := fun v σ H Q => to σ H fun o H1 => ti σ H1 fun i H2 => t o i v H2 fun H3 => Q σ H3
theorem pg_sub {o i : Expr} {to ti : TE} {t : TSet} (ho : PE X o to) (hi : PE X i ti) (hs : PSet X t)
    (ha : ∀ v, assign (.Subscript o i pos) X.env v = (do
      let ov ← holding [v] (eval o X.env)
      let iv ← holding [v, ov] (eval i X.env)
      standAt pos
      holding [v, ov, iv] (setItem ov iv v)
      release [v, ov, iv] []) := by intro _; rfl) : PG X (.Subscript o i pos) (gSub to ti t) := by
  intro pins s σ H v u Q I r h
  rw [ha]
  refine wpAny_bind (wpAny_holding (thn (ho pins s σ H _ I h) fun ov s1 ⟨x, H1, I1, r1, q1⟩ => ?_))
  refine wpAny_bind (wpAny_holding (thn (hi pins s1 σ H1 _ I1 q1) fun iv s2 ⟨y, H2, I2, r2, q2⟩ => ?_))
  refine wpAny_bind (wpAny_standAt (wpAny_bind (wpAny_holding (thn (hs pins s2 σ H2 x y v ov iv u _ I2 r1 r2 r q2) fun _ s3 ⟨H3, I3, q3⟩ => ?_))))
  exact wpAny_release ⟨σ, H3, I3, q3⟩
/-- target = value -/
noncomputable def tAsg (te : TE) (g : TG) : TS := fun D σ H => te σ H fun x H1 => g x σ H1 D.nx
theorem ps_asg {tg e : Expr} {te : TE} {g : TG} (he : PE X e te) (hg : PG X tg g) (hs : swapsWithSole [tg] e pos.line X.env = pure false := by rfl) (hw : swappedStores [tg] e X.env = pure none := by rfl)
    (h1 : (assignEach [tg] X.env).map (·.2) = [assign tg X.env] := by rfl) : PS X (.Assign [tg] e pos) (tAsg te g) := by
  intro pins s σ H D I h
  refine wpAny_Assign_stores (thn (he pins s σ H _ I h) fun v s1 ⟨x, H1, I1, r1, q1⟩ => ?_) hs hw
  rw [h1]
  exact thn (hg pins s1 σ H1 x v _ I1 r1 q1) fun _ s2 q => q
/-- name = value -/
theorem ps_set {i : Nat} {x : Str} {e : Expr} {te : TE} {pos' : Pos} (hN : X.N.Nodup) (hi : X.N[i]? = some x) (hx : Loc X.env.scope x) (he : PE X e te) (hs : swapsWith e (some (.Name x pos')) pos.line X.env = pure false := by rfl) (hf : X.fn x = true ∨ X.env.scope.names.lookup x = some .local := by first | exact .inl rfl | exact .inr rfl | assumption) :
    PS X (.Assign [.Name x pos'] e pos) (tAsg te (gName i)) := by
  intro pins s σ H D I h
  refine wpAny_Assign_Name (thn (he pins s σ H _ I h) fun v s1 ⟨y, H1, I1, r1, q1⟩ => ?_) hs
  exact store_ok I1 hN hi hx r1 (fun s2 I2 => ⟨_, H1, I2, q1⟩) hf
end

/-! ### while -/
section
variable {X : Cx} {pos : Pos}
end

/-! ### what a loop or a comprehension walks -/
/-- at turn i: it yields x (the heap may grow), or it stops -/
structure It where
  go : Nat → Hp → Prop
  yld : Nat → Hp → V → Hp → Prop
  stop : Nat → Hp → Prop
/-- the iterator's own objects may turn: they are not the frame's, not pinned, younger than the entry (or a comprehension's own) -/
noncomputable def FpOk (X : Cx) (pins : List (Addr × Obj)) (H : Hp) (b : Addr) : Prop :=
  H b = none ∧ b ≠ X.env.locals ∧ b ∉ X.fs ∧ (b ∈ X.ex ∨ X.s₀.heap.objs.size ≤ b) ∧ (∀ x c, X.env.cells.lookup x = some c → c ≠ b) ∧ ∀ p ∈ X.pn ++ pins, p.1 ≠ b
theorem Inv.fpOk {X : Cx} {pins : List (Addr × Obj)} {σ : St} {H H' : Hp} {s : Shared} {b : Addr} (I : Inv X pins σ H s) (hb : s.heap.objs.size ≤ b) (hn : H' b = none) : FpOk X pins H' b := by
  refine ⟨hn, Nat.ne_of_gt (Nat.lt_of_lt_of_le I.lt hb), I.nofs hb, .inr (Nat.le_trans I.sz hb), fun x c e z => ?_, fun p hp z => ?_⟩
  · obtain ⟨v, q⟩ := I.cell x c e
    exact absurd (Nat.lt_of_lt_of_le q.lt (by rw [z]; exact hb)) (Nat.lt_irrefl _)
  · exact absurd (Nat.lt_of_lt_of_le (Heap.lt_size (I.pin p hp).1) (by rw [z]; exact hb)) (Nat.lt_irrefl _)
structure Turn (P : Program) (w : World) (K : PySem.W.Frag) (tg : Expr) (J : It) (fp : List Addr) (it : Addr) (tn : Nat → Heap → Prop) : Prop where
  mem : it ∈ fp
  obj : ∀ i h, tn i h → ∀ b ∈ fp, ∃ o, h.get? b = some o ∧ ∀ v, o.data ≠ .cell v
  keep : ∀ i h h', tn i h → (∀ b ∈ fp, ∀ o, h.get? b = some o → h'.get? b = some o) → tn i h'
  item : ∀ (X : Cx), X.prog = P → X.w = w → X.K = K → X.calm = true → ∀ (i : Nat) (pins : List (Addr × Obj)) (s : Shared) (σ : St) (H : Hp) (E : Value → Shared → Prop), Inv X pins σ H s → (∀ b ∈ fp, FpOk X pins H b) → tn i s.heap → J.go i H →
    wpAny (model P w) X.A (pyNext (.ref it)) (fun r s1 => ∃ u, r = some u ∧
      wpAny (model P w) X.A (letOwnedTupleGo tg (.ref it) u) (fun _ s2 => ∃ x H', Inv X pins σ H' s2 ∧ RelV x u ∧ J.yld i H x H' ∧ tn (i + 1) s2.heap ∧ ∀ b ∈ fp, H' b = none) E s1) E s
  done : ∀ (X : Cx), X.prog = P → X.w = w → X.K = K → X.calm = true → ∀ (i : Nat) (pins : List (Addr × Obj)) (s : Shared) (σ : St) (H : Hp) (E : Value → Shared → Prop), Inv X pins σ H s → (∀ b ∈ fp, FpOk X pins H b) → tn i s.heap → J.stop i H →
    wpAny (model P w) X.A (pyNext (.ref it)) (fun r s1 => r = none ∧ Inv X pins σ H s1) E s
  self : ∀ (A : Around) (i : Nat) (s : Shared) (Q : Value → Shared → Prop) (E : Value → Shared → Prop), tn i s.heap → Q (.ref it) s → wpAny (model P w) A (pyIter (.ref it)) Q E s
noncomputable abbrev TI := St → Hp → (It → Hp → Prop) → Prop
/-- an iterator has come -/
noncomputable def PIE (X : Cx) (pins : List (Addr × Obj)) (σ : St) (tg : Expr) (R : It → Hp → Prop) (itv : Value) (s2 : Shared) : Prop :=
  ∃ (it : Addr) (fp : List Addr) (tn : Nat → Heap → Prop) (J : It) (H' : Hp), itv = .ref it ∧ Inv X pins σ H' s2 ∧ Turn X.prog X.w X.K tg J fp it tn ∧ tn 0 s2.heap ∧ (∀ b ∈ fp, FpOk X pins H' b) ∧ R J H'
noncomputable def PI (X : Cx) (tg iter : Expr) (wi : TI) : Prop :=
  ∀ (pins : List (Addr × Obj)) (s : Shared) (σ : St) (H : Hp) (R : It → Hp → Prop), Inv X pins σ H s → wi σ H R →
    wpAny (model X.prog X.w) X.A (eval iter X.env) (fun v s1 => wpAny (model X.prog X.w) X.A (pyIter v) (PIE X pins σ tg R) X.xe s1) X.xe s

/-- the step ahead of the store is nothing for an iterator that keeps no tuple -/
theorem go_of {M : Model} {A : Around} {E : Value → Shared → Prop} {s : Shared} {tg : Expr} {it : Addr} {u : Value} {o : Obj} {n : String} {vs : Array Value} {Q : Unit → Shared → Prop} (ho : s.heap.get? it = some o) (hc : o.cls = .type n) (hd : o.data = .fields vs)
    (hn : ["enumerate", "zip", "dict_itemiterator", "dict_reverseitemiterator", "odict_iterator", "itertools.zip_longest", "itertools.pairwise"].contains n = false) (hQ : Q () s) : wpAny M A (letOwnedTupleGo tg (.ref it) u) Q E s := by
  unfold letOwnedTupleGo
  cases tg <;> first
    | exact wpAny_pure hQ
    | (cases u <;> first
        | exact wpAny_pure hQ
        | (refine wpAny_bind (wpAny_load ho ?_)
           rw [hc, hd]
           show wpAny M A (if (["enumerate", "zip", "dict_itemiterator", "dict_reverseitemiterator", "odict_iterator", "itertools.zip_longest", "itertools.pairwise"].contains n && vs[0]? == some (rawInt _)) = true then _ else _) Q E s
           rw [if_neg (by intro h; rw [hn, Bool.false_and] at h; cases h)]
           exact wpAny_pure hQ))

/-- the list at a, as it stands at each turn (a loop may append to it) -/
noncomputable def Itl (K : PySem.W.Frag) (a : Addr) : It :=
  ⟨fun i H => ∃ xs x, SqL K H a xs ∧ xs[i]? = some x, fun i H x H' => H' = H ∧ ∀ xs, SqL K H a xs → xs[i]? = some x, fun i H => ∃ xs, SqL K H a xs ∧ xs.length ≤ i⟩
noncomputable def Itt (K : PySem.W.Frag) (a : Addr) : It :=
  ⟨fun i H => ∃ xs x, SqT K H a xs ∧ xs[i]? = some x, fun i H x H' => H' = H ∧ ∀ xs, SqT K H a xs → xs[i]? = some x, fun i H => ∃ xs, SqT K H a xs ∧ xs.length ≤ i⟩
/-- lo, lo + 1, .. (n of them) -/
noncomputable def Itr (lo : Int) (n : Nat) : It := ⟨fun i _ => i < n, fun i H x H' => H' = H ∧ x = .int (lo + i), fun i _ => n ≤ i⟩
theorem turn_list {P : Program} {w : World} {K : PySem.W.Frag} {tg : Expr} (a it : Addr) : Turn P w K tg (Itl K a) [it] it (fun i h => h.IsListIter it a i) where
  mem := by simp
  obj := fun i h st b hb => by
    have e : b = it := by simpa using hb
    subst e
    obtain ⟨o, e, c, d⟩ := st
    exact ⟨o, e, fun v z => by rw [d] at z; cases z⟩
  keep := fun i h h' st k => st.at fun o e => k it (by simp) o e
  item := by
    intro X hP hw hK hc i pins s σ H E I hf st hg
    subst hP hw hK
    obtain ⟨xs, x, hq, hx⟩ := hg
    obtain ⟨its, rv, p, hz⟩ := I.list hq
    obtain ⟨u, hu, ru⟩ := rv.get hx
    obtain ⟨f0, f1, f2, f3, f4, f5⟩ := hf it (by simp)
    refine wpAny_pyNext_list_item st p.isList (x := u) (by simpa using hu) fun h' st' sb => ?_
    have I1 : Inv X pins σ H { s with heap := h' } := I.turned (t' := s.toks) (fun b o hb e => (sb.2 b hb).trans e) f0 f1 f3 f4 f5
    obtain ⟨o, e, c, d⟩ := id st'
    exact ⟨u, rfl, go_of (s := { s with heap := h' }) e c d (by decide) ⟨x, H, I1, ru, ⟨rfl, fun ys hy => by rw [I.list_inj hy hq]; exact hx⟩, st', fun b hb => (hf b hb).1⟩⟩
  done := by
    intro X hP hw hK hc i pins s σ H E I hf st hg
    subst hP hw hK
    obtain ⟨xs, hq, hx⟩ := hg
    obtain ⟨its, rv, p, hz⟩ := I.list hq
    obtain ⟨f0, f1, f2, f3, f4, f5⟩ := hf it (by simp)
    have hl := rv.length
    exact wpAny_pyNext_list_end (I.ok.hd hc) st p.isList (by simp; omega) fun h' eb => ⟨rfl, I.turned (t' := s.toks) (fun b o hb e => eb b o hb e) f0 f1 f3 f4 f5⟩
  self := fun _ _ _ _ _ st h => wpAny_pyIter_listiter st h
theorem turn_tuple {P : Program} {w : World} {K : PySem.W.Frag} {tg : Expr} (a it : Addr) : Turn P w K tg (Itt K a) [it] it (fun i h => h.IsTupleIter it a i) where
  mem := by simp
  obj := fun i h st b hb => by
    have e : b = it := by simpa using hb
    subst e
    obtain ⟨o, e, c, d⟩ := st
    exact ⟨o, e, fun v z => by rw [d] at z; cases z⟩
  keep := fun i h h' st k => st.at fun o e => k it (by simp) o e
  item := by
    intro X hP hw hK hc i pins s σ H E I hf st hg
    subst hP hw hK
    obtain ⟨xs, x, hq, hx⟩ := hg
    obtain ⟨its, rv, p, hz⟩ := I.tuple hq
    obtain ⟨u, hu, ru⟩ := rv.get hx
    obtain ⟨f0, f1, f2, f3, f4, f5⟩ := hf it (by simp)
    refine wpAny_pyNext_tuple_item st (show s.heap.IsTuple a its.toArray from p) (x := u) (by simpa using hu) fun h' st' sb => ?_
    have I1 : Inv X pins σ H { s with heap := h' } := I.turned (t' := s.toks) (fun b o hb e => (sb.2 b hb).trans e) f0 f1 f3 f4 f5
    obtain ⟨o, e, c, d⟩ := id st'
    exact ⟨u, rfl, go_of (s := { s with heap := h' }) e c d (by decide) ⟨x, H, I1, ru, ⟨rfl, fun ys hy => by rw [I.tuple_inj hy hq]; exact hx⟩, st', fun b hb => (hf b hb).1⟩⟩
  done := by
    intro X hP hw hK hc i pins s σ H E I hf st hg
    subst hP hw hK
    obtain ⟨xs, hq, hx⟩ := hg
    obtain ⟨its, rv, p, hz⟩ := I.tuple hq
    obtain ⟨f0, f1, f2, f3, f4, f5⟩ := hf it (by simp)
    have hl := rv.length
    exact wpAny_pyNext_tuple_end (I.ok.hd hc) st (show s.heap.IsTuple a its.toArray from p) (by simp; omega) fun h' eb => ⟨rfl, I.turned (t' := s.toks) (fun b o hb e => eb b o hb e) f0 f1 f3 f4 f5⟩
  self := fun _ _ _ _ _ st h => wpAny_pyIter_tupleiter st h
theorem turn_range {P : Program} {w : World} {K : PySem.W.Frag} {tg : Expr} (it : Addr) (lo : Int) (n : Nat) : Turn P w K tg (Itr lo n) [it] it (fun i h => IsRangeIter h it (lo + (i : Nat) * 1) ((n : Int) - (i : Nat)) 1) where
  mem := by simp
  obj := fun i h st b hb => by
    have e : b = it := by simpa using hb
    subst e
    exact ⟨_, st, fun v z => by
      have z' : Data.fields _ = Data.cell v := z
      cases z'⟩
  keep := fun i h h' st k => k it (by simp) _ st
  item := by
    intro X hP hw hK hc i pins s σ H E I hf st hg
    subst hP hw hK
    obtain ⟨f0, f1, f2, f3, f4, f5⟩ := hf it (by simp)
    have W := Walks.range (prog := X.prog) (w := X.w) (I.ok.hd hc) it lo 1 n
    refine W.item i s _ _ hg st fun v h' tk hv st' kk => ?_
    obtain ⟨t, rfl⟩ := hv
    have I1 : Inv X pins σ H { s with heap := h', toks := tk } := I.turned (fun b o hb e => kk b o (by simpa using hb) e) f0 f1 f3 f4 f5
    refine ⟨_, rfl, go_of (s := { s with heap := h', toks := tk }) (n := "range_iterator") st' rfl rfl (by decide) ⟨.int (lo + i), H, I1, ⟨t, ?_⟩, ⟨rfl, rfl⟩, st', fun b hb => (hf b hb).1⟩⟩
    rw [Int.mul_one]
  done := by
    intro X hP hw hK hc i pins s σ H E I hf st hg
    subst hP hw hK
    obtain ⟨f0, f1, f2, f3, f4, f5⟩ := hf it (by simp)
    exact wpAny_pyNext_range_end (I.ok.hd hc) st (by have : n ≤ i := hg; omega) fun h' eb => ⟨rfl, I.turned (t' := s.toks) (fun b o hb e => eb b o hb e) f0 f1 f3 f4 f5⟩
  self := fun _ _ _ _ _ st h => wpAny_pyIter_rangeiter st h
end L2

namespace L2
open PySem PySem.Spec PyProof.Rows
section
variable {X : Cx} {tg : Expr}
noncomputable def iList (K : PySem.W.Frag) (tl : TE) : TI := fun σ H R => tl σ H fun x H1 => ∃ a, x = .ref a ∧ (∃ xs, SqL K H1 a xs) ∧ R (Itl K a) H1
noncomputable def iTup (K : PySem.W.Frag) (tl : TE) : TI := fun σ H R => tl σ H fun x H1 => ∃ a, x = .ref a ∧ (∃ xs, SqT K H1 a xs) ∧ R (Itt K a) H1
theorem pi_list {l : Expr} {tl : TE} (hl : PE X l tl) : PI X tg l (iList X.K tl) := by
  intro pins s σ H R I h
  refine thn (hl pins s σ H _ I h) fun v s1 ⟨x, H1, I1, r1, q1⟩ => ?_
  obtain ⟨a, e, ⟨xs, hq⟩, q⟩ := q1
  subst e
  cases r1
  obtain ⟨its, rv, p, hz⟩ := I1.list hq
  refine wpAny_pyIter_list p.isList ?_
  refine ⟨s1.heap.objs.size, [s1.heap.objs.size], _, _, H1, rfl, I1.kept (t' := s1.toks) fun b o e => Heap.get?_push_of_some _ e, turn_list a _, ⟨_, Heap.get?_push_size _ rfl, rfl, rfl⟩, fun b hb => ?_, q⟩
  have e : b = s1.heap.objs.size := by simpa using hb
  subst e
  exact I1.fpOk (Nat.le_refl _) (I1.hok.fresh (Nat.le_refl _))
theorem pi_tup {l : Expr} {tl : TE} (hl : PE X l tl) : PI X tg l (iTup X.K tl) := by
  intro pins s σ H R I h
  refine thn (hl pins s σ H _ I h) fun v s1 ⟨x, H1, I1, r1, q1⟩ => ?_
  obtain ⟨a, e, ⟨xs, hq⟩, q⟩ := q1
  subst e
  cases r1
  obtain ⟨its, rv, p, hz⟩ := I1.tuple hq
  refine wpAny_pyIter_tuple (show s1.heap.IsTuple a its.toArray from p) ?_
  refine ⟨s1.heap.objs.size, [s1.heap.objs.size], _, _, H1, rfl, I1.kept (t' := s1.toks) fun b o e => Heap.get?_push_of_some _ e, turn_tuple a _, ⟨_, Heap.get?_push_size _ rfl, rfl, rfl⟩, fun b hb => ?_, q⟩
  have e : b = s1.heap.objs.size := by simpa using hb
  subst e
  exact I1.fpOk (Nat.le_refl _) (I1.hok.fresh (Nat.le_refl _))
/-- a range object just made, walked -/
theorem range_it {pins : List (Addr × Obj)} {σ : St} {H : Hp} {s : Shared} {R : It → Hp → Prop} {E : Value → Shared → Prop} {lo hi : Int} {t u v : Tok} {tk : Nat} (I : Inv X pins σ H s) (h1 : -(2 ^ 62) ≤ lo) (h2 : lo < 2 ^ 62) (h3 : -(2 ^ 62) ≤ hi) (h4 : hi < 2 ^ 62)
    (q : R (Itr lo (hi - lo).toNat) H) : wpAny (model X.prog X.w) X.A (pyIter (.ref s.heap.objs.size)) (PIE X pins σ tg R) E { s with heap := s.heap.push { cls := .type "range", data := .fields #[.int lo t, .int hi u, .int 1 v] }, toks := tk } := by
  refine wpAny_pyIter_range (IsRange.new ..) (small_one h1 h2 h3 h4) ?_
  have I1 : Inv X pins σ H { s with heap := s.heap.push { cls := .type "range", data := .fields #[.int lo t, .int hi u, .int 1 v] }, toks := tk } := I.kept fun b o e => Heap.get?_push_of_some _ e
  refine ⟨(s.heap.push { cls := .type "range", data := .fields #[.int lo t, .int hi u, .int 1 v] }).objs.size, [(s.heap.push { cls := .type "range", data := .fields #[.int lo t, .int hi u, .int 1 v] }).objs.size], _, _, H, rfl,
    I1.kept (t' := tk) fun b o e => Heap.get?_push_of_some _ e, turn_range _ lo (hi - lo).toNat, ?_, fun b hb => ?_, q⟩
  · have e1 : lo + ((0 : Nat) : Int) * 1 = lo := by simp
    have e2 : (((hi - lo).toNat : Nat) : Int) - ((0 : Nat) : Int) = Builtin.Range.rangeSize lo hi 1 := by rw [rangeSize_one]; split <;> omega
    show IsRangeIter _ _ (lo + ((0 : Nat) : Int) * 1) ((((hi - lo).toNat : Nat) : Int) - ((0 : Nat) : Int)) 1
    rw [e1, e2]
    exact Heap.get?_push_size _ rfl
  · have e : b = (s.heap.push { cls := .type "range", data := .fields #[.int lo t, .int hi u, .int 1 v] }).objs.size := by simpa using hb
    subst e
    exact I1.fpOk (Nat.le_refl _) (I1.hok.fresh (Nat.le_refl _))
noncomputable def iRng1 (ta : TA) : TI := fun σ H R => ta σ H fun vs H1 => ∃ j : Int, vs = [.int j] ∧ -(2 ^ 62) ≤ j ∧ j < 2 ^ 62 ∧ R (Itr 0 j.toNat) H1
theorem pi_range1 {a : Expr} {ta : TA} {p pos : Pos} (hg : Gl X "range") (hm : X.mg "range" = none) (ha : PA X [a] ta) (hs : starEach [a] X.env = [(false, eval a X.env)] := by rfl) : PI X tg (.Call (.Name "range" p) [a] [] pos) (iRng1 ta) := by
  intro pins s σ H R I h
  refine Call_ (ld_blt I hg hm boot_range (PyProof.Rows.callWith_type1 (thn (ha pos pins s σ H _ I h) fun us s1 ⟨vs, H1, I1, r1, q1⟩ => ?_) hs rfl))
  obtain ⟨j, e, q1, q2, q⟩ := q1
  subst e
  cases r1 with
  | cons r rr =>
    cases rr
    obtain ⟨t, rfl⟩ := r
    exact call_range_1 (range_it I1 (by omega) (by omega) q1 q2 (by simpa using q))
/-! ### for -/
/-- W: the invariant by the turn and a measure; N: what the body is to reach -/
noncomputable def tFor (wi : TI) (g : TG) (tb : TS) : TS := fun D σ H => wi σ H fun J H1 => ∃ W : Nat → Nat → St → Hp → Prop, (∃ m, W 0 m σ H1) ∧ ∀ i m σ H, W i m σ H →
  (J.stop i H ∧ D.nx σ H) ∨ (J.go i H ∧ ∃ N : St → Hp → Prop, (∀ σ' H', N σ' H' → ∃ m', m' < m ∧ W (i + 1) m' σ' H') ∧ ∀ x H', J.yld i H x H' → g x σ H' fun σ2 H2 => tb { D with nx := N, ct := N, bk := D.nx } σ2 H2)
/-- the records at fp as they stand -/
noncomputable def pinsAt (fp : List Addr) (h : Heap) : List (Addr × Obj) := fp.filterMap fun b => (h.get? b).map fun o => (b, o)
theorem mem_pinsAt {fp : List Addr} {h : Heap} {b : Addr} {o : Obj} (hb : b ∈ fp) (e : h.get? b = some o) : (b, o) ∈ pinsAt fp h := List.mem_filterMap.mpr ⟨b, hb, by rw [e]; rfl⟩
theorem of_pinsAt {fp : List Addr} {h : Heap} {p : Addr × Obj} (hp : p ∈ pinsAt fp h) : p.1 ∈ fp ∧ h.get? p.1 = some p.2 := by
  obtain ⟨b, hb, e⟩ := List.mem_filterMap.mp hp
  cases q : h.get? b with
  | none => rw [q] at e; cases e
  | some o =>
    rw [q] at e
    have e' : (b, o) = p := Option.some.inj e
    subst e'
    exact ⟨hb, q⟩
theorem Inv.pinned {pins : List (Addr × Obj)} {σ : St} {H : Hp} {s : Shared} {fp : List Addr} (I : Inv X pins σ H s) (hf : ∀ b ∈ fp, FpOk X pins H b) (ho : ∀ b ∈ fp, ∃ o, s.heap.get? b = some o ∧ ∀ v, o.data ≠ .cell v) : Inv X (pins ++ pinsAt fp s.heap) σ H s :=
  I.pins_of fun p hp => (List.mem_append.mp hp).elim (fun z => I.pin p (List.mem_append_right _ z)) fun z => by
    obtain ⟨hb, e⟩ := of_pinsAt z
    obtain ⟨f0, f1, f2, _⟩ := hf p.1 hb
    obtain ⟨o, e', d⟩ := ho p.1 hb
    rw [e] at e'; cases e'
    exact ⟨e, f0, f1, f2, d⟩
theorem Inv.unpinned {pins pl : List (Addr × Obj)} {σ : St} {H : Hp} {s : Shared} (I : Inv X (pins ++ pl) σ H s) : Inv X pins σ H s := I.pins_of fun p hp => I.pin p (List.mem_append_right _ (List.mem_append_left _ hp))
theorem ps_for {iter : Expr} {body : List Stmt} {wi : TI} {g : TG} {tb : TS} {pos : Pos} (hp : PassesOwn (model X.prog X.w) X.A X.env X.xe) (hc : X.calm = true) (hi : PI X tg iter wi) (hg : PG X tg g) (hb : PSs X body tb)
    (hs : ∀ x, foldedSetIterable iter X.env x = pure x := by intro _; rfl) : PS X (.For tg iter body [] pos) (tFor wi g tb) := by
  intro pins s σ H D I h
  refine wpAny_For (thn (hi pins s σ H _ I h) fun v s1 h1 => thn h1 fun itv s2 h2 => ?_) hs
  obtain ⟨it, fp, tn, J, H2, e, I2, T, st2, f2, W, ⟨m0, w0⟩, turn⟩ := h2
  subst e
  -- what stays true of the iterator's objects through the loop
  have stat : ∀ {H' : Hp}, (∀ b ∈ fp, H' b = none) → ∀ b ∈ fp, FpOk X pins H' b := fun hn b hb => ⟨hn b hb, (f2 b hb).2⟩
  refine codeAny_forLoop_any (fun n s' => ∃ i σ' H', Inv X pins σ' H' s' ∧ tn i s'.heap ∧ (∀ b ∈ fp, H' b = none) ∧ W i n σ' H') ?_ m0 ⟨0, σ, H2, I2, st2, fun b hb => (f2 b hb).1, w0⟩
  rintro n s3 ⟨i, σ3, H3, I3, st3, fr3, w3⟩
  rcases turn i n σ3 H3 w3 with ⟨stop, qn⟩ | ⟨go, N, hN, step⟩
  · refine wpAny_passesOwn hp (thn (T.done X rfl rfl rfl hc i pins s3 σ3 H3 X.xe I3 (stat fr3) st3 stop) fun r s4 ⟨hr, I4⟩ => ?_)
    subst hr
    exact wpAny_execs_nil ⟨σ3, H3, I4, qn⟩
  · refine wpAny_passesOwn hp (thn (T.item X rfl rfl rfl hc i pins s3 σ3 H3 X.xe I3 (stat fr3) st3 go) fun r s4 ⟨u, hr, h4⟩ => ?_)
    subst hr
    refine wpAny_passesOwn hp (thn h4 fun _ s5 ⟨x, H5, I5, r5, y5, st5, fr5⟩ => ?_)
    have I5' := I5.pinned (stat fr5) (T.obj _ _ st5)
    refine wpAny_passesOwn hp (thn (hg _ s5 σ3 H5 x u _ I5' r5 (step x H5 y5)) fun _ s6 ⟨σ6, H6, I6, q6⟩ => ?_)
    refine wpAny_passesOwn hp (thn (hb _ s6 σ6 H6 _ I6 q6) fun f s7 q7 => ?_)
    have again : ∀ {σ7 : St} {H7 : Hp}, Inv X (pins ++ pinsAt fp s5.heap) σ7 H7 s7 → N σ7 H7 → ∃ m, m < n ∧ ∃ i σ' H', Inv X pins σ' H' s7 ∧ tn i s7.heap ∧ (∀ b ∈ fp, H' b = none) ∧ W i m σ' H' := fun {σ7 H7} I7 n7 => by
      obtain ⟨m', hm, w7⟩ := hN σ7 H7 n7
      refine ⟨m', hm, i + 1, σ7, H7, I7.unpinned, T.keep _ _ _ st5 fun b hb o e => (I7.pin (b, o) (List.mem_append_right _ (List.mem_append_right _ (mem_pinsAt hb e)))).1, fun b hb => ?_, w7⟩
      obtain ⟨o, e, d⟩ := T.obj _ _ st5 b hb
      exact (I7.pin (b, o) (List.mem_append_right _ (List.mem_append_right _ (mem_pinsAt hb e)))).2.1
    cases f with
    | next => obtain ⟨σ7, H7, I7, n7⟩ := q7; exact again I7 n7
    | cont => obtain ⟨σ7, H7, I7, n7⟩ := q7; exact again I7 n7
    | brk => obtain ⟨σ7, H7, I7, q7⟩ := q7; exact ⟨σ7, H7, I7.unpinned, q7⟩
    | ret v => obtain ⟨x7, σ7, H7, I7, r7, q7⟩ := q7; exact ⟨x7, σ7, H7, I7.unpinned, r7, q7⟩
end

/-! ### the forms one uses -/
/-- over a list that the body leaves as it is -/
theorem for_list {K : PySem.W.Frag} {a : Addr} {xs : List V} {g : TG} {tb : TS} {D : Ends} {σ : St} {H : Hp} (Pv : Nat → St → Hp → Prop) (h0 : Pv 0 σ H) (hl : ∀ i σ H, i ≤ xs.length → Pv i σ H → SqL K H a xs)
    (hs : ∀ i x σ H, xs[i]? = some x → Pv i σ H → g x σ H fun σ2 H2 => tb { D with nx := Pv (i + 1), ct := Pv (i + 1), bk := D.nx } σ2 H2) (hd : ∀ σ H, Pv xs.length σ H → D.nx σ H) :
    ∃ W : Nat → Nat → St → Hp → Prop, (∃ m, W 0 m σ H) ∧ ∀ i m σ H, W i m σ H →
      ((Itl K a).stop i H ∧ D.nx σ H) ∨ ((Itl K a).go i H ∧ ∃ N : St → Hp → Prop, (∀ σ' H', N σ' H' → ∃ m', m' < m ∧ W (i + 1) m' σ' H') ∧ ∀ x H', (Itl K a).yld i H x H' → g x σ H' fun σ2 H2 => tb { D with nx := N, ct := N, bk := D.nx } σ2 H2) := by
  refine ⟨fun i m σ H => m = xs.length - i ∧ i ≤ xs.length ∧ Pv i σ H, ⟨xs.length, by simp, Nat.zero_le _, h0⟩, ?_⟩
  rintro i m σ H ⟨rfl, hi, p⟩
  have q := hl i σ H hi p
  by_cases hlt : i < xs.length
  · refine .inr ⟨⟨xs, xs[i], q, by simp [hlt]⟩, Pv (i + 1), fun σ' H' p' => ⟨xs.length - (i + 1), by omega, rfl, hlt, p'⟩, fun x H' y => ?_⟩
    obtain ⟨e, y⟩ := y
    subst e
    exact hs i x σ _ (y xs q) p
  · have e : i = xs.length := by omega
    subst e
    exact .inl ⟨⟨xs, q, Nat.le_refl _⟩, hd σ H p⟩
theorem for_tup {K : PySem.W.Frag} {a : Addr} {xs : List V} {g : TG} {tb : TS} {D : Ends} {σ : St} {H : Hp} (Pv : Nat → St → Hp → Prop) (h0 : Pv 0 σ H) (hl : ∀ i σ H, i ≤ xs.length → Pv i σ H → SqT K H a xs)
    (hs : ∀ i x σ H, xs[i]? = some x → Pv i σ H → g x σ H fun σ2 H2 => tb { D with nx := Pv (i + 1), ct := Pv (i + 1), bk := D.nx } σ2 H2) (hd : ∀ σ H, Pv xs.length σ H → D.nx σ H) :
    ∃ W : Nat → Nat → St → Hp → Prop, (∃ m, W 0 m σ H) ∧ ∀ i m σ H, W i m σ H →
      ((Itt K a).stop i H ∧ D.nx σ H) ∨ ((Itt K a).go i H ∧ ∃ N : St → Hp → Prop, (∀ σ' H', N σ' H' → ∃ m', m' < m ∧ W (i + 1) m' σ' H') ∧ ∀ x H', (Itt K a).yld i H x H' → g x σ H' fun σ2 H2 => tb { D with nx := N, ct := N, bk := D.nx } σ2 H2) := by
  refine ⟨fun i m σ H => m = xs.length - i ∧ i ≤ xs.length ∧ Pv i σ H, ⟨xs.length, by simp, Nat.zero_le _, h0⟩, ?_⟩
  rintro i m σ H ⟨rfl, hi, p⟩
  have q := hl i σ H hi p
  by_cases hlt : i < xs.length
  · refine .inr ⟨⟨xs, xs[i], q, by simp [hlt]⟩, Pv (i + 1), fun σ' H' p' => ⟨xs.length - (i + 1), by omega, rfl, hlt, p'⟩, fun x H' y => ?_⟩
    obtain ⟨e, y⟩ := y
    subst e
    exact hs i x σ _ (y xs q) p
  · have e : i = xs.length := by omega
    subst e
    exact .inl ⟨⟨xs, q, Nat.le_refl _⟩, hd σ H p⟩
theorem for_range {lo : Int} {n : Nat} {g : TG} {tb : TS} {D : Ends} {σ : St} {H : Hp} (Pv : Nat → St → Hp → Prop) (h0 : Pv 0 σ H)
    (hs : ∀ i σ H, i < n → Pv i σ H → g (.int (lo + i)) σ H fun σ2 H2 => tb { D with nx := Pv (i + 1), ct := Pv (i + 1), bk := D.nx } σ2 H2) (hd : ∀ σ H, Pv n σ H → D.nx σ H) :
    ∃ W : Nat → Nat → St → Hp → Prop, (∃ m, W 0 m σ H) ∧ ∀ i m σ H, W i m σ H →
      ((Itr lo n).stop i H ∧ D.nx σ H) ∨ ((Itr lo n).go i H ∧ ∃ N : St → Hp → Prop, (∀ σ' H', N σ' H' → ∃ m', m' < m ∧ W (i + 1) m' σ' H') ∧ ∀ x H', (Itr lo n).yld i H x H' → g x σ H' fun σ2 H2 => tb { D with nx := N, ct := N, bk := D.nx } σ2 H2) := by
  refine ⟨fun i m σ H => m = n - i ∧ i ≤ n ∧ Pv i σ H, ⟨n, by simp, Nat.zero_le _, h0⟩, ?_⟩
  rintro i m σ H ⟨rfl, hi, p⟩
  by_cases hlt : i < n
  · refine .inr ⟨hlt, Pv (i + 1), fun σ' H' p' => ⟨n - (i + 1), by omega, rfl, hlt, p'⟩, fun x H' y => ?_⟩
    obtain ⟨e, y⟩ := y
    subst e y
    exact hs i σ _ hlt p
  · have e : i = n := by omega
    subst e
    exact .inl ⟨Nat.le_refl _, hd σ H p⟩
end L2

namespace L2
open PySem PySem.Spec PyProof.Rows

noncomputable abbrev R2 := V → V → Hp → VK → Prop
/-- a two-place operation on values: f is binaryOp op, inplaceOp op or compareOp op -/
noncomputable def OpR (X : Cx) (f : Value → Value → Sem Value) (r : R2) : Prop :=
  ∀ (pins : List (Addr × Obj)) (s : Shared) (σ : St) (H : Hp) (x y : V) (v u : Value) (Q : VK), Inv X pins σ H s → RelV x v → RelV y u → r x y H Q →
    wpAny (model X.prog X.w) X.A (f v u) (EP X pins σ Q) X.xe s
/-- a one-place operation -/
noncomputable def UnR (X : Cx) (f : Value → Sem Value) (r : V → Hp → VK → Prop) : Prop :=
  ∀ (pins : List (Addr × Obj)) (s : Shared) (σ : St) (H : Hp) (x : V) (v : Value) (Q : VK), Inv X pins σ H s → RelV x v → r x H Q →
    wpAny (model X.prog X.w) X.A (f v) (EP X pins σ Q) X.xe s
/-- a call of a value that is known (a builtin, a type) with values -/
noncomputable def CallR (X : Cx) (f : Value) (r : List V → Hp → VK → Prop) : Prop :=
  ∀ (pins : List (Addr × Obj)) (s : Shared) (σ : St) (H : Hp) (xs : List V) (us : List Value) (Q : VK), Inv X pins σ H s → Vals xs us → r xs H Q →
    wpAny (model X.prog X.w) X.A (call f us) (EP X pins σ Q) X.xe s
noncomputable def tOp (r : R2) (ta tb : TE) : TE := fun σ H Q => ta σ H fun x H1 => tb σ H1 fun y H2 => r x y H2 Q
noncomputable def tUn (r : V → Hp → VK → Prop) (ta : TE) : TE := fun σ H Q => ta σ H fun x H1 => r x H1 Q
/-- ints in, under C, and a value out -/
noncomputable def rI (C : Int → Int → Prop) (g : Int → Int → V) : R2 := fun x y H Q => ∃ i j, x = .int i ∧ y = .int j ∧ C i j ∧ Q (g i j) H
noncomputable def rI0 (g : Int → Int → V) : R2 := fun x y H Q => ∃ i j, x = .int i ∧ y = .int j ∧ Q (g i j) H
noncomputable def rU (g : Int → V) : V → Hp → VK → Prop := fun x H Q => ∃ i, x = .int i ∧ Q (g i) H

section
variable {X : Cx} {a b c : Expr} {ta tb tc : TE} {pos : Pos}

theorem binT (ha : PE X a ta) (hb : PE X b tb) {pins : List (Addr × Obj)} {s : Shared} {σ : St} {H : Hp} {R : V → V → Hp → Prop} (I : Inv X pins σ H s)
    (h : ta σ H fun x H1 => tb σ H1 fun y H2 => R x y H2) {Q : Value → Shared → Prop} {f : Value → Value → Sem Value}
    (hf : ∀ v u s2 x y H2, Inv X pins σ H2 s2 → RelV x v → RelV y u → R x y H2 → wpAny (model X.prog X.w) X.A (f v u) Q X.xe s2) :
    wpAny (model X.prog X.w) X.A (eval a X.env) (fun v s₁ => wpAny (model X.prog X.w) X.A (eval b X.env) (fun u s₂ => wpAny (model X.prog X.w) X.A (f v u) Q X.xe s₂) X.xe s₁) X.xe s := by
  refine thn (ha pins s σ H _ I h) fun v s1 ⟨x, H1, I1, r1, q1⟩ => ?_
  refine thn (hb pins s1 σ H1 _ I1 q1) fun u s2 ⟨y, H2, I2, r2, q2⟩ => ?_
  exact hf v u s2 x y H2 I2 r1 r2 q2

theorem pe_op {op : Operator} {r : R2} (ho : OpR X (binaryOp op) r) (ha : PE X a ta) (hb : PE X b tb) : PE X (.BinOp a op b pos) (tOp r ta tb) := by
  intro pins s σ H Q I h
  exact wpAny_BinOp (binT ha hb I h fun v u s2 x y H2 I2 rx ry q => ho pins s2 σ H2 x y v u Q I2 rx ry q)
theorem pe_un {op : UnaryOp} {r : V → Hp → VK → Prop} (ho : UnR X (unaryOp op) r) (ha : PE X a ta) : PE X (.UnaryOp op a pos) (tUn r ta) := by
  intro pins s σ H Q I h
  exact UnaryOp_ (thn (ha pins s σ H _ I h) fun v s1 ⟨x, H1, I1, r1, q1⟩ => ho pins s1 σ H1 x v Q I1 r1 q1)
/-! ### ints -/
theorem opI {f : Value → Value → Sem Value} {C : Int → Int → Prop} {g : Int → Int → Int}
    (rule : ∀ (i j : Int) (t u : Tok) (s : Shared) (Q : Value → Shared → Prop) (E : Value → Shared → Prop), C i j → Q (.int (g i j) s.toks) { s with toks := s.toks + 1 } → wpAny (model X.prog X.w) X.A (f (.int i t) (.int j u)) Q E s) :
    OpR X f (rI C fun i j => .int (g i j)) := by
  intro pins s σ H x y v u Q I rx ry h
  obtain ⟨i, j, rfl, rfl, hc, q⟩ := h
  obtain ⟨t, rfl⟩ := rx
  obtain ⟨t', rfl⟩ := ry
  exact rule i j t t' s _ _ hc ⟨.int (g i j), H, I.tok _, ⟨_, rfl⟩, q⟩
theorem opI0 {f : Value → Value → Sem Value} {g : Int → Int → Int}
    (rule : ∀ (i j : Int) (t u : Tok) (s : Shared) (Q : Value → Shared → Prop) (E : Value → Shared → Prop), Q (.int (g i j) s.toks) { s with toks := s.toks + 1 } → wpAny (model X.prog X.w) X.A (f (.int i t) (.int j u)) Q E s) :
    OpR X f (rI0 fun i j => .int (g i j)) := by
  intro pins s σ H x y v u Q I rx ry h
  obtain ⟨i, j, rfl, rfl, q⟩ := h
  obtain ⟨t, rfl⟩ := rx
  obtain ⟨t', rfl⟩ := ry
  exact rule i j t t' s _ _ ⟨.int (g i j), H, I.tok _, ⟨_, rfl⟩, q⟩
theorem opB0 {f : Value → Value → Sem Value} {g : Int → Int → Bool}
    (rule : ∀ (i j : Int) (t u : Tok) (s : Shared) (Q : Value → Shared → Prop) (E : Value → Shared → Prop), Q (.bool (g i j)) s → wpAny (model X.prog X.w) X.A (f (.int i t) (.int j u)) Q E s) :
    OpR X f (rI0 fun i j => .bl (g i j)) := by
  intro pins s σ H x y v u Q I rx ry h
  obtain ⟨i, j, rfl, rfl, q⟩ := h
  obtain ⟨t, rfl⟩ := rx
  obtain ⟨t', rfl⟩ := ry
  exact rule i j t t' s _ _ ⟨.bl (g i j), H, I, rfl, q⟩

noncomputable def CPow (i j : Int) : Prop := 0 ≤ j ∧ j ≤ 1000000 ∧ i.natAbs < 2 ^ 64
noncomputable def CMul (i j : Int) : Prop := (-(2 ^ 64) < i ∧ i < 2 ^ 64) ∨ (-(2 ^ 64) < j ∧ j < 2 ^ 64)
theorem CMul.ok {i j : Int} (h : CMul i j) : IntMulOk i j := by
  rcases h with ⟨h1, h2⟩ | ⟨h1, h2⟩
  · exact .of_left (intBits_le_64 h1 h2)
  · exact .of_right (intBits_le_64 h1 h2)
theorem op_add : OpR X (binaryOp .Add) (rI0 fun i j => .int (i + j)) := opI0 fun _ _ _ _ _ _ _ q => add_int q
theorem op_sub : OpR X (binaryOp .Sub) (rI0 fun i j => .int (i - j)) := opI0 fun _ _ _ _ _ _ _ q => sub_int q
theorem op_mul : OpR X (binaryOp .Mult) (rI CMul fun i j => .int (i * j)) := opI fun _ _ _ _ _ _ _ hc q => mul_int q hc.ok
/-- % by a positive divisor of any size -/
theorem op_mod : OpR X (binaryOp .Mod) (rI (fun _ j => 0 < j) fun i j => .int (i % j)) := opI fun i j _ _ _ _ _ hc q => by
  have h1 : (0 : Int) < j := hc
  exact mod_int' (by omega) (by rw [Int.fmod_eq_emod_of_nonneg i (by omega)]; exact q)
theorem op_pow : OpR X (binaryOp .Pow) (rI CPow fun i j => .int (i ^ j.toNat)) := opI fun _ _ _ _ _ _ _ hc q => pow_int_small hc.1 hc.2.1 hc.2.2 q
theorem unI {f : Value → Sem Value} {g : Int → Int}
    (rule : ∀ (i : Int) (t : Tok) (s : Shared) (Q : Value → Shared → Prop) (E : Value → Shared → Prop), Q (.int (g i) s.toks) { s with toks := s.toks + 1 } → wpAny (model X.prog X.w) X.A (f (.int i t)) Q E s) :
    UnR X f (rU fun i => .int (g i)) := by
  intro pins s σ H x v Q I rx h
  obtain ⟨i, rfl, q⟩ := h
  obtain ⟨t, rfl⟩ := rx
  exact rule i t s _ _ ⟨.int (g i), H, I.tok _, ⟨_, rfl⟩, q⟩
theorem un_neg : UnR X (unaryOp .USub) (rU fun i => .int (-i)) := unI fun _ _ _ _ _ q => neg_int q
/-! ### bools among ints: n += (a < b) -/
end

/-! ### comparisons -/
/-- the scalars that == tells apart as data does -/
noncomputable def scal : V → V → Bool
  | .non, .non => true | .non, .int _ => true | .int _, .non => true | .non, .bl _ => true | .bl _, .non => true | .non, .str _ => true | .str _, .non => true
  | .int _, .int _ => true | .bl _, .bl _ => true | .str _, .str _ => true | .byt _, .byt _ => true
  | .int _, .str _ => true | .str _, .int _ => true | .bl _, .str _ => true | .str _, .bl _ => true
  | _, _ => false
noncomputable def rEq : R2 := fun x y H Q => scal x y = true ∧ Q (.bl (decide (x = y))) H
noncomputable def rNe : R2 := fun x y H Q => scal x y = true ∧ Q (.bl (!decide (x = y))) H

theorem dec_int {i j : Int} : decide (V.int i = V.int j) = (i == j) := by
  rw [Bool.eq_iff_iff]
  simp
theorem dec_bl {i j : Bool} : decide (V.bl i = V.bl j) = (i == j) := by
  rw [Bool.eq_iff_iff]
  simp
theorem dec_str {i j : Str} : decide (V.str i = V.str j) = (i == j) := by
  rw [Bool.eq_iff_iff]
  simp
theorem dec_byt {i j : Array UInt8} : decide (V.byt i = V.byt j) = (i.toList == j.toList) := by
  rw [Bool.eq_iff_iff]
  cases i
  cases j
  simp

section
variable {X : Cx} {a b c : Expr} {ta tb tc : TE} {pos : Pos}
theorem fin_bl {pins : List (Addr × Obj)} {σ : St} {H : Hp} {s : Shared} {Q : VK} {k k' : Bool} (I : Inv X pins σ H s) (q : Q (.bl k) H) (e : k = k') : EP X pins σ Q (.bool k') s := by
  subst e
  exact ⟨.bl k, H, I, rfl, q⟩
theorem op_eq : OpR X (compareOp .Eq) rEq := by
  intro pins s σ H x y v u Q I rx ry h
  obtain ⟨hs, q⟩ := h
  cases x with
  | non =>
    cases rx
    cases y with
    | non => cases ry; exact PySem.EqNone.eq_none_none (fin_bl I q (by simp))
    | bl j => cases ry; exact PySem.EqNone.eq_none_bool (fin_bl I q (by simp))
    | int j => obtain ⟨t', rfl⟩ := ry; exact PySem.EqNone.eq_none_int (fin_bl I q (by simp))
    | str j => obtain ⟨t', rfl⟩ := ry; exact PySem.EqNone.eq_none_str (fin_bl I q (by simp))
    | _ => exact absurd (show false = true from hs) Bool.false_ne_true
  | bl i =>
    cases rx
    cases y with
    | non => cases ry; exact PySem.EqNone.eq_bool_none (fin_bl I q (by simp))
    | bl j => cases ry; exact eq_bool (fin_bl I q dec_bl)
    | str j => obtain ⟨t', rfl⟩ := ry; exact PySem.EqMixed.eq_bool_str (fin_bl I q (by simp))
    | _ => exact absurd (show false = true from hs) Bool.false_ne_true
  | int i =>
    obtain ⟨t, rfl⟩ := rx
    cases y with
    | non => cases ry; exact PySem.EqNone.eq_int_none (fin_bl I q (by simp))
    | int j => obtain ⟨t', rfl⟩ := ry; exact eq_int (fin_bl I q dec_int)
    | str j => obtain ⟨t', rfl⟩ := ry; exact PySem.EqMixed.eq_int_str (fin_bl I q (by simp))
    | _ => exact absurd (show false = true from hs) Bool.false_ne_true
  | str i =>
    obtain ⟨t, rfl⟩ := rx
    cases y with
    | non => cases ry; exact PySem.EqNone.eq_str_none (fin_bl I q (by simp))
    | bl j => cases ry; exact PySem.EqMixed.eq_str_bool (fin_bl I q (by simp))
    | int j => obtain ⟨t', rfl⟩ := ry; exact PySem.EqMixed.eq_str_int (fin_bl I q (by simp))
    | str j => obtain ⟨t', rfl⟩ := ry; exact eq_str (fin_bl I q dec_str)
    | _ => exact absurd (show false = true from hs) Bool.false_ne_true
  | byt i =>
    obtain ⟨t, rfl⟩ := rx
    cases y with
    | byt j => obtain ⟨t', rfl⟩ := ry; exact PySem.W.eq_bytes (fin_bl I q dec_byt)
    | _ => exact absurd (show false = true from hs) Bool.false_ne_true
  | _ => cases y <;> exact absurd (show false = true from hs) Bool.false_ne_true
theorem op_ne : OpR X (compareOp .NotEq) rNe := by
  intro pins s σ H x y v u Q I rx ry h
  obtain ⟨hs, q⟩ := h
  cases x with
  | non =>
    cases rx
    cases y with
    | non => cases ry; exact PySem.EqNone.ne_none_none (fin_bl I q (by simp))
    | bl j => cases ry; exact PySem.EqNone.ne_none_bool (fin_bl I q (by simp))
    | int j => obtain ⟨t', rfl⟩ := ry; exact PySem.EqNone.ne_none_int (fin_bl I q (by simp))
    | str j => obtain ⟨t', rfl⟩ := ry; exact PySem.EqNone.ne_none_str (fin_bl I q (by simp))
    | _ => exact absurd (show false = true from hs) Bool.false_ne_true
  | bl i =>
    cases rx
    cases y with
    | non => cases ry; exact PySem.EqNone.ne_bool_none (fin_bl I q (by simp))
    | bl j => cases ry; exact ne_bool (fin_bl I q (congrArg not dec_bl))
    | str j => obtain ⟨t', rfl⟩ := ry; exact PySem.EqMixed.ne_bool_str (fin_bl I q (by simp))
    | _ => exact absurd (show false = true from hs) Bool.false_ne_true
  | int i =>
    obtain ⟨t, rfl⟩ := rx
    cases y with
    | non => cases ry; exact PySem.EqNone.ne_int_none (fin_bl I q (by simp))
    | int j => obtain ⟨t', rfl⟩ := ry; exact ne_int (fin_bl I q (congrArg not dec_int))
    | str j => obtain ⟨t', rfl⟩ := ry; exact PySem.EqMixed.ne_int_str (fin_bl I q (by simp))
    | _ => exact absurd (show false = true from hs) Bool.false_ne_true
  | str i =>
    obtain ⟨t, rfl⟩ := rx
    cases y with
    | non => cases ry; exact PySem.EqNone.ne_str_none (fin_bl I q (by simp))
    | bl j => cases ry; exact PySem.EqMixed.ne_str_bool (fin_bl I q (by simp))
    | int j => obtain ⟨t', rfl⟩ := ry; exact PySem.EqMixed.ne_str_int (fin_bl I q (by simp))
    | str j => obtain ⟨t', rfl⟩ := ry; exact ne_str (fin_bl I q (congrArg not dec_str))
    | _ => exact absurd (show false = true from hs) Bool.false_ne_true
  | byt i =>
    obtain ⟨t, rfl⟩ := rx
    cases y with
    | byt j => obtain ⟨t', rfl⟩ := ry; exact PySem.W.ne_bytes (fin_bl I q (congrArg not dec_byt))
    | _ => exact absurd (show false = true from hs) Bool.false_ne_true
  | _ => cases y <;> exact absurd (show false = true from hs) Bool.false_ne_true

theorem op_lt : OpR X (compareOp .Lt) (rI0 fun i j => .bl (decide (i < j))) := opB0 fun _ _ _ _ _ _ _ q => lt_int q
theorem op_le : OpR X (compareOp .LtE) (rI0 fun i j => .bl (decide (i ≤ j))) := opB0 fun _ _ _ _ _ _ _ q => le_int q
theorem op_gt : OpR X (compareOp .Gt) (rI0 fun i j => .bl (decide (j < i))) := opB0 fun _ _ _ _ _ _ _ q => gt_int q
theorem op_ge : OpR X (compareOp .GtE) (rI0 fun i j => .bl (decide (j ≤ i))) := opB0 fun _ _ _ _ _ _ _ q => ge_int q
theorem op_lt_str : OpR X (compareOp .Lt) (fun x y H Q => ∃ i j, x = .str i ∧ y = .str j ∧ Q (.bl (decide (i.cps.toList < j.cps.toList))) H) := by
  intro pins s σ H x y v u Q I rx ry h
  obtain ⟨i, j, rfl, rfl, q⟩ := h
  obtain ⟨t, rfl⟩ := rx
  obtain ⟨t', rfl⟩ := ry
  exact lt_str (fin_bl I q rfl)
/-- the one string within the other -/
theorem op_in_str : OpR X (compareOp .In) (fun x y H Q => ∃ i j, x = .str i ∧ y = .str j ∧ Q (.bl (!(Builtin.Str.occurrences j i 0 j.length 1).isEmpty)) H) := by
  intro pins s σ H x y v u Q I rx ry h
  obtain ⟨i, j, rfl, rfl, q⟩ := h
  obtain ⟨t, rfl⟩ := rx
  obtain ⟨t', rfl⟩ := ry
  exact in_str (fin_bl I q rfl)

/-- is None, is not None: the right side a value none -/
theorem op_isN : OpR X (compareOp .Is) (fun x y H Q => y = .non ∧ Q (.bl (decide (x = .non))) H) := by
  intro pins s σ H x y v u Q I rx ry h
  obtain ⟨rfl, q⟩ := h
  cases ry
  refine is_none_gen (fin_bl I q ?_)
  cases x <;> first
    | (cases rx; rfl)
    | (obtain ⟨t, rfl⟩ := rx; rfl)
theorem op_notN : OpR X (compareOp .IsNot) (fun x y H Q => y = .non ∧ Q (.bl (!decide (x = .non))) H) := by
  intro pins s σ H x y v u Q I rx ry h
  obtain ⟨rfl, q⟩ := h
  cases ry
  refine isnot_none_gen (fin_bl I q ?_)
  cases x <;> first
    | (cases rx; rfl)
    | (obtain ⟨t, rfl⟩ := rx; rfl)

theorem nomark (b : Expr) {op : CmpOp} (h : op ≠ .In := by decide) (h2 : op ≠ .NotIn := by decide) : behindInMarks op b = false := by
  have e1 : (op == CmpOp.In) = false := by cases op <;> first | rfl | exact absurd rfl h
  have e2 : (op == CmpOp.NotIn) = false := by cases op <;> first | rfl | exact absurd rfl h2
  cases b <;> simp [behindInMarks, e1, e2]
/-- a comparison as a value; hm: nomark b, or (for in, not in) by with_unfolding_all rfl -/
theorem pe_cmpR {op : CmpOp} {r : R2} (ho : OpR X (compareOp op) r) (ha : PE X a ta) (hb : PE X b tb) (hm : behindInMarks op b = false) : PE X (.Compare a [op] [b] pos) (tOp r ta tb) := by
  intro pins s σ H Q I h
  exact wpAny_Compare1 (binT ha hb I h fun v u s2 x y H2 I2 rx ry q => ho pins s2 σ H2 x y v u Q I2 rx ry q) hm
/-- a reading of a value as a test -/
noncomputable def tTest (t : TE) : TT := fun σ H Q => t σ H fun x H' => ∃ k, x = .bl k ∧ Q k H'
theorem pt_cmpR {op : CmpOp} {r : R2} (ho : OpR X (compareOp op) r) (ha : PE X a ta) (hb : PE X b tb) (hm : behindInMarks op b = false) : PT X (.Compare a [op] [b] pos) (tTest (tOp r ta tb)) := by
  intro pins s σ H Q I h
  refine wpAny_isTrue_Compare1 (thn (ha pins s σ H _ I h) fun v s1 ⟨x, H1, I1, r1, q1⟩ => thn (hb pins s1 σ H1 _ I1 q1) fun u s2 ⟨y, H2, I2, r2, q2⟩ =>
    thn (ho pins s2 σ H2 x y v u _ I2 r1 r2 q2) fun c s3 ⟨z, H3, I3, r3, k, e, q3⟩ => ?_) hm
  subst e
  cases r3
  exact wpAny_truthy_bool ⟨H3, I3, q3⟩
/-- a op1 b op2 c -/
noncomputable def tChain (r r' : R2) (ta tb tc : TE) : TE := fun σ H Q => ta σ H fun x H1 => tb σ H1 fun y H2 => r x y H2 fun z H3 => ∃ k, z = .bl k ∧
  (if k = true then tc σ H3 fun w' H4 => r' y w' H4 Q else Q (.bl false) H3)
theorem pe_chain {op op' : CmpOp} {r r' : R2} (ho : OpR X (compareOp op) r) (ho' : OpR X (compareOp op') r') (ha : PE X a ta) (hb : PE X b tb) (hc : PE X c tc)
    (hm : lastMarks [op, op'] [b, c] = false := by with_unfolding_all rfl) : PE X (.Compare a [op, op'] [b, c] pos) (tChain r r' ta tb tc) := by
  intro pins s σ H Q I h
  refine Compare_chain (thn (ha pins s σ H _ I h) fun v s1 ⟨x, H1, I1, r1, q1⟩ => chain_link (thn (hb pins s1 σ H1 _ I1 q1) fun u s2 ⟨y, H2, I2, r2, q2⟩ =>
    thn (ho pins s2 σ H2 x y v u _ I2 r1 r2 q2) fun d s3 ⟨z, H3, I3, r3, k, e, q3⟩ => ?_)) hm
  subst e
  cases r3
  refine wpAny_truthy_bool ?_
  cases k with
  | false => exact ite_ff ⟨.bl false, H3, I3, rfl, q3⟩
  | true => exact ite_tt (chain_last (thn (hc pins s3 σ H3 _ I3 q3) fun w' s4 ⟨z', H4, I4, r4, q4⟩ => ho' pins s4 σ H4 y z' u w' Q I4 r2 r4 q4))
theorem pt_chain {op op' : CmpOp} {r r' : R2} (ho : OpR X (compareOp op) r) (ho' : OpR X (compareOp op') r') (ha : PE X a ta) (hb : PE X b tb) (hc : PE X c tc)
    (hm : lastMarks [op, op'] [b, c] = false := by with_unfolding_all rfl) : PT X (.Compare a [op, op'] [b, c] pos) (tTest (tChain r r' ta tb tc)) := by
  intro pins s σ H Q I h
  refine isTrue_chain (thn (ha pins s σ H _ I h) fun v s1 ⟨x, H1, I1, r1, q1⟩ => test_link (thn (hb pins s1 σ H1 _ I1 q1) fun u s2 ⟨y, H2, I2, r2, q2⟩ =>
    thn (ho pins s2 σ H2 x y v u _ I2 r1 r2 q2) fun d s3 ⟨z, H3, I3, r3, k, e, q3⟩ => ?_)) hm
  subst e
  cases r3
  refine wpAny_truthy_bool ?_
  cases k with
  | false =>
    obtain ⟨k', e', q'⟩ := q3
    cases e'
    exact ite_ff ⟨H3, I3, q'⟩
  | true =>
    refine ite_tt (test_last (thn (hc pins s3 σ H3 _ I3 q3) fun w' s4 ⟨z', H4, I4, r4, q4⟩ => thn (ho' pins s4 σ H4 y z' u w' _ I4 r2 r4 q4) fun d' s5 ⟨z2, H5, I5, r5, k2, e2, q5⟩ => ?_))
    subst e2
    cases r5
    exact wpAny_truthy_bool ⟨H5, I5, q5⟩

/-! ### truth -/
theorem line63 : (sizeLine : Nat) < 2 ^ 63 := by rw [sizeLine_eq]; decide
/-! ### strs and bytes -/
theorem op_add_str : OpR X (binaryOp .Add) (fun x y H Q => ∃ i j, x = .str i ∧ y = .str j ∧ i.length + j.length ≤ sizeLine ∧ Q (.str (i ++ j)) H) := by
  intro pins s σ H x y v u Q I rx ry h
  obtain ⟨i, j, rfl, rfl, hz, q⟩ := h
  obtain ⟨t, rfl⟩ := rx
  obtain ⟨t', rfl⟩ := ry
  exact add_str (fun t' tk => ⟨.str (i ++ j), H, I.tok _, ⟨_, rfl⟩, q⟩) hz
/-! ### scalar builtins, by CallR -/
theorem vals1 {x : V} {us : List Value} (r : Vals [x] us) : ∃ u, us = [u] ∧ RelV x u := by
  cases r with
  | cons r1 r2 => cases r2; exact ⟨_, rfl, r1⟩
theorem vals2 {x y : V} {us : List Value} (r : Vals [x, y] us) : ∃ u w', us = [u, w'] ∧ RelV x u ∧ RelV y w' := by
  cases r with
  | cons r1 r2 =>
    cases r2 with
    | cons r3 r4 => cases r4; exact ⟨_, _, rfl, r1, r3⟩
theorem call_min2 (hc : X.calm = true) : CallR X (.builtin "min") (fun xs H Q => ∃ i j, xs = [.int i, .int j] ∧ Q (.int (if j < i then j else i)) H) := by
  intro pins s σ H xs us Q I r h
  obtain ⟨i, j, rfl, q⟩ := h
  obtain ⟨u, w', rfl, ⟨t, rfl⟩, ⟨t', rfl⟩⟩ := vals2 r
  refine min_two_ints (I.ok.hd hc) fun h' tk k => ⟨_, H, I.kept k, ?_, q⟩
  by_cases hj : j < i
  · rw [if_pos hj, if_pos hj]; exact ⟨_, rfl⟩
  · rw [if_neg hj, if_neg hj]; exact ⟨_, rfl⟩
theorem call_int1 : CallR X (.type "int") (fun xs H Q => (∃ i, xs = [.int i] ∧ Q (.int i) H) ∨ ∃ k, xs = [.bl k] ∧ Q (.int (if k then 1 else 0)) H) := by
  intro pins s σ H xs us Q I r h
  rcases h with ⟨i, rfl, q⟩ | ⟨k, rfl, q⟩
  · obtain ⟨u, rfl, t, rfl⟩ := vals1 r
    exact call_int_int ⟨.int i, H, I, ⟨_, rfl⟩, q⟩
  · obtain ⟨u, rfl, r1⟩ := vals1 r
    cases r1
    exact call_int_bool ⟨.int (if k then 1 else 0), H, I.tok _, ⟨_, rfl⟩, q⟩
end
end L2

namespace L2
open PySem PySem.Spec PyProof.Rows

/-! ### an instance, its attributes a map -/
structure ObjM (h : Heap) (x dx C : Addr) (mA : Str → Option Value) : Prop where
  obj : h.get? x = some (PySem.W.instObj C dx)
  ns : h.Ns1 dx mA
  ne : dx ≠ x

theorem lookIn_ns {h : Heap} {dx : Addr} {mA : Str → Option Value} (n : h.Ns1 dx mA) : ∃ od, h.get? dx = some od ∧ ∀ name, PySem.W.lookIn name od = some (mA name) := by
  obtain ⟨o, es, ep, ho, hd, hk, _, hm⟩ := n
  refine ⟨o, ho, fun name => ?_⟩
  have e := hm name
  unfold nsFind findBy at e
  rw [← Array.find?_toList] at e
  unfold PySem.W.lookIn
  rw [hd]
  dsimp only
  split
  · rename_i y q
    rw [q] at e
    exact congrArg some e
  · rename_i q
    rw [q] at e
    have a : es.toList.any (·.refKey) = false := by
      rw [List.any_eq_false]
      intro y hy
      obtain ⟨z, t, hkey⟩ := hk y (Array.mem_toList_iff.mp hy)
      simp [DictEntry.refKey, hkey]
    have a' : ¬ es.toList.any (·.refKey) = true := by rw [a]; exact Bool.false_ne_true
    rw [if_neg a']
    exact congrArg some e

theorem ObjM.look {h : Heap} {x dx C : Addr} {mA : Str → Option Value} (I : ObjM h x dx C mA) : ∃ od, PySem.W.InstAt h x (PySem.W.instObj C dx) C (some od) ∧ ∀ name, PySem.W.lookIn name od = some (mA name) :=
  let ⟨od, ho, hl⟩ := lookIn_ns I.ns
  ⟨od, ⟨I.obj, rfl, rfl, ho⟩, hl⟩

section
variable {prog : Program} {w : World} {A : Around} {E : Value → Shared → Prop} {s : Shared} {K : PySem.W.Frag} {x dx C f : Addr} {mA : Str → Option Value} {name : Str} {v : Value}

end

/-! ### the attributes as a list of pairs -/
section
variable {P : Program} {w : World} {H H' : Hp} {h h' : Heap} {a C dx : Addr} {fs fs' : List (Str × V)}
end

/-! ### what of the text a class must have -/
structure Cls (K : PySem.W.Frag) (C : Addr) : Prop where
  pg : PySem.W.plainGet K C Str.empty = true
  hd : PySem.W.hasDictIn K C = true
  po : PySem.W.plainOver K C = true
  sa : PySem.W.findIn K (.ref C) "__setattr__" = some (some (.builtin "object.__setattr__"))
theorem Cls.get {K : PySem.W.Frag} {C : Addr} (c : Cls K C) (f : Str) : PySem.W.plainGet K C f = true := c.pg
section
variable {X : Cx} {pins : List (Addr × Obj)} {σ : St} {H : Hp} {s : Shared} {a C dx : Addr} {fs : List (Str × V)} {f : Str} {v : V} {A : Around} {E : Value → Shared → Prop}

/-- a new instance, tracked, without attributes -/
theorem Inv.made (I : Inv X pins σ H s) : Inv X pins σ (upd (upd H s.heap.objs.size (.own (s.heap.objs.size + 1))) (s.heap.objs.size + 1) (.ins C s.heap.objs.size []))
    { s with heap := (s.heap.push PySem.W.emptyDict).push (PySem.W.instObj C s.heap.objs.size) } := by
  have e1 : (s.heap.push PySem.W.emptyDict).get? s.heap.objs.size = some PySem.W.emptyDict := Heap.get?_push_size s.heap rfl
  have e2 : ((s.heap.push PySem.W.emptyDict).push (PySem.W.instObj C s.heap.objs.size)).get? (s.heap.objs.size + 1) = some (PySem.W.instObj C s.heap.objs.size) := by
    have := Heap.get?_push_size (s.heap.push PySem.W.emptyDict) (o := PySem.W.instObj C s.heap.objs.size) rfl
    rwa [Heap.size_push] at this
  have e3 : (s.heap.push PySem.W.emptyDict).Ns s.heap.objs.size (fun _ => none) := ⟨PySem.W.emptyDict, #[], _, e1, rfl, (fun e he => absurd he (by simp)), fun _ => rfl⟩
  have I1 := I.laid (a := s.heap.objs.size) (o := .own (s.heap.objs.size + 1)) (h' := s.heap.push PySem.W.emptyDict) (t' := s.toks) (fun b u q => Heap.get?_push_of_some _ q) (Nat.le_refl _) ⟨_, e1⟩
  refine I1.laid (a := s.heap.objs.size + 1) (o := .ins C s.heap.objs.size []) (t' := s.toks) (fun b u q => Heap.get?_push_of_some _ q) (Nat.le_of_eq (Heap.size_push _ _)) ?_
  have ne : s.heap.objs.size ≠ s.heap.objs.size + 1 := Nat.ne_of_lt (Nat.lt_succ_self _)
  refine ⟨by rw [upd_ne ne, upd_same], Nat.zero_le _, ne, e2, fun _ => none, (Heap.Ns1.of_empty e3).at fun o q => Heap.get?_push_of_some _ q, fun _ => True.intro, fun y hy => absurd rfl hy⟩

end

/-! ### readings and rules -/
section
variable {X : Cx} {o e value : Expr} {f : Str} {pos pos' tpos : Pos} {ta tv : TE}
end

/-! ### isinstance -/
section
variable {X : Cx} {pins : List (Addr × Obj)} {σ : St} {H : Hp} {s : Shared} {A : Around} {E : Value → Shared → Prop} {Q : Value → Shared → Prop} {c : Value} {b : Bool}
end
end L2

namespace L2
open PySem PySem.Spec PyProof.Rows

/-! ### room -/
structure Room (k : Nat) (A : Around) : Prop where
  hd : A.handled = none
  dp : A.depth + 3 * k + 5 < recursionLimit
  un : A.units + 16 * k + 200 < cLine
theorem Room.mono {j k : Nat} {A : Around} (r : Room k A) (h : j ≤ k) : Room j A := ⟨r.hd, by have := r.dp; omega, by have := r.un; omega⟩
theorem Room.deeper {k : Nat} {A : Around} (r : Room (k + 1) A) (env : Env) : Room k (A.deeper env) :=
  ⟨r.hd, by have := r.dp; show A.depth + 1 + 3 * k + 5 < _; omega, by have := r.un; show A.units + 3 + 16 * k + 200 < _; omega⟩
theorem Room.in1 {k : Nat} {A : Around} (r : Room (k + 1) A) : Room k A.in1 :=
  ⟨r.hd, by have := r.dp; show A.depth + 3 * k + 5 < _; omega, by have := r.un; show A.units + 1 + 16 * k + 200 < _; omega⟩
theorem Room.depth {k : Nat} {A : Around} (r : Room k A) : A.depth < recursionLimit := by have := r.dp; omega
theorem Room.units {k : Nat} {A : Around} (r : Room k A) : A.units + 64 < cLine := by have := r.un; omega
/-! ### argument lists and displays -/
noncomputable def tNil : TA := fun _ H Q => Q [] H
noncomputable def tCons (ta : TE) (tr : TA) : TA := fun σ H Q => ta σ H fun x H1 => tr σ H1 fun xs H2 => Q (x :: xs) H2
section
variable {X : Cx} {e : Expr} {es : List Expr} {te : TE} {t : TA} {pos : Pos}
theorem pa_nil : PA X [] tNil := fun _ _ _ _ H Q I h => Calls.spliced_nil ⟨[], H, I, .nil, h⟩
theorem pa_cons (ha : PE X e te) (hr : PA X es t) (hs : starEach (e :: es) X.env = (false, eval e X.env) :: starEach es X.env := by rfl) : PA X (e :: es) (tCons te t) := by
  intro pos pins s σ H Q I h
  rw [hs]
  show wpAny _ _ (spliced ((false, eval e X.env) :: backTo pos (starEach es X.env))) _ _ s
  refine Calls.spliced_cons (thn (ha pins s σ H _ I h) fun u s1 ⟨x, H1, I1, r1, q1⟩ => ?_)
  exact thn (hr pos pins s1 σ H1 _ I1 q1) fun us s2 ⟨xs, H2, I2, r2, q2⟩ => ⟨x :: xs, H2, I2, .cons r1 r2, q2⟩

noncomputable def tLst (t : TA) : TE := fun σ H Q => t σ H fun xs H1 => xs.length ≤ sizeLine ∧ ∀ p, H1 p = none → Q (.ref p) (upd H1 p (.lst xs))
theorem pe_lst (h : PA X es t) : PE X (.List es pos) (tLst t) := by
  intro pins s σ H Q I hq
  refine wpAny_List_spliced (thn (h pos pins s σ H _ I hq) fun us s1 ⟨xs, H1, I1, r, z, q⟩ => ⟨by rw [← r.length]; exact z, ?_⟩)
  have hf : H1 s1.heap.objs.size = none := I1.hok.fresh (Nat.le_refl _)
  refine ⟨.ref s1.heap.objs.size, upd H1 s1.heap.objs.size (.lst xs), I1.laid (t' := s1.toks) (fun b u e => Heap.get?_push_of_some _ e) (Nat.le_refl _) ?_, rfl, q _ hf⟩
  exact ⟨z, us, 0, r, Heap.get?_push_size _ rfl⟩
end

/-! ### what a def promises -/
/-- a def's promise: the bound arguments in the parameters' order, the heap, the wanted end, the wanted exception -/
noncomputable abbrev Sp := List V → Hp → VK → XK → Prop
/-- how an exception lies behind a call (file 08 gives it): the callers' frames, abstract heap and state ahead of the call, the wish, the exception, the state -/
noncomputable abbrev CXT := List Env → Hp → Shared → XK → Value → Shared → Prop

/-- the state at a call -/
structure Env0 (P : Program) (w : World) (K : PySem.W.Frag) (mg : Str → Option Value) (base : Heap) (A : Around) (outer : List Env) (s : Shared) (H : Hp) : Prop where
  frames : A.frames = some outer
  mod : Mod K mg base
  bs : ∀ b o, base.get? b = some o → s.heap.get? b = some o ∧ H b = none
  bsz : base.objs.size ≤ s.heap.objs.size
  funs : s.heap.FunFrames base outer
  frf : ∀ b ∈ frs outer, H b = none
  hok : HOk P w H s.heap
  bare : AllBare s.gens
/-- a call's end -/
noncomputable def CE (outer : List Env) (P : Program) (w : World) (H : Hp) (s : Shared) (Q : VK) (u : Value) (s' : Shared) : Prop :=
  ∃ v H', s'.os = s.os ∧ AllBare s'.gens ∧ Un (frs outer) [] H H' s.heap s'.heap ∧ HOk P w H' s'.heap ∧ RelV v u ∧ Q v H'
noncomputable def CR (CX : CXT) (outer : List Env) (P : Program) (w : World) (H : Hp) (s : Shared) (Q : VK) (E : XK) (r : Result) (s' : Shared) : Prop :=
  match r with
  | .ok (.ret u) => CE outer P w H s Q u s'
  | .ok _ => False
  | .error e => CX outer H s E e s'
structure FnOk (P : Program) (w : World) (K : PySem.W.Frag) (mg : Str → Option Value) (base : Heap) (CX : CXT) (k : Nat) (f : Addr) (fd : FuncData) (ps : List Str) (sp : Sp) : Prop where
  len : ∀ vs H Q E, sp vs H Q E → vs.length = ps.length
  run : ∀ (A : Around) (outer : List Env) (s : Shared) (H : Hp) (args : Args) (us : List Value) (vs : List V) (Q : VK) (E : XK), Room k A → Env0 P w K mg base A outer s H → BindsTo s fd args (ps.zip us) → Vals vs us → sp vs H Q E →
    codeAny (model P w) A (.call (.ref f) args) (CR CX outer P w H s Q E) s
theorem FnOk.mono {P : Program} {w : World} {K : PySem.W.Frag} {mg : Str → Option Value} {base : Heap} {CX : CXT} {j k : Nat} {f : Addr} {fd : FuncData} {ps : List Str} {sp : Sp} (F : FnOk P w K mg base CX j f fd ps sp) (h : j ≤ k) :
    FnOk P w K mg base CX k f fd ps sp := ⟨F.len, fun A outer s H args us vs Q E hr => F.run A outer s H args us vs Q E (hr.mono h)⟩
/-- a weaker promise -/
theorem FnOk.imp {P : Program} {w : World} {K : PySem.W.Frag} {mg : Str → Option Value} {base : Heap} {CX : CXT} {k : Nat} {f : Addr} {fd : FuncData} {ps : List Str} {sp sp' : Sp} (F : FnOk P w K mg base CX k f fd ps sp)
    (h : ∀ vs H Q E, sp' vs H Q E → sp vs H Q E) : FnOk P w K mg base CX k f fd ps sp' :=
  ⟨fun vs H Q E q => F.len vs H Q E (h _ _ _ _ q), fun A outer s H args us vs Q E hr he hb hv hs => F.run A outer s H args us vs Q E hr he hb hv (h _ _ _ _ hs)⟩

theorem Env0.in1 {P : Program} {w : World} {K : PySem.W.Frag} {mg : Str → Option Value} {base : Heap} {A : Around} {outer : List Env} {s : Shared} {H : Hp} (e : Env0 P w K mg base A outer s H) :
    Env0 P w K mg base A.in1 outer s H := ⟨e.frames, e.mod, e.bs, e.bsz, e.funs, e.frf, e.hok, e.bare⟩

section
variable {X : Cx} {pins : List (Addr × Obj)} {σ : St} {H : Hp} {s s' : Shared}
/-- from a body: what a callee wants -/
theorem Inv.env0 (I : Inv X pins σ H s) : Env0 X.prog X.w X.K X.mg X.base X.A X.stack s H :=
  ⟨I.ok.frames, I.ok.mod, I.bs, Nat.le_trans I.ok.bsz I.sz, I.stack, I.stkFree, I.hok, I.bare⟩
/-- behind a call -/
theorem Inv.after {Q : VK} {u : Value} (I : Inv X pins σ H s) (h : CE X.stack X.prog X.w H s Q u s') : EP X pins σ Q u s' := by
  obtain ⟨v, H', os, bare, un, hok, r, q⟩ := h
  obtain ⟨hh, g, d, t, os'⟩ := s'
  obtain rfl : os' = s.os := os
  exact ⟨v, H', I.call (h' := hh) (g' := g) (d' := d) (t' := t) (ch := []) un hok bare (fun b z => absurd z (by simp)), r, q⟩
end

/-! ### calls -/
/-- f(..): the written arguments, then the defaults dvs; E: what is wanted of an exception -/
noncomputable def tCall (sp : Sp) (dvs : List V) (E : XK) (t : TA) : TE := fun σ H Q => t σ H fun vs H1 => sp (vs ++ dvs) H1 Q E
/-- how the parameters are bound: us the positional arguments, kw the keywords' values by name, ds the defaults that fill up -/
noncomputable def Binds (K : PySem.W.Frag) (fd : FuncData) (ps : List Str) (ds : List Value) : Prop :=
  ∀ (s : Shared) (us : List Value), K.In s.heap → (us ++ ds).length = ps.length → BindsTo s fd ⟨us, []⟩ (ps.zip (us ++ ds))
/-- every parameter is given -/
theorem Binds.all {K : PySem.W.Frag} {fd : FuncData} {ps : List Str} (h : ∀ us : List Value, us.length = ps.length → bindArgs fd ⟨us, []⟩ = pure (ps.zip us)) : Binds K fd ps [] := fun s us _ hl => by
  rw [List.append_nil] at hl ⊢
  exact .of_eq (h us hl)

/-- an exception of a callee reaches what this body wants of exceptions -/
noncomputable def Passes (CX : CXT) (X : Cx) (E : XK) : Prop := ∀ (pins : List (Addr × Obj)) (σ : St) (H : Hp) (s : Shared) (e : Value) (s' : Shared), Inv X pins σ H s → CX X.stack H s E e s' → X.xe e s'

section
variable {X : Cx} {CX : CXT} {k : Nat} {f C : Addr} {fd : FuncData} {ps : List Str} {sp : Sp} {dvs : List V} {ds : List Value} {E : XK} {x m : Str} {p pos apos : Pos} {e o : Expr} {es : List Expr} {ta : TE} {t : TA}

/-- the callee runs -/
theorem run_fn {pins : List (Addr × Obj)} {σ : St} {H : Hp} {s : Shared} {Q : VK} {us : List Value} {vs : List V} (F : FnOk X.prog X.w X.K X.mg X.base CX k f fd ps sp) (hr : Room k X.A) (hb : Binds X.K fd ps ds) (hd : Vals dvs ds) (hx : Passes CX X E)
    (I : Inv X pins σ H s) (r : Vals vs us) (h : sp (vs ++ dvs) H Q E) : wpAny (model X.prog X.w) X.A (call (.ref f) us) (EP X pins σ Q) X.xe s := by
  have r2 : Vals (vs ++ dvs) (us ++ ds) := r.append hd
  have hl : (us ++ ds).length = ps.length := by rw [← r2.length]; exact F.len _ _ _ _ h
  refine wpAny_call (codeAny_mono (F.run X.A X.stack s H ⟨us, []⟩ (us ++ ds) (vs ++ dvs) Q E hr I.env0 (hb s us I.kIn hl) r2 h) fun r s' hq => ?_)
  cases r with
  | error e => exact hx pins σ H s e s' I hq
  | ok fl =>
    cases fl with
    | ret u => exact I.after hq
    | next => exact False.elim hq
    | brk => exact False.elim hq
    | cont => exact False.elim hq

theorem pe_call (F : FnOk X.prog X.w X.K X.mg X.base CX k f fd ps sp) (hr : Room k X.A) (hg : Gl X x) (hm : X.mg x = some (.ref f)) (hk : PySem.W.keepIn X.K (.ref f) = true) (hb : Binds X.K fd ps ds) (hd : Vals dvs ds) (hx : Passes CX X E)
    (ha : PA X (e :: es) t) (hdb : (x == ("__debug__" : Str)) = false := by decide) (he : starEach (e :: es) X.env = (false, eval e X.env) :: starEach es X.env := by rfl) (hpl : (backTo pos (starEach es X.env)).any (·.1) = false := by rfl) :
    PE X (.Call (.Name x p) (e :: es) [] pos) (tCall sp dvs E t) := by
  intro pins s σ H Q I h
  refine wpAny_Call_Name_kw (ld_glob I hg hm ?_ hdb)
  refine PySem.W.callWith_K (h₀ := X.base) I.ok.mod.kin hk (thn (ha pos pins s σ H _ I h) fun us s1 ⟨vs, H1, I1, r, q⟩ => ⟨I1.kIn, ?_⟩) he hpl
  exact run_fn F hr hb hd hx I1 r q
end

/-! ### keywords -/
section
variable {X : Cx} {CX : CXT} {k : Nat} {f C : Addr} {fd : FuncData} {ps ks : List Str} {sp : Sp} {E : XK} {x m : Str} {p pos apos kpos : Pos} {e o : Expr} {es : List Expr} {kws : List Keyword} {te ta : TE} {t tk : TA} {nm : Option Str}
variable {g : List Value → List Value → List Value} {gV : List V → List V → List V}
end

/-! ### a def's body keeps its promise -/
/-- names: the parameters first -/
structure FnScope (N P : List Str) (sc : Scope) : Prop where
  kind : sc.kind = .function
  co : sc.isCoroutine = false
  gen : sc.isGenerator = false
  nd : N.Nodup
  pre : N.take P.length = P
  par : ∀ x ∈ P, sc.names.lookup x = some .local ∨ sc.names.lookup x = some .cell
  nofree : ∀ y ∈ sc.names, y.2 ≠ .free

theorem bindL_out {kindOf : Str → Option NameKind} {x : Str} : ∀ {binds : List (Str × Value)} {m : Str → Option Value}, (∀ v, (x, v) ∉ binds) → bindL kindOf binds m x = m x
  | [], _, _ => rfl
  | (n, v) :: r, m, h => by
    unfold bindL
    rw [bindL_out fun w hw => h w (List.mem_cons_of_mem _ hw)]
    split
    · have : x ≠ n := by rintro rfl; exact h v List.mem_cons_self
      simp [this]
    · rfl
theorem bindC_out {kindOf : Str → Option NameKind} {x : Str} : ∀ {binds : List (Str × Value)} {m : Str → Option Value}, (∀ v, (x, v) ∉ binds) → bindC kindOf binds m x = m x
  | [], _, _ => rfl
  | (n, v) :: r, m, h => by
    unfold bindC
    rw [bindC_out fun w hw => h w (List.mem_cons_of_mem _ hw)]
    split
    · rfl
    · have : x ≠ n := by rintro rfl; exact h v List.mem_cons_self
      simp [this]
theorem bindL_get {kindOf : Str → Option NameKind} {x : Str} {v : Value} : ∀ {P : List Str} {vs : List Value} {i : Nat} {m : Str → Option Value}, P.Nodup → P[i]? = some x → vs[i]? = some v → kindOf x = some .local →
    bindL kindOf (P.zip vs) m x = some v
  | [], _, _, _, _, h, _, _ => by simp at h
  | _ :: _, [], _, _, _, _, h, _ => by simp at h
  | p :: P, w :: vs, 0, m, nd, h1, h2, hk => by
    simp at h1 h2; subst h1; subst h2
    show bindL kindOf ((p, w) :: P.zip vs) m p = _
    unfold bindL
    rw [bindL_out fun v hv => (List.nodup_cons.mp nd).1 (List.of_mem_zip hv).1, if_pos hk]
    simp
  | p :: P, w :: vs, i + 1, m, nd, h1, h2, hk => by
    show bindL kindOf ((p, w) :: P.zip vs) m x = _
    unfold bindL
    exact bindL_get (i := i) (List.nodup_cons.mp nd).2 (by simpa using h1) (by simpa using h2) hk
theorem bindC_get {kindOf : Str → Option NameKind} {x : Str} {v : Value} : ∀ {P : List Str} {vs : List Value} {i : Nat} {m : Str → Option Value}, P.Nodup → P[i]? = some x → vs[i]? = some v → kindOf x ≠ some .local →
    bindC kindOf (P.zip vs) m x = some v
  | [], _, _, _, _, h, _, _ => by simp at h
  | _ :: _, [], _, _, _, _, h, _ => by simp at h
  | p :: P, w :: vs, 0, m, nd, h1, h2, hk => by
    simp at h1 h2; subst h1; subst h2
    show bindC kindOf ((p, w) :: P.zip vs) m p = _
    unfold bindC
    rw [bindC_out fun v hv => (List.nodup_cons.mp nd).1 (List.of_mem_zip hv).1, if_neg hk]
    simp
  | p :: P, w :: vs, i + 1, m, nd, h1, h2, hk => by
    show bindC kindOf ((p, w) :: P.zip vs) m x = _
    unfold bindC
    exact bindC_get (i := i) (List.nodup_cons.mp nd).2 (by simpa using h1) (by simpa using h2) hk

/-- the names' values at the entry -/
noncomputable def start (N : List Str) (vs : List V) : St := vs.map some ++ List.replicate (N.length - vs.length) none

/-- the context of a def's body, at its entry; an exception leaves the frame, then lies as CX says -/
noncomputable def cxOf (CX : CXT) (P : Program) (w : World) (K : PySem.W.Frag) (mg : Str → Option Value) (base : Heap) (N : List Str) (qual : Str) (scope : Scope) (f : Addr) (cd : Value) (A : Around) (outer : List Env) (s : Shared) (H : Hp) (E : XK) : Cx where
  prog := P
  w := w
  K := K
  mg := mg
  base := base
  A := A.deeper (envOfC qual scope s.heap.objs.size f cd)
  N := N
  s₀ := s
  H₀ := H
  env := envOfC qual scope s.heap.objs.size f cd
  outer := outer
  stack := envOfC qual scope s.heap.objs.size f cd :: outer
  ex := []
  calm := true
  fn := fun _ => true
  pn := []
  xe := fun e s' => wpAny (model P w) (A.deeper (envOfC qual scope s.heap.objs.size f cd)) (leaving (envOfC qual scope s.heap.objs.size f cd) e) (fun _ s'' => CX outer H s E e s'') (fun e' s'' => CX outer H s E e' s'') s'

theorem cell_has {sc : Scope} {n : Nat} {x : Str} (h : sc.names.lookup x = some .cell) : ∃ c, (cellsFrom n sc.names []).lookup x = some c := by
  have q := PySem.W.cellsFrom_some sc.names n [] (.inl h)
  exact Option.isSome_iff_exists.mp q

theorem inv_start {CX : CXT} {P : Program} {w : World} {K : PySem.W.Frag} {mg : Str → Option Value} {base : Heap} {N ps : List Str} {qual : Str} {scope : Scope} {f : Addr} {cd : Value} {A : Around} {outer : List Env} {s s1 : Shared} {H : Hp} {E : XK} {us : List Value} {vs : List V}
    (S : FnScope N ps scope) (hd : A.handled = none) (e0 : Env0 P w K mg base A outer s H) (hl : vs.length = ps.length) (r : Vals vs us)
    (x : InCallC s s.heap.objs.size (bindL (envOfC qual scope s.heap.objs.size f cd).kindOf (ps.zip us) fun _ => none) (cellsFrom (s.heap.objs.size + 1) scope.names []) (bindC (envOfC qual scope s.heap.objs.size f cd).kindOf (ps.zip us) fun _ => none) s1) :
    Inv (cxOf CX P w K mg base N qual scope f cd A outer s H E) [] (start N vs) H s1 := by
  have hpl : ps.length ≤ N.length := by have := congrArg List.length S.pre; rw [List.length_take] at this; omega
  obtain ⟨h1, tk, rfl, hk⟩ := x.done
  have noA : ∀ b : Addr, b ∉ (cxOf CX P w K mg base N qual scope f cd A outer s H E).ex := fun b z => absurd (show b ∈ ([] : List Addr) from z) (by simp)
  refine ⟨⟨e0.mod, S.kind, rfl, rfl, Nat.le_refl _, fun y z c h1 h2 => ?_, fun y hy => ?_, fun y c _ h => ?_, fun _ => hd, Around.frames_deeper e0.frames, .inr ⟨rfl, rfl⟩, fun b z => absurd z (noA b), e0.bs, e0.bsz, fun b _ _ => noA b, fun b z => absurd z (noA b), e0.funs, e0.frf⟩,
    rfl, e0.bare, Un.kept hk, ⟨_, x.toInCall.ns, fun i y v h1 h2 h3 => ?_⟩, fun y c h => ⟨_, x.cell y c h⟩, e0.hok.fresh (Nat.le_refl _), fun y c h => ?_, fun p hp => absurd (show p ∈ ([] : List (Addr × Obj)) from hp) (by simp), e0.hok.kept hk, ?_⟩
  · exact name_of_addr x.apart (PySem.mem_of_lookup h1) (PySem.mem_of_lookup h2)
  · have hy : scope.names.lookup y = some .cell ∨ scope.names.lookup y = some .free := hy
    rcases hy with hy | hy
    · exact cell_has hy
    · exact absurd rfl (S.nofree _ (PySem.mem_of_lookup hy))
  · exact Nat.le_of_lt (x.above y c (PySem.mem_of_lookup h))
  · have hi : i < vs.length := by
      unfold start at h2
      by_cases hi : i < vs.length
      · exact hi
      · rw [List.getElem?_append_right (by simpa using hi)] at h2
        rw [List.getElem?_replicate] at h2
        split at h2 <;> cases h2
    have ha : vs[i]? = some v := by
      unfold start at h2
      rw [List.getElem?_append_left (by simpa using hi), List.getElem?_map] at h2
      cases e : vs[i]? with
      | none => rw [e] at h2; cases h2
      | some a => rw [e] at h2; cases h2; rfl
    obtain ⟨u, hu, rv⟩ := r.get ha
    have hp : ps[i]? = some y := by
      rw [← S.pre, List.getElem?_take_of_lt (by omega)]; exact h1
    have ndP : ps.Nodup := by rw [← S.pre]; exact S.nd.sublist (List.take_sublist _ _)
    refine ⟨u, rv, ?_⟩
    rcases S.par y (List.mem_of_getElem? hp) with k | k
    · exact .inl ⟨k, bindL_get ndP hp hu k⟩
    · obtain ⟨c, e⟩ := cell_has (n := s.heap.objs.size + 1) k
      refine .inr ⟨.inl k, c, e, ?_⟩
      have q := x.cell y c e
      rw [bindC_get ndP hp hu (by show scope.names.lookup y ≠ _; rw [k]; decide)] at q
      exact q
  · exact e0.hok.fresh (Nat.le_of_lt (x.above y c (PySem.mem_of_lookup h)))
  · unfold start
    show _ = N.length
    rw [List.length_append, List.length_map, List.length_replicate]
    omega

/-- THE RULE: a def (or a method) of the text, by its body. The body's reading t is chosen for each entry; it is run at the parameters' values -/
theorem fn_of {CX : CXT} {P : Program} {w : World} {K : PySem.W.Frag} {mg : Str → Option Value} {base : Heap} {k : Nat} {f : Addr} {name qual : Str} {params : Arguments} {body : List Stmt} {scope : Scope} {dV kV doc pm cdv ct oc : Value} {an od : Option Addr}
    {osl : Array (Option Value)} {N ps : List Str} {sp : Sp} (lk : K.lookup f = some ⟨oc, od, .func (PySem.W.fnOf name qual params body scope dV kV doc pm an cdv ct), osl⟩) (hcd : PySem.W.codeIn K cdv qual = true) (S : FnScope N ps scope)
    (len : ∀ vs H Q E, sp vs H Q E → vs.length = ps.length)
    (hbody : ∀ (A : Around) (outer : List Env) (s : Shared) (H : Hp) (vs : List V) (Q : VK) (E : XK), Room k (A.deeper (envOfC qual scope s.heap.objs.size f cdv)) → sp vs H Q E →
      ∃ t, PSs (cxOf CX P w K mg base N qual scope f cdv A outer s H E) body t ∧ t { nx := fun _ H' => Q .non H', rt := Q } (start N vs) H) :
    FnOk P w K mg base CX (k + 1) f (PySem.W.fnOf name qual params body scope dV kV doc pm an cdv ct) ps sp := by
  refine ⟨len, fun A outer s H args us vs Q E hr e0 hb r hsp => ?_⟩
  have hl := len _ _ _ _ hsp
  have KX : K.In s.heap := e0.mod.kin.keeps fun b o e => (e0.bs b o e).1
  have lim : s.heap.NoLimit := e0.mod.nolimit.keeps fun b o e => (e0.bs b o e).1
  have hkind : ∀ y ∈ ps.zip us, scope.names.lookup y.1 = some .local ∨ (scope.names.lookup y.1 = some .cell ∧ ((cellsFrom (s.heap.objs.size + 1) scope.names []).lookup y.1).isSome = true) := fun ⟨n, v⟩ hy => by
    rcases S.par n (List.of_mem_zip hy).1 with q | q
    · exact .inl q
    · exact .inr ⟨q, PySem.W.cellsFrom_some _ _ _ (.inl q)⟩
  refine codeAny_call_function hr.depth (KX _ _ lk) rfl S.co S.gen rfl (PySem.W.codeRec_of KX hcd) (hb _ _ _ _ ?_)
  refine wpAny_newFunctionEnv_cells S.kind hkind fun env he s1 x => ?_
  subst he
  refine ⟨lim.keeps x.toInCall.keep, codeAny_func ?_⟩
  obtain ⟨t, ht, hq⟩ := hbody A outer s H vs Q E (hr.deeper _) hsp
  have I : Inv (cxOf CX P w K mg base N qual scope f cdv A outer s H E) [] (start N vs) H s1 := inv_start S hr.hd e0 hl r x
  refine wpAny_mono (ht [] s1 (start N vs) H _ I hq) (fun fl s' hs => ?_) fun e s' hs => hs
  have fin : ∀ {σ' : St} {H' : Hp} {v : V} {u : Value}, Inv (cxOf CX P w K mg base N qual scope f cdv A outer s H E) [] σ' H' s' → RelV v u → Q v H' → CE outer P w H s Q u s' :=
    fun {σ' H' v u} J rv q => ⟨v, H', J.os, J.bare, J.base, J.hok, rv, q⟩
  cases fl with
  | ret u =>
    obtain ⟨v, σ', H', J, rv, q⟩ := hs
    exact fin J rv q
  | next =>
    obtain ⟨σ', H', J, q⟩ := hs
    exact fin (v := V.non) (u := Value.none) J rfl q
  | brk =>
    obtain ⟨_, _, _, q⟩ := hs
    exact False.elim q
  | cont =>
    obtain ⟨_, _, _, q⟩ := hs
    exact False.elim q
end L2

namespace L2
open PySem PySem.Spec PyProof.Rows
section
variable {X : Cx} {x : Str} {p pos : Pos} {e : Expr} {es : List Expr} {t : TA} {id T : String} {r : List V → Hp → VK → Prop}

noncomputable def tCB (r : List V → Hp → VK → Prop) (t : TA) : TE := fun σ H Q => t σ H fun vs H1 => r vs H1 Q
/-- f(e, ..), f a built-in function -/
theorem pe_callB (hc : CallR X (.builtin id) r) (hg : Gl X x) (hm : X.mg x = none) (hv : bootBuiltins x = some (.builtin id)) (ha : PA X (e :: es) t) (hn : x ≠ "__name__" := by decide) (hdb : (x == ("__debug__" : Str)) = false := by decide)
    (he : starEach (e :: es) X.env = (false, eval e X.env) :: starEach es X.env := by rfl) (hpl : (backTo pos (starEach es X.env)).any (·.1) = false := by rfl) : PE X (.Call (.Name x p) (e :: es) [] pos) (tCB r t) := by
  intro pins s σ H Q I h
  refine wpAny_Call_Name_kw (ld_blt I hg hm hv ?_ hn hdb)
  exact PyProof.Rows.callWith_builtin1 (thn (ha pos pins s σ H _ I h) fun us s1 ⟨vs, H1, I1, r1, q1⟩ => hc pins s1 σ H1 vs us Q I1 r1 q1) he hpl
/-- T(e, ..), T a built-in type -/
theorem pe_callTy (hc : CallR X (.type T) r) (hg : Gl X x) (hm : X.mg x = none) (hv : bootBuiltins x = some (.type T)) (ha : PA X (e :: es) t) (hn : x ≠ "__name__" := by decide) (hdb : (x == ("__debug__" : Str)) = false := by decide)
    (he : starEach (e :: es) X.env = (false, eval e X.env) :: starEach es X.env := by rfl) (hpl : (backTo pos (starEach es X.env)).any (·.1) = false := by rfl) : PE X (.Call (.Name x p) (e :: es) [] pos) (tCB r t) := by
  intro pins s σ H Q I h
  refine wpAny_Call_Name_kw (ld_blt I hg hm hv ?_ hn hdb)
  exact PyProof.Rows.callWith_type1 (thn (ha pos pins s σ H _ I h) fun us s1 ⟨vs, H1, I1, r1, q1⟩ => hc pins s1 σ H1 vs us Q I1 r1 q1) he hpl
end
end L2

namespace HT
open PySem PyProof.Rows

section
open PySem.SeqAt
open PySem.AutoSeq1 (wpAny_loadPart')
open PySem.MeetsSeq PySem.MeetsSeq2 PySem.MeetsSeq3

end

section
variable {prog : Program} {w : World} {A : Around} {E : Value → Shared → Prop} {s : Shared}

/-! ### t[a:b], not the whole -/
/-- a slice's bound as a place among n (d where it is left out) -/
noncomputable def sIx (n d : Nat) : Option Int → Nat
  | none => d
  | some v => if v < 0 then (v + (n : Int)).toNat else min v.toNat n
theorem sIx_nat (n d k : Nat) : sIx n d (some (k : Int)) = min k n := by
  show (if (k : Int) < 0 then ((k : Int) + (n : Int)).toNat else min (k : Int).toNat n) = min k n
  rw [if_neg (by omega), Int.toNat_natCast]
end
end HT

namespace L2
open PySem PySem.Spec PyProof.Rows

/-! ### the parts of a slice -/
noncomputable abbrev TO := St → Hp → (Option Int → Hp → Prop) → Prop
/-- a slice's part (left out, or an int) -/
noncomputable def PO (X : Cx) (e : Option Expr) (t : TO) : Prop :=
  ∀ (pins : List (Addr × Obj)) (s : Shared) (σ : St) (H : Hp) (Q : Option Int → Hp → Prop), Inv X pins σ H s → t σ H Q →
    wpAny (model X.prog X.w) X.A (evalPart e X.env) (fun u s' => ∃ o H', Inv X pins σ H' s' ∧ IsPart u o ∧ Q o H') X.xe s
noncomputable def tNoPart : TO := fun _ H Q => Q none H
noncomputable def tPart (t : TE) : TO := fun σ H Q => t σ H fun x H1 => ∃ i, x = .int i ∧ Q (some i) H1

section
variable {X : Cx} {e : Expr} {te : TE} {lo hi : Option Expr} {tl th : TO} {pos p2 : Pos}

theorem po_none : PO X none tNoPart := by
  intro pins s σ H Q I h
  rw [evalPart_none]
  exact wpAny_pure ⟨none, H, I, .none, h⟩
theorem po_some (h : PE X e te) : PO X (some e) (tPart te) := by
  intro pins s σ H Q I hw
  rw [evalPart_some]
  refine thn (h pins s σ H _ I hw) fun u s1 ⟨x, H1, I1, r1, q1⟩ => ?_
  obtain ⟨i, rfl, q⟩ := q1
  obtain ⟨t, rfl⟩ := r1
  exact ⟨some i, H1, I1, .int i t, q⟩

/-- what a slice of a value is, by values: the slice object stands at sl -/
noncomputable def SlR (X : Cx) (r : V → Option Int → Option Int → Hp → VK → Prop) : Prop :=
  ∀ (pins : List (Addr × Obj)) (s : Shared) (σ : St) (H : Hp) (x : V) (v vl vu : Value) (lo hi : Option Int) (sl : Addr) (Q : VK), Inv X pins σ H s → RelV x v → s.heap.IsSliceOf sl vl vu .none → IsPart vl lo → IsPart vu hi → r x lo hi H Q →
    ∃ T id, typeLookup (.type T) "__getitem__" = pure (some (.builtin id)) ∧ s.TypeIs v T ∧ wpAny (model X.prog X.w) X.A (getItem v (.ref sl)) (EP X pins σ Q) X.xe s
noncomputable def tSl (r : V → Option Int → Option Int → Hp → VK → Prop) (te : TE) (tl th : TO) : TE := fun σ H Q => te σ H fun x H1 => tl σ H1 fun l H2 => th σ H2 fun u H3 => r x l u H3 Q
/-- a[lo:hi], any a -/
theorem pe_slice {r : V → Option Int → Option Int → Hp → VK → Prop} (hr : SlR X r) (he : PE X e te) (hl : PO X lo tl) (hu : PO X hi th) : PE X (.Subscript e (.Slice lo hi none p2) pos) (tSl r te tl th) := by
  intro pins s σ H Q I h
  refine Subscript_ (thn (he pins s σ H _ I h) fun v s1 ⟨x, H1, I1, r1, q1⟩ => ?_)
  refine wpAny_Slice (thn (hl pins s1 σ H1 _ I1 q1) fun vl s2 ⟨l, H2, I2, pl, q2⟩ => thn (hu pins s2 σ H2 _ I2 q2) fun vu s3 ⟨u, H3, I3, pu, q3⟩ => ?_)
  rw [evalPart_none]
  refine wpAny_pure ?_
  have I4 : Inv X pins σ H3 { s3 with heap := s3.heap.push { cls := .type "slice", data := .fields #[vl, vu, .none] } } := I3.kept (t' := s3.toks) fun b ob q => Heap.get?_push_of_some _ q
  obtain ⟨T, id, hT, ht, hg⟩ := hr pins { s3 with heap := s3.heap.push { cls := .type "slice", data := .fields #[vl, vu, .none] } } σ H3 x v vl vu l u s3.heap.objs.size Q I4 r1 (Heap.IsSliceOf.new ..) pl pu q3
  show wpAny (model X.prog X.w) X.A (subscriptTail e (.Slice lo hi none p2) v (.ref s3.heap.objs.size)) (EP X pins σ Q) X.xe { s3 with heap := s3.heap.push { cls := .type "slice", data := .fields #[vl, vu, .none] } }
  exact tail_any (ops := [.ref s3.heap.objs.size, v]) ht hT hg (by with_unfolding_all rfl)

/-- the items of xs[lo:hi] -/
noncomputable def cutV (xs : List V) (lo hi : Option Int) : List V := (xs.drop (HT.sIx xs.length 0 lo)).take (HT.sIx xs.length xs.length hi - HT.sIx xs.length 0 lo)
theorem cutV_length (xs : List V) (lo hi : Option Int) : (cutV xs lo hi).length ≤ xs.length := by
  unfold cutV
  rw [List.length_take, List.length_drop]
  omega
/-! ### t < u, t + u -/
end
end L2

namespace L2
open PySem PySem.Spec PyProof.Rows

/-! ### places -/
/-- the place that an index of any sign means -/
noncomputable def ixN (n : Nat) (i : Int) : Option Nat := if 0 ≤ i then (if i < n then some i.toNat else none) else if -(n : Int) ≤ i then some (i + n).toNat else none
noncomputable def atI {α : Type} (xs : List α) (i : Int) : Option α := (ixN xs.length i).bind fun j => xs[j]?
theorem ixN_seq {n : Nat} {i : Int} {j : Nat} (h : ixN n i = some j) : seqIndex? i n = some j ∧ j < n ∧ -(n : Int) ≤ i ∧ i < n := by
  unfold ixN at h
  by_cases h0 : 0 ≤ i
  · rw [if_pos h0] at h
    by_cases h1 : i < n
    · rw [if_pos h1] at h
      have e : i.toNat = j := Option.some.inj h
      exact ⟨by rw [seqIndex_of h0 h1, e], by omega, by omega, h1⟩
    · rw [if_neg h1] at h; cases h
  · rw [if_neg h0] at h
    by_cases h1 : -(n : Int) ≤ i
    · rw [if_pos h1] at h
      have e : (i + n).toNat = j := Option.some.inj h
      exact ⟨by rw [seqIndex_neg (by omega) h1, e], by omega, h1, by omega⟩
    · rw [if_neg h1] at h; cases h
theorem atI_get {α : Type} {xs : List α} {i : Int} {v : α} (h : atI xs i = some v) : ∃ j, seqIndex? i xs.length = some j ∧ xs[j]? = some v ∧ j < xs.length ∧ -(xs.length : Int) ≤ i ∧ i < xs.length := by
  unfold atI at h
  cases e : ixN xs.length i with
  | none => rw [e] at h; cases h
  | some j =>
    rw [e] at h
    obtain ⟨h1, h2, h3, h4⟩ := ixN_seq e
    exact ⟨j, h1, h, h2, h3, h4⟩
theorem atI_nat {α : Type} {xs : List α} {j : Nat} {v : α} (h : xs[j]? = some v) : atI xs (j : Int) = some v := by
  have hj : j < xs.length := (List.getElem?_eq_some_iff.mp h).1
  have e : ixN xs.length (j : Int) = some j := by
    unfold ixN
    rw [if_pos (by omega), if_pos (by omega)]; simp
  unfold atI; rw [e]; exact h
/-! ### what may be subscripted -/
/-- what stands as an index of a plain subscript -/
noncomputable def PlainIx (b : Expr) : Prop := ∀ o i, subscripted b false o i = operate [o, i] (getItem o i)
/-- a subscript by values -/
noncomputable def IxR (X : Cx) (r : R2) : Prop :=
  ∀ (value slice : Expr) (pins : List (Addr × Obj)) (s : Shared) (σ : St) (H : Hp) (x y : V) (v u : Value) (Q : VK), Inv X pins σ H s → RelV x v → RelV y u → r x y H Q →
    subscripted slice false v u = operate [v, u] (getItem v u) → wpAny (model X.prog X.w) X.A (subscriptTail value slice v u) (EP X pins σ Q) X.xe s
/-- a call of a builtin's method by values: the receiver, the arguments -/
noncomputable def MtR (X : Cx) (id : String) (r : V → List V → Hp → VK → Prop) : Prop :=
  ∀ (pins : List (Addr × Obj)) (s : Shared) (σ : St) (H : Hp) (x : V) (xs : List V) (v : Value) (us : List Value) (Q : VK), Inv X pins σ H s → RelV x v → Vals xs us → r x xs H Q →
    wpAny (model X.prog X.w) X.A (call (.builtin id) (v :: us)) (EP X pins σ Q) X.xe s
section
variable {X : Cx} {a b : Expr} {ta tb : TE} {pos : Pos}
/-- a[b] -/
theorem pe_ix {r : R2} (hr : IxR X r) (ha : PE X a ta) (hb : PE X b tb) (hs : PlainIx b) : PE X (.Subscript a b pos) (tOp r ta tb) := by
  intro pins s σ H Q I h
  exact Subscript_ (binT ha hb I h fun v u s2 x y H2 I2 rx ry q => hr a b pins s2 σ H2 x y v u Q I2 rx ry q (hs _ _))

noncomputable def rIxL (K : PySem.W.Frag) : R2 := fun x y H Q => ∃ p xs i v, x = .ref p ∧ y = .int i ∧ SqL K H p xs ∧ atI xs i = some v ∧ Q v H
noncomputable def rIxT (K : PySem.W.Frag) : R2 := fun x y H Q => ∃ p xs i v, x = .ref p ∧ y = .int i ∧ SqT K H p xs ∧ atI xs i = some v ∧ Q v H
noncomputable def rIxS : R2 := fun x y H Q => ∃ z i c, x = .str z ∧ y = .int i ∧ z.length ≤ sizeLine ∧ atI z.cps.toList i = some c ∧ Q (.str ⟨#[c]⟩) H
theorem ix_list : IxR X (rIxL X.K) := by
  intro value slice pins s σ H x y v u Q I rx ry h hs
  obtain ⟨p, xs, i, z, rfl, rfl, hq, he, q⟩ := h
  cases rx
  obtain ⟨t, rfl⟩ := ry
  obtain ⟨its, r, pl, hz⟩ := I.list hq
  obtain ⟨j, h1, h2, h3, h4, h5⟩ := atI_get he
  obtain ⟨w, ew, rw'⟩ := r.get h2
  have hl := r.length
  have hn := line63
  have fin : EP X pins σ Q w s := ⟨z, H, I, rw', q⟩
  by_cases h0 : 0 ≤ i
  · have hj : i.toNat = j := by
      rw [seqIndex_of h0 h5] at h1
      exact Option.some.inj h1
    exact item_listR pl.isList h0 (by omega) (by rw [hj]; simpa using ew) fin hs
  · have hj : (i + (its.toArray.size : Int)).toNat = j := by
      rw [seqIndex_neg (by omega) h4] at h1
      rw [List.size_toArray, ← hl]
      exact Option.some.inj h1
    exact subscriptTail_builtinR (x := w) pl.isList.typeIs slot_list_getitem.lookup
      (wpAny_getItem_list_neg (Q := fun r s' => r = w ∧ EP X pins σ Q r s') pl.isList (by omega) (by rw [List.size_toArray] <;> omega) (by omega) (by rw [hj]; simpa using ew) ⟨rfl, fin⟩) hs
theorem ix_tup : IxR X (rIxT X.K) := by
  intro value slice pins s σ H x y v u Q I rx ry h hs
  obtain ⟨p, xs, i, z, rfl, rfl, hq, he, q⟩ := h
  cases rx
  obtain ⟨t, rfl⟩ := ry
  obtain ⟨its, r, pl, hz⟩ := I.tuple hq
  obtain ⟨j, h1, h2, h3, h4, h5⟩ := atI_get he
  obtain ⟨w, ew, rw'⟩ := r.get h2
  have hl := r.length
  have hn := line63
  have fin : EP X pins σ Q w s := ⟨z, H, I, rw', q⟩
  exact subscriptTail_builtinR (x := w) pl.typeIs slot_tuple_getitem.lookup
    (getItem_tuple (j := j) (Q := fun r s' => r = w ∧ EP X pins σ Q r s') pl (by omega) (by omega) (by rw [List.size_toArray, ← hl]; exact h1) (by simpa using ew) ⟨rfl, fin⟩) hs
theorem ix_str : IxR X rIxS := by
  intro value slice pins s σ H x y v u Q I rx ry h hs
  obtain ⟨z, i, c, rfl, rfl, hz, he, q⟩ := h
  obtain ⟨t, rfl⟩ := rx
  obtain ⟨t', rfl⟩ := ry
  obtain ⟨j, h1, h2, h3, h4, h5⟩ := atI_get he
  have hl : z.cps.toList.length = z.length := by simp [Str.length]
  rw [hl] at h1 h4 h5
  have hn := line63
  exact tail_any (typeIs_str s z t) slot_str_getitem.lookup (getItem_str (c := c) (by
    have e1 : decide (i < -(2 ^ 63 : Int)) = false := decide_eq_false (by omega)
    have e2 : decide (i ≥ 2 ^ 63) = false := decide_eq_false (by omega)
    rw [e1, e2, Bool.or_false]) (by rw [h1]; simpa using h2) ⟨.str ⟨#[c]⟩, H, I.tok _, ⟨_, rfl⟩, q⟩) hs
/-! ### xs[i] = v, any sign -/
/-- the list's object behind a store -/
theorem mapSeq_set (its : List Value) (n j : Nat) (u : Value) : Obj.mapSeq (·.setIfInBounds j u) { cls := .type "list", data := .seq its.toArray n } = { cls := .type "list", data := .seq (its.set j u).toArray n } := by
  simp [Obj.mapSeq]
theorem Inv.lst {pins : List (Addr × Obj)} {σ : St} {H : Hp} {s : Shared} {p : Addr} {xs : List V} (I : Inv X pins σ H s) (h : H p = some (.lst xs)) :
    ∃ (its : List Value) (n : Nat), Vals xs its ∧ s.heap.get? p = some { cls := .type "list", data := .seq its.toArray n } ∧ xs.length ≤ sizeLine := by
  obtain ⟨z, its, n, r, e⟩ := I.hok p _ h
  exact ⟨its, n, r, e, z⟩
/-- the list at p is written by an update of its object -/
theorem Inv.lstUpd {pins : List (Addr × Obj)} {σ : St} {H : Hp} {s : Shared} {p : Addr} {xs ys : List V} {its its' : List Value} {n n' : Nat} {f : Obj → Obj} (I : Inv X pins σ H s) (h : H p = some (.lst xs))
    (ho : s.heap.get? p = some { cls := .type "list", data := .seq its.toArray n }) (hf : f { cls := .type "list", data := .seq its.toArray n } = { cls := .type "list", data := .seq its'.toArray n' }) (r : Vals ys its') (hz : ys.length ≤ sizeLine) (t : Nat) :
    Inv X pins σ (upd H p (.lst ys)) { s with heap := s.heap.update p f, toks := t } := by
  have e : (s.heap.update p f).get? p = some { cls := .type "list", data := .seq its'.toArray n' } := by
    rw [Heap.get?_update_self f ho (by rw [hf] <;> rfl), hf]
  refine I.write (x := p) (e := p) (by rw [h]; trivial) (.inl rfl) (fun b u hb q => (Heap.get?_update_other _ _ (Ne.symm hb)).trans q) ⟨_, e⟩ ?_
  exact ⟨hz, its', n', r, e⟩
noncomputable def rSetL : V → V → V → Hp → (Hp → Prop) → Prop := fun o i v H Q => ∃ p xs k j, o = .ref p ∧ i = .int k ∧ H p = some (.lst xs) ∧ ixN xs.length k = some j ∧ Q (upd H p (.lst (xs.set j v)))
theorem set_list : PSet X rSetL := by
  intro pins s σ H o i v ov iv u Q I ro ri rv h
  obtain ⟨p, xs, k, j, rfl, rfl, hp, hj, q⟩ := h
  cases ro
  obtain ⟨t, rfl⟩ := ri
  obtain ⟨its, n, r, ho, hz⟩ := I.lst hp
  obtain ⟨h1, h2, h3, h4⟩ := ixN_seq hj
  have hl := r.length
  have hn := line63
  have I' : Inv X pins σ (upd H p (.lst (xs.set j v))) { s with heap := s.heap.update p (Obj.mapSeq (·.setIfInBounds j u)) } :=
    I.lstUpd hp ho (mapSeq_set its n j u) (r.set rv j) (by rw [List.length_set]; exact hz) s.toks
  by_cases h0 : 0 ≤ k
  · have hk : k.toNat = j := by
      rw [seqIndex_of h0 h4] at h1
      exact Option.some.inj h1
    exact PySem.W.ki_setAt ho h0 (by omega) (by rw [List.size_toArray, ← hl]; exact h4) (by rw [hk]; exact ⟨_, I', q⟩)
  · have hk : (k + (its.toArray.size : Int)).toNat = j := by
      rw [seqIndex_neg (by omega) h3] at h1
      rw [List.size_toArray, ← hl]
      exact Option.some.inj h1
    exact PySem.W.ki_setBack ho (by omega) (by rw [List.size_toArray, ← hl]; exact h3) (by omega) (by rw [hk]; exact ⟨_, I', q⟩)

/-! ### slices -/
theorem slice_bounds (lo hi : Option Int) (n : Nat) : (sliceBounds lo hi none n).1 = ((HT.sIx n 0 lo : Nat) : Int) ∧ (sliceBounds lo hi none n).2.1 = ((HT.sIx n n hi : Nat) : Int) ∧ (sliceBounds lo hi none n).2.2 = 1 := by
  refine ⟨?_, ?_, rfl⟩
  · cases lo with
    | none => simp [sliceBounds, HT.sIx]
    | some i =>
      simp only [sliceBounds, HT.sIx, Option.getD_none, show (1 : Int) > 0 by decide, if_true]
      by_cases h : i < 0
      · simp only [h, if_true] <;> omega
      · simp only [h, if_false] <;> omega
  · cases hi with
    | none => simp [sliceBounds, HT.sIx]
    | some i =>
      simp only [sliceBounds, HT.sIx, Option.getD_none, show (1 : Int) > 0 by decide, if_true]
      by_cases h : i < 0
      · simp only [h, if_true] <;> omega
      · simp only [h, if_false] <;> omega
theorem slicePick_cut (its : List Value) (lo hi : Option Int) : slicePick its.toArray lo hi none = ((its.drop (HT.sIx its.length 0 lo)).take (HT.sIx its.length its.length hi - HT.sIx its.length 0 lo)).toArray := by
  obtain ⟨h1, h2, h3⟩ := slice_bounds lo hi its.toArray.size
  unfold slicePick
  rw [h1, h2, h3]
  simp only [sliceRange_one, pick_run, List.size_toArray] <;> rfl
/-- xs[lo:hi] of a list: a new list -/
noncomputable def rSlL (K : PySem.W.Frag) : V → Option Int → Option Int → Hp → VK → Prop := fun x lo hi H Q => ∃ a xs, x = .ref a ∧ SqL K H a xs ∧ ∀ p, H p = none → Q (.ref p) (upd H p (.lst (cutV xs lo hi)))
theorem sl_list : SlR X (rSlL X.K) := by
  intro pins s σ H x v vl vu lo hi sl Q I rx hs pl pu h
  obtain ⟨a, xs, rfl, hx, q⟩ := h
  cases rx
  obtain ⟨its, r, ht, hz⟩ := I.list hx
  have hlen := r.length
  refine ⟨"list", _, slot_list_getitem.lookup, ht.isList.typeIs, ?_⟩
  refine wpAny_getItem_list_slice ht.isList hs pl pu .none (by simp) ?_ (by rw [List.size_toArray] <;> omega)
  rw [slicePick_cut, ← hlen]
  refine ⟨.ref s.heap.objs.size, _, I.laid (t' := s.toks) (o := .lst (cutV xs lo hi)) (fun b ob q => Heap.get?_push_of_some _ q) (Nat.le_refl _) ?_, rfl, q _ (I.hok.fresh (Nat.le_refl _))⟩
  exact ⟨Nat.le_trans (cutV_length xs lo hi) hz, _, 0, (r.drop (HT.sIx xs.length 0 lo)).take (HT.sIx xs.length xs.length hi - HT.sIx xs.length 0 lo), Heap.get?_push_size _ rfl⟩

/-! ### in, not in: flat items -/
noncomputable def flatV : V → Bool
  | .non => true
  | .bl _ => true
  | .int _ => true
  | .str _ => true
  | _ => false
/-- == of flat values -/
noncomputable def eqV : V → V → Bool
  | .non, .non => true
  | .bl a, .bl b => a == b
  | .bl a, .int b => (if a then 1 else 0) == b
  | .int a, .bl b => a == (if b then 1 else 0)
  | .int a, .int b => a == b
  | .str a, .str b => a == b
  | _, _ => false
theorem eqAt_V {A : Around} {s : Shared} {y x : V} {u v : Value} (ry : RelV y u) (rx : RelV x v) (fy : flatV y = true) (fx : flatV x = true) : SeqAt.EqAt A s u v (eqV y x) := by
  cases y with
  | non =>
    cases ry
    cases x with
    | non => cases rx; exact SeqAt.EqAt.same _
    | bl b => cases rx; exact SeqAt.EqAt.none_bool b
    | int b => obtain ⟨t, rfl⟩ := rx; exact SeqAt.EqAt.none_int b t
    | str b => obtain ⟨t, rfl⟩ := rx; exact SeqAt.EqAt.none_str b t
    | _ => exact absurd (show false = true from fx) Bool.false_ne_true
  | bl a =>
    cases ry
    cases x with
    | non => cases rx; exact SeqAt.EqAt.bool_none a
    | bl b => cases rx; exact SeqAt.EqAt.bool_bool a b
    | int b => obtain ⟨t, rfl⟩ := rx; exact SeqAt.EqAt.bool_int a b t
    | str b => obtain ⟨t, rfl⟩ := rx; exact SeqAt.EqAt.bool_str a b t
    | _ => exact absurd (show false = true from fx) Bool.false_ne_true
  | int a =>
    obtain ⟨t', rfl⟩ := ry
    cases x with
    | non => cases rx; exact SeqAt.EqAt.int_none a t'
    | bl b => cases rx; exact SeqAt.EqAt.int_bool a t' b
    | int b => obtain ⟨t, rfl⟩ := rx; exact SeqAt.EqAt.int_int a t' b t
    | str b => obtain ⟨t, rfl⟩ := rx; exact SeqAt.EqAt.int_str a t' b t
    | _ => exact absurd (show false = true from fx) Bool.false_ne_true
  | str a =>
    obtain ⟨t', rfl⟩ := ry
    cases x with
    | non => cases rx; exact SeqAt.EqAt.str_none a t'
    | bl b => cases rx; exact SeqAt.EqAt.str_bool a t' b
    | int b => obtain ⟨t, rfl⟩ := rx; exact SeqAt.EqAt.str_int a t' b t
    | str b => obtain ⟨t, rfl⟩ := rx; exact SeqAt.EqAt.str_str a t' b t
    | _ => exact absurd (show false = true from fx) Bool.false_ne_true
  | _ => exact absurd (show false = true from fy) Bool.false_ne_true
/-- the items' answers, read off the values (a value's own answer does not lean on its token) -/
noncomputable def eqU (x : V) (u : Value) : Bool := match u with
  | .none => eqV .non x
  | .bool b => eqV (.bl b) x
  | .int i _ => eqV (.int i) x
  | .str z _ => eqV (.str z) x
  | _ => false
theorem eqU_of {x y : V} {u : Value} (r : RelV y u) (f : flatV y = true) : eqU x u = eqV y x := by
  cases y with
  | non => cases r; rfl
  | bl b => cases r; rfl
  | int i => obtain ⟨t, rfl⟩ := r; rfl
  | str z => obtain ⟨t, rfl⟩ := r; rfl
  | _ => exact absurd (show false = true from f) Bool.false_ne_true
theorem any_eqU {x : V} : ∀ {xs : List V} {us : List Value}, Vals xs us → xs.all flatV = true → us.any (eqU x) = xs.any fun y => eqV y x
  | _, _, .nil, _ => rfl
  | y :: xs, u :: us, .cons r t, f => by
    rw [List.all_cons, Bool.and_eq_true] at f
    rw [List.any_cons, List.any_cons, eqU_of r f.1, any_eqU t f.2]
theorem mem_eqAt {A : Around} {s : Shared} {x : V} {v : Value} (rx : RelV x v) (fx : flatV x = true) : ∀ {xs : List V} {us : List Value}, Vals xs us → xs.all flatV = true → ∀ u ∈ us, SeqAt.EqAt A s u v (eqU x u)
  | _, _, .nil, _ => fun u hu => by cases hu
  | y :: xs, u :: us, .cons r t, f => fun u' hu => by
    rw [List.all_cons, Bool.and_eq_true] at f
    rcases List.mem_cons.mp hu with rfl | hu
    · rw [eqU_of r f.1]; exact eqAt_V r rx f.1 fx
    · exact mem_eqAt rx fx t f.2 u' hu
noncomputable def inV (x : V) (xs : List V) : Bool := xs.any fun y => eqV y x
/-- x in a list or tuple of flat items -/
noncomputable def rIn (K : PySem.W.Frag) (neg : Bool) : R2 := fun x y H Q => ∃ p xs, y = .ref p ∧ (SqL K H p xs ∨ SqT K H p xs) ∧ flatV x = true ∧ xs.all flatV = true ∧ Q (.bl (if neg then !inV x xs else inV x xs)) H
theorem op_in_seq : OpR X (compareOp .In) (rIn X.K false) := by
  intro pins s σ H x y v u Q I rx ry h
  obtain ⟨p, xs, rfl, hq, fx, fs, q⟩ := h
  cases ry
  rcases hq with hq | hq
  · obtain ⟨its, r, pl, hz⟩ := I.list hq
    refine SeqAt.in_listAt (eqU x) pl.isList (fun w hw => mem_eqAt rx fx r fs w (by simpa using hw)) ⟨.bl _, H, I, rfl, ?_⟩
    rw [show its.toArray.any (eqU x) = its.any (eqU x) by simp, any_eqU r fs]
    exact q
  · obtain ⟨its, r, pl, hz⟩ := I.tuple hq
    refine SeqAt.in_tupleAt (eqU x) pl (fun w hw => mem_eqAt rx fx r fs w (by simpa using hw)) ⟨.bl _, H, I, rfl, ?_⟩
    rw [show its.toArray.any (eqU x) = its.any (eqU x) by simp, any_eqU r fs]
    exact q
/-! ### len, list(x), tuple(x) of any list or tuple that is read -/
theorem call_len_seq : CallR X (.builtin "len") (fun xs H Q => ∃ p ys, xs = [.ref p] ∧ (SqL X.K H p ys ∨ SqT X.K H p ys) ∧ Q (.int ys.length) H) := by
  intro pins s σ H xs us Q I r h
  obtain ⟨p, ys, rfl, hq, q⟩ := h
  obtain ⟨u, rfl, rx⟩ := vals1 r
  cases rx
  have hn := line63
  rcases hq with hq | hq
  · obtain ⟨its, r', pl, hz⟩ := I.list hq
    have hlen := r'.length
    exact Calls.call_len_list pl.isList (by simp only [List.size_toArray] <;> omega) ⟨.int ys.length, H, I.tok _, ⟨s.toks + 1, by rw [List.size_toArray, hlen]⟩, q⟩
  · obtain ⟨its, r', pl, hz⟩ := I.tuple hq
    have hlen := r'.length
    exact len_tuple pl (by simp only [List.size_toArray] <;> omega) ⟨.int ys.length, H, I.tok _, ⟨s.toks + 1, by rw [List.size_toArray, hlen]⟩, q⟩
theorem call_len_str : CallR X (.builtin "len") (fun xs H Q => ∃ z, xs = [.str z] ∧ z.length ≤ sizeLine ∧ Q (.int z.length) H) := by
  intro pins s σ H xs us Q I r h
  obtain ⟨z, rfl, hz, q⟩ := h
  obtain ⟨u, rfl, t, rfl⟩ := vals1 r
  have hn := line63
  exact len_str (by omega) ⟨.int z.length, H, I.tok _, ⟨_, rfl⟩, q⟩
theorem call_list_of : CallR X (.type "list") (fun xs H Q => ∃ p ys, xs = [.ref p] ∧ (SqL X.K H p ys ∨ SqT X.K H p ys) ∧ ∀ l, H l = none → Q (.ref l) (upd H l (.lst ys))) := by
  intro pins s σ H xs us Q I r h
  obtain ⟨p, ys, rfl, hq, q⟩ := h
  obtain ⟨u, rfl, rx⟩ := vals1 r
  cases rx
  have fin : ∀ (its : List Value), Vals ys its → ys.length ≤ sizeLine → ∀ (h' : Heap) (c' : Nat), (∀ b o', s.heap.get? b = some o' → h'.get? b = some o') →
      h'.get? s.heap.objs.size = some { cls := .type "list", dict := none, data := .seq its.toArray c', slots := #[] } → EP X pins σ Q (.ref s.heap.objs.size) { s with heap := h' } := fun its r' hz h' c' kp e =>
    ⟨.ref s.heap.objs.size, _, I.laid (t' := s.toks) kp (Nat.le_refl _) (show ObjOk X.prog X.w _ h' _ (.lst ys) from ⟨hz, its, c', r', e⟩), rfl, q _ (I.hok.fresh (Nat.le_refl _))⟩
  rcases hq with hq | hq
  · obtain ⟨its, r', pl, hz⟩ := I.list hq
    have hlen := r'.length
    obtain ⟨o, ho, hc, n, hd⟩ := pl.isList
    exact call_list_seq p (.inl rfl) ho hc hd (fun h' c' kp e => fin its r' hz h' c' kp e) (by simp only [List.size_toArray] <;> omega)
  · obtain ⟨its, r', pl, hz⟩ := I.tuple hq
    have hlen := r'.length
    obtain ⟨o, ho, hc, n, hd⟩ := pl
    exact call_list_seq p (.inr rfl) ho hc hd (fun h' c' kp e => fin its r' hz h' c' kp e) (by simp only [List.size_toArray] <;> omega)
/-! ### the call of a builtin's method: o.m(..) -/
/-- the value is of that builtin type -/
noncomputable def tyV (K : PySem.W.Frag) (T : String) (x : V) (H : Hp) : Prop := match x with
  | .str _ => T = "str"
  | .int _ => T = "int"
  | .ref p => (T = "list" ∧ ∃ xs, SqL K H p xs) ∨ (T = "tuple" ∧ ∃ o, K.lookup p = some o ∧ o.cls = .type "tuple" ∧ o.dict = none) ∨
      (T = "dict" ∧ ((∃ kvs, H p = some (.dK kvs)) ∨ ∃ kvs, H p = some (.dT kvs))) ∨ (T = "set" ∧ ∃ S n, H p = some (.set S n))
  | _ => False
theorem tyV_is {pins : List (Addr × Obj)} {σ : St} {H : Hp} {s : Shared} {T : String} {x : V} {v : Value} (I : Inv X pins σ H s) (r : RelV x v) (ty : tyV X.K T x H) :
    s.TypeIs v T ∧ ∀ a, v = .ref a → ∃ ob, s.heap.get? a = some ob ∧ ob.dict = none := by
  cases x with
  | str z =>
    obtain ⟨t, rfl⟩ := r
    cases (show T = "str" from ty)
    exact ⟨typeIs_str s z t, fun _ e => nomatch e⟩
  | int i =>
    obtain ⟨t, rfl⟩ := r
    cases (show T = "int" from ty)
    exact ⟨typeIs_int s i t, fun _ e => nomatch e⟩
  | ref p =>
    cases r
    rcases ty with ⟨rfl, xs, hq⟩ | ⟨rfl, o, hk, hc, hd⟩ | ⟨rfl, hk⟩ | ⟨rfl, S, n, hk⟩
    · obtain ⟨its, _, pl, _⟩ := I.list hq
      refine ⟨pl.isList.typeIs, fun a e => ?_⟩
      cases e
      obtain ⟨o, n, e, c, hd, _⟩ := pl
      exact ⟨o, e, hd⟩
    · refine ⟨⟨o, I.kIn p o hk, hc⟩, fun a e => ?_⟩
      cases e
      exact ⟨o, I.kIn _ o hk, hd⟩
    · have z : ∃ o, s.heap.get? p = some o ∧ o.ExactDict := by
        rcases hk with ⟨kvs, hk⟩ | ⟨kvs, hk⟩
        · obtain ⟨_, _, _, _, o, _, _, e, ex, _⟩ := I.hok p _ hk
          exact ⟨o, e, ex⟩
        · obtain ⟨_, _, _, _, o, _, _, e, ex, _⟩ := I.hok p _ hk
          exact ⟨o, e, ex⟩
      obtain ⟨o, e, ex⟩ := z
      refine ⟨⟨o, e, ex.1⟩, fun a e2 => ?_⟩
      cases e2
      exact ⟨o, e, ex.2.1⟩
    · obtain ⟨o, _, _, _, e, ex, _⟩ := I.hok p _ hk
      refine ⟨⟨o, e, ex.1⟩, fun a e2 => ?_⟩
      cases e2
      exact ⟨o, e, ex.2.1⟩
  | _ => exact False.elim ty
noncomputable def tBM0 (K : PySem.W.Frag) (T : String) (r : V → List V → Hp → VK → Prop) (to : TE) : TE := fun σ H Q => to σ H fun x H1 => tyV K T x H1 ∧ r x [] H1 Q
noncomputable def tBM (K : PySem.W.Frag) (T : String) (r : V → List V → Hp → VK → Prop) (to : TE) (t : TA) : TE := fun σ H Q => to σ H fun x H1 => tyV K T x H1 ∧ t σ H1 fun xs H2 => r x xs H2 Q
variable {o e : Expr} {es : List Expr} {to : TE} {t : TA} {name : Str} {apos cpos : Pos} {T id : String} {r : V → List V → Hp → VK → Prop}
theorem pe_bm0 (pa : PlainAttrs T) (slot : Slot T name id) (hty : typeOf (.builtin id) = pure (.type "method_descriptor")) (hm : MtR X id r) (ho : PE X o to)
    (hbase : attributeBase o name X.env (eval o X.env) = eval o X.env := by rfl) (hline : (apos.endLine == cpos.line) = true := by rfl) : PE X (.Call (.Attribute o name apos) [] [] cpos) (tBM0 X.K T r to) := by
  intro pins s σ H Q I h
  refine wpAny_Call_method0_late hbase hline (thn (ho pins s σ H _ I h) fun v s1 ⟨x, H1, I1, r1, ty, q1⟩ => ?_)
  obtain ⟨h1, h2⟩ := tyV_is I1 r1 ty
  exact ⟨T, id, pa, slot, hty, h1, h2, Calls.callWith_builtin rfl (PySem.evalArgs_none (hm pins s1 σ H1 x [] v [] Q I1 r1 .nil q1))⟩
theorem pe_bm (pa : PlainAttrs T) (slot : Slot T name id) (hty : typeOf (.builtin id) = pure (.type "method_descriptor")) (hm : MtR X id r) (ho : PE X o to) (ha : PA X (e :: es) t)
    (hbase : attributeBase o name X.env (eval o X.env) = eval o X.env := by rfl)
    (hfew : ((backTo cpos (starEach (e :: es) X.env)).all (fun x => !x.1) && (backToKw cpos (keywordEach [] X.env)).all (fun x => x.1.isSome)
      && decide ((e :: es).length + ([] : List Keyword).length + (if ([] : List Keyword).isEmpty then 0 else 1) < 30)) = true := by rfl)
    (hline : (apos.endLine == cpos.line) = true := by rfl) (hs : starEach (e :: es) X.env = (false, eval e X.env) :: starEach es X.env := by rfl) (hplain : (backTo cpos (starEach es X.env)).any (·.1) = false := by rfl) :
    PE X (.Call (.Attribute o name apos) (e :: es) [] cpos) (tBM X.K T r to t) := by
  intro pins s σ H Q I h
  refine wpAny_Call_method_late hbase hfew hline rfl (thn (ho pins s σ H _ I h) fun v s1 ⟨x, H1, I1, r1, ty, q1⟩ => ?_)
  obtain ⟨h1, h2⟩ := tyV_is I1 r1 ty
  refine ⟨T, id, pa, slot, hty, h1, h2, ?_⟩
  have hA := ha cpos pins s1 σ H1 _ I1 q1
  rw [hs] at hA ⊢
  refine Calls.callWith_builtin (by show (false || (backTo cpos (starEach es X.env)).any (·.1)) = false; rw [hplain] <;> rfl) (Calls.evalArgs_plain ?_)
  exact thn hA fun us s2 ⟨vs, H2, I2, r2, q2⟩ => hm pins s2 σ H2 x vs v us Q I2 r1 r2 q2
/- xs.append(e), list.index on a module's tuple .. are MtR facts of 06m -/
end
end L2

namespace L2
open PySem PySem.Spec PyProof.Rows

noncomputable def MtM (X : Cx) (id : String) (r : V → List V → Hp → VK → Prop) : Prop :=
  ∀ (pins : List (Addr × Obj)) (s : Shared) (σ : St) (H : Hp) (x : V) (xs : List V) (v : Value) (us : List Value) (Q : VK), Inv X pins σ H s → RelV x v → Vals xs us → r x xs H Q →
    wpAny (model X.prog X.w) X.A (call (.builtin id) (v :: us)) (EP X pins σ Q) X.xe s

/-! ### lists of values -/
theorem Vals.one : ∀ {x : V} {us : List Value}, Vals [x] us → ∃ u, us = [u] ∧ RelV x u := by
  intro x us h
  cases h with
  | cons r t =>
    cases t
    exact ⟨_, rfl, r⟩
theorem Vals.two : ∀ {x y : V} {us : List Value}, Vals [x, y] us → ∃ u v, us = [u, v] ∧ RelV x u ∧ RelV y v := by
  intro x y us h
  cases h with
  | cons r t =>
    cases t with
    | cons q t =>
      cases t
      exact ⟨_, _, rfl, r, q⟩
theorem Vals.zero : ∀ {us : List Value}, Vals [] us → us = []
  | _, .nil => rfl
theorem Vals.dropLast {xs : List V} {us : List Value} (h : Vals xs us) : Vals xs.dropLast us.dropLast := by
  induction h with
  | nil => exact .nil
  | cons r t ih =>
    cases t with
    | nil => exact .nil
    | cons q t' => exact .cons r ih
theorem Vals.reverse {xs : List V} {us : List Value} (h : Vals xs us) : Vals xs.reverse us.reverse := by
  induction h with
  | nil => exact .nil
  | cons r t ih => rw [List.reverse_cons, List.reverse_cons]; exact Vals.append ih (.cons r .nil)
section
variable {X : Cx} {pins : List (Addr × Obj)} {σ : St} {H : Hp} {s : Shared} {l b : Addr} {xs ys zs : List V}

/-! ### the two steps: a tracked list is rewritten, a new list is laid -/
theorem Inv.lset {its its' : List Value} {n : Nat} {f : Array Value → Array Value} {t' : Nat} (I : Inv X pins σ H s) (hH : H l = some (.lst xs))
    (e : s.heap.get? l = some { cls := .type "list", data := .seq its.toArray n }) (hf : f its.toArray = its'.toArray) (hv : Vals ys its') (hz : ys.length ≤ sizeLine) :
    Inv X pins σ (upd H l (.lst ys)) { s with heap := s.heap.update l (Obj.mapSeq f), toks := t' } := by
  have q := PySem.IsL.update e f
  rw [hf] at q
  refine I.write (x := l) (e := l) (by rw [hH]; exact trivial) (.inl rfl) (fun b' u hb hu => (Heap.get?_update_other s.heap (Obj.mapSeq f) (Ne.symm hb)).trans hu) ⟨_, q⟩ ?_
  exact ⟨hz, its', _, hv, q⟩
theorem Inv.lnew {its : List Value} {t' : Nat} (I : Inv X pins σ H s) (hv : Vals ys its) (hz : ys.length ≤ sizeLine) :
    Inv X pins σ (upd H s.heap.objs.size (.lst ys)) { s with heap := s.heap.push { cls := .type "list", data := .seq its.toArray }, toks := t' } :=
  I.laid (fun _ _ q => Heap.get?_push_of_some _ q) (Nat.le_refl _) ⟨hz, its, 0, hv, Heap.get?_push_size _ rfl⟩
theorem Inv.fresh (I : Inv X pins σ H s) : H s.heap.objs.size = none := I.hok.fresh (Nat.le_refl _)
theorem Inv.lstM (I : Inv X pins σ H s) (hH : H l = some (.lst xs)) : xs.length ≤ sizeLine ∧ ∃ (its : List Value) (n : Nat), Vals xs its ∧ xs.length = its.length ∧ s.heap.get? l = some { cls := .type "list", data := .seq its.toArray n } := by
  obtain ⟨z, its, n, r, e⟩ := I.hok l _ hH
  exact ⟨z, its, n, r, r.length, e⟩

end

section
variable {X : Cx}

/-! ### methods -/
noncomputable def rAppend : V → List V → Hp → VK → Prop := fun x vs H Q => ∃ l xs y, x = .ref l ∧ vs = [y] ∧ H l = some (.lst xs) ∧ xs.length < sizeLine ∧ Q .non (upd H l (.lst (xs ++ [y])))
theorem mt_append : MtM X "list.append" rAppend := by
  intro pins s σ H x vs v us Q I rx rv h
  obtain ⟨l, xs, y, rfl, rfl, hH, hz, q⟩ := h
  cases rx
  obtain ⟨u, rfl, ru⟩ := rv.one
  obtain ⟨z, its, n, r, hl, e⟩ := I.lstM hH
  refine call_meets F.slot_list_append ⟨_, e, rfl⟩ F.entry_list_append (F.args_list_append_2 _ _) (PySem.list_append l its.toArray n u (by rw [List.size_toArray]; omega)) ⟨e, ?_⟩
  refine ⟨.non, _, I.lset (its' := its ++ [u]) hH e (by simp) (r.append (.cons ru .nil)) ?_, rfl, q⟩
  rw [List.length_append, List.length_singleton]
  omega

noncomputable def rReverse : V → List V → Hp → VK → Prop := fun x vs H Q => ∃ l xs, x = .ref l ∧ vs = [] ∧ H l = some (.lst xs) ∧ Q .non (upd H l (.lst xs.reverse))
theorem mt_reverse : MtM X "list.reverse" rReverse := by
  intro pins s σ H x vs v us Q I rx rv h
  obtain ⟨l, xs, rfl, rfl, hH, q⟩ := h
  cases rx
  have hus := rv.zero
  subst hus
  obtain ⟨z, its, n, r, hl, e⟩ := I.lstM hH
  refine call_meets F.slot_list_reverse ⟨_, e, rfl⟩ F.entry_list_reverse (F.args_list_reverse_1 _) (AutoSeq1.list_reverse_list_0 l its.toArray n (by rw [List.size_toArray]; omega)) ⟨e, ?_⟩
  refine ⟨.non, _, I.lset (its' := its.reverse) hH e (by simp) r.reverse ?_, rfl, q⟩
  rw [List.length_reverse]
  omega

/-! ### list + list, list += list, list * int -/
noncomputable def rCat : R2 := fun x y H Q => ∃ l b xs zs, x = .ref l ∧ y = .ref b ∧ H l = some (.lst xs) ∧ H b = some (.lst zs) ∧ xs.length + zs.length ≤ sizeLine ∧ ∀ p, H p = none → Q (.ref p) (upd H p (.lst (xs ++ zs)))
theorem op_cat : OpR X (binaryOp .Add) rCat := by
  intro pins s σ H x y v u Q I rx ry h
  obtain ⟨l, b, xs, zs, rfl, rfl, hH, hB, hz, q⟩ := h
  cases rx
  cases ry
  obtain ⟨z, its, n, r, hl, e⟩ := I.lstM hH
  obtain ⟨z2, its2, n2, r2, hl2, e2⟩ := I.lstM hB
  refine PySem.P.add_list e e2 ?_ (by rw [List.size_toArray, List.size_toArray]; omega)
  have ea : its.toArray ++ its2.toArray = (its ++ its2).toArray := by simp
  rw [ea]
  exact ⟨.ref _, _, I.lnew (t' := s.toks) (r.append r2) (by rw [List.length_append]; omega), rfl, q _ I.fresh⟩
/-! ### del xs[i] -/
end

/-! ### xs[a:b] = ys -/
section
variable {prog : Program} {w : World} {A : Around} {E : Value → Shared → Prop} {s : Shared}
end

section
variable {X : Cx}
end
end L2

namespace Att
open PySem PySem.W PySem.Calls PyProof.Rows

/-! ### the script -/
theorem ints_of_wellAll {P : Params} {h : Heap} : ∀ (ns : List Int) (vs : List Value), WellAll P h vs (ns.map WData.int) → IntsAre vs ns := by
  intro ns
  induction ns with
  | nil =>
    intro vs w
    rw [List.map_nil] at w
    cases w
    exact .nil
  | cons n ns ih =>
    intro vs w
    rw [List.map_cons] at w
    cases w with
    | cons a b =>
      cases a
      exact .cons _ _ (ih _ b)

theorem script_of {l : OpenLaw} {n : Nat} (hn : l.most = some n) {P : Params} {h : Heap} {args : List WData} {vals : List Value}
    (hpre : l.row.toRowW.claim.pre args = true) (hwl : WellAll P h vals args) :
    ∃ a vs ns, vals = [Value.ref a] ∧ args = [WData.list (ns.map WData.int)] ∧ h.get? a = some { cls := .type "list", data := .seq vs.toArray } ∧ IntsAre vs ns ∧ ns.length ≤ n := by
  have hsh : WShape.hasAll [] args [.list .int] = true := (pre_splitW hpre).1
  have hc : l.pre.holds [] { args := args } = true := (pre_splitW hpre).2
  obtain ⟨d, r, rfl, h1, h2⟩ := hasAllW_cons hsh
  obtain rfl := hasAllW_nil h2
  obtain ⟨xs, rfl, h3⟩ := hasW_list h1
  obtain ⟨ns, rfl⟩ := items_int h3
  have hlen : ns.length ≤ n := by
    unfold OpenLaw.pre at hc
    have h4 : (WTm.not (.lt (.lit (.int (n : Int))) (.len (.arg 0)))).holds [] { args := [.list (ns.map .int)] } = true := by
      have h4 := (holds_andW hc).1
      rw [hn] at h4
      exact h4
    have h5 := condW_of h4 (w_not (w_lt w_lit (w_len_list (w_arg rfl))))
    rw [List.length_map] at h5
    refine Nat.le_of_not_lt fun q => ?_
    have q' : (n : Int) < ((ns.length : Nat) : Int) := by omega
    first
      | (rw [decide_eq_true q'] at h5; exact absurd h5 (by decide))
      | (simp at h5; omega)
  cases hwl with
  | cons w1 w2 =>
    cases w2
    cases w1 with
    | list ho hall => exact ⟨_, _, ns, rfl, rfl, ho, ints_of_wellAll ns _ hall, hlen⟩

theorem post_true (l : OpenLaw) (args : List WData) : l.row.toRowW.claim.post args (.bool true) args = true :=
  postW_of (r := l.row.toRowW) (X := (true == true))
    (show WShape.has [] (.bool true) .bool = true by first | rfl | decide | simp [WShape.has, WShape.arms, WShape.armsAll])
    (show (WTm.eq .res (.lit (.bool true))).value [] { args := args, res := some (.bool true), after := args } = some (.bool (true == true)) from w_eq_bool (w_res rfl) w_lit) rfl

/-! ### the attachment: holds_open's last premise (the goal 'hc' behind k_head) from a wpAny of the law's body -/
/-- the same from a codeAny of the CALL (for a layer whose function contracts speak of calls) -/
theorem attach_call {l : OpenLaw} {n : Nat} {q : Program} {loose : List Str} {XP : (Str → Option Value) → Heap → Prop} {YP : World → Heap → Prop} {d : DefRec}
    (hn : l.most = some n) (hdf : d.params.defaults = [])
    (call : ∀ (w : World) (s₀ s₁ : Shared) (mg mb : Str → Option Value) (fa : Addr) (o : Obj) (pm cd doc : Value) (a : Addr) (vs : List Value) (ns : List Int),
      Ground q loose [] XP w s₀ mg mb s₁.heap → YP w s₁.heap →
      s₁.heap.get? fa = some o → o.data = .func (docDef d.name d.params d.body d.scope pm cd doc) → s₁.heap.CodeRec cd d.name → mg d.name = some (.ref fa) →
      s₁.heap.get? a = some { cls := .type "list", data := .seq vs.toArray } → IntsAre vs ns → ns.length ≤ n → s₁.gens = #[] →
      codeAny (model l.prog w) callerA (.call (.ref fa) ⟨[.ref a], []⟩) (fun r s' => r = .ok (.ret (.bool true)) ∧ OldK s₁.heap s'.heap ∧ s'.os = s₁.os ∧ AllBare s'.gens) s₁) :
    WalkO q loose XP YP l.row.toRowW d [] (fun f vs => PySem.call f vs) := by
  intro w s₀ s₁ mg mb G Y fa o pm cd doc dV kV ho hd hcd hD hmg hg args vals as hpre hlay hrd hwl hlo
  obtain rfl : dV = .none := Dflts.none hD hdf
  obtain rfl : kV = .none := Dflts.noKw hD
  obtain ⟨a, vs, ns, rfl, rfl, hobj, hints, hlen⟩ := script_of hn hpre hwl
  refine enter_call (codeAny_mono (call w s₀ s₁ mg mb fa o pm cd doc a vs ns G Y ho (fd_plain hd) hcd hmg hobj hints hlen hg) fun r s' hq => ?_)
  obtain ⟨rfl, h2, h3, h4⟩ := hq
  exact ⟨.inl ⟨.bool true, .bool true, [], rfl, fun _ => rfl, .bool true, post_true l _, fun _ => ⟨List.Pairwise.nil, fun _ hm => (nomatch hm)⟩⟩, h2, h3, h4⟩

/-! ### rules over ANY heap (no ledger) from facts about the written part K: the library's own take a ledger (News) for what they write -/
section
variable {prog : Program} {w : World} {A : Around} {E : Value → Shared → Prop} {s : Shared} {K : Frag}

/-! the whole heap as the ledger: makes every rule that writes through a ledger a rule over any heap -/
end
end Att

namespace L2
open PySem PySem.Spec PyProof.Rows

theorem vals_ints : ∀ {vs : List Value} {ns : List Int}, IntsAre vs ns → Vals (ns.map V.int) vs
  | _, _, .nil => .nil
  | _, _, .cons n t h => .cons ⟨t, rfl⟩ (vals_ints h)

/-- nothing is tracked but the script, known to the object (or it is an object of the module) -/
noncomputable def Only (H : Hp) : Prop := ∀ b, H b = none ∨ ∃ o xs, H b = some (.frz o (.lst xs))

/-- THE HEAD: the law's promise, at the heap behind the top. F, the promise of the law's def, may use that base is part of the heap (so K.In base, base.Ns mainGlobals mg stand in Mod) -/
theorem law_call {P : Program} {w : World} {K : PySem.W.Frag} {mg mb : Str → Option Value} {CX : CXT} {k : Nat} {fa a : Addr} {fd : FuncData} {x : Str} {sp : Sp} {s₁ : Shared} {vs : List Value} {ns : List Int}
    (KX : K.In s₁.heap) (hns : s₁.heap.Ns mainGlobals mg) (hb : s₁.heap.Ns builtinsNs mb) (hbb : ∀ x : Str, x ≠ "__name__" → mb x = bootBuiltins x) (hlim : s₁.heap.NoLimit) (hg : s₁.gens = #[])
    (ha : s₁.heap.get? a = some { cls := .type "list", data := .seq vs.toArray }) (hi : IntsAre vs ns) (hl : ns.length ≤ sizeLine) (hr : Room k callerA)
    (F : ∀ base : Heap, K.In base → base.Ns mainGlobals mg → FnOk P w K mg base CX k fa fd [x] sp) (hbind : ∀ (s : Shared) (u : Value), BindsTo s fd ⟨[u], []⟩ [(x, u)])
    (hsp : ∀ H : Hp, Only H → SqL K H a (ns.map V.int) → sp [.ref a] H (fun v _ => v = .bl true) fun _ _ _ => False)
    (hCX : ∀ H e s', CX [] H s₁ (fun _ _ _ => False) e s' → False) :
    codeAny (model P w) callerA (.call (.ref fa) ⟨[.ref a], []⟩) (fun r s' => r = .ok (.ret (.bool true)) ∧ OldK s₁.heap s'.heap ∧ s'.os = s₁.os ∧ AllBare s'.gens) s₁ := by
  have rv := vals_ints hi
  have lenV := hi.length
  -- from an abstract heap in which nothing but the script may be tracked
  have core : ∀ H : Hp, Only H → SqL K H a (ns.map V.int) → HOk P w H s₁.heap → (∀ b, H b ≠ none → b = a) → (H a ≠ none → K.lookup a = none) →
      codeAny (model P w) callerA (.call (.ref fa) ⟨[.ref a], []⟩) (fun r s' => r = .ok (.ret (.bool true)) ∧ OldK s₁.heap s'.heap ∧ s'.os = s₁.os ∧ AllBare s'.gens) s₁ := by
    intro H hO hS hok hA hK
    have base_of : ∀ {b : Addr} {o : Obj}, s₁.heap.get? b = some o → H b = none → (hidT s₁.heap H).get? b = some o := fun e n => hidT_get e n
    have noA : ∀ {b : Addr} {o : Obj} {es : Array DictEntry} {ep : Nat}, s₁.heap.get? b = some o → o.data = .dict es ep → H b = none := fun {b o es ep} e d => by
      cases q : H b with
      | none => rfl
      | some u =>
        have e' : b = a := hA b (by rw [q]; simp)
        subst e'
        rw [ha] at e; cases e
        have d' : Data.seq vs.toArray _ = Data.dict es ep := d
        cases d'
    have nsK : ∀ {b : Addr} {m : Str → Option Value}, s₁.heap.Ns b m → (hidT s₁.heap H).Ns b m := fun {b m} ⟨o, es, ep, e, d, r⟩ => ⟨o, es, ep, base_of e (noA e d), d, r⟩
    have hKb : K.In (hidT s₁.heap H) := fun b o e => base_of (KX b o e) (by
      cases q : H b with
      | none => rfl
      | some u =>
        have e' : b = a := hA b (by rw [q]; simp)
        subst e'
        rw [hK (by rw [q]; simp)] at e; cases e)
    have hM : Mod K mg (hidT s₁.heap H) := ⟨hKb, nsK hns, ⟨mb, nsK hb, hbb⟩, let ⟨mc, h1, h2⟩ := hlim; ⟨mc, nsK h1, h2⟩⟩
    have e0 : Env0 P w K mg (hidT s₁.heap H) callerA [] s₁ H := ⟨rfl, hM, fun b o e => of_hidT e, Nat.le_of_eq (hidT_size _ _), trivial, fun b hb => absurd (show b ∈ ([] : List Addr) from hb) (by simp), hok, .of_eq hg⟩
    refine codeAny_mono ((F _ hKb (nsK hns)).run callerA [] s₁ H ⟨[.ref a], []⟩ [.ref a] [.ref a] _ _ hr e0 (hbind s₁ (.ref a)) (.cons rfl .nil) (hsp H hO hS)) fun r s' h => ?_
    cases r with
    | error e => exact (hCX H e s' h).elim
    | ok fl =>
      cases fl with
      | next => exact False.elim h
      | brk => exact False.elim h
      | cont => exact False.elim h
      | ret u =>
        obtain ⟨v, H', os, bare, un, hok', r', q⟩ := h
        have q' : v = .bl true := q
        subst q'
        obtain rfl : u = Value.bool true := r'
        refine ⟨rfl, OldK.of_keep fun b o e => ?_, os, bare⟩
        cases q : H b with
        | none => exact un.keep b o e q (by intro z; exact absurd (show b ∈ ([] : List Addr) from z) (by simp)) (by simp)
        | some u =>
          rcases hO b with z | ⟨ob, xs, z⟩
          · rw [q] at z; cases z
          · have z2 := un.frzs b ob _ z
            obtain ⟨e1, _⟩ := hok b _ z
            obtain ⟨e2, _⟩ := hok' b _ z2
            rw [e] at e1; cases e1
            exact e2
  cases hk : K.lookup a with
  | some o =>
    -- the script is one of the module's own objects
    have e := KX a o hk
    rw [ha] at e
    cases e
    refine core (fun _ => none) (fun _ => .inl rfl) (.inr ⟨_, vs.toArray, _, hk, rfl, rfl, rfl, by rw [List.size_toArray, lenV]; exact hl, by simpa using rv⟩) (fun b u z => by have z' : (none : Option HO) = some u := z; cases z') (fun b z => absurd rfl z) fun z => absurd rfl z
  | none =>
    refine core (fun b => if b = a then some (.frz { cls := .type "list", data := .seq vs.toArray } (.lst (ns.map V.int))) else none) (fun b => ?_) (.inl (.inr ⟨{ cls := .type "list", data := .seq vs.toArray }, if_pos rfl⟩)) (fun b u z => ?_) (fun b z => ?_) fun _ => hk
    · by_cases hb : b = a
      · exact .inr ⟨_, _, if_pos hb⟩
      · exact .inl (if_neg hb)
    · by_cases hb : b = a
      · have z' := (if_pos hb).symm.trans z
        cases z'
        subst hb
        exact ⟨ha, by rw [List.length_map]; exact hl, vs, _, rv, ha⟩
      · have z' := (if_neg hb).symm.trans z
        cases z'
    · by_cases hb : b = a
      · exact hb
      · exact absurd (if_neg hb) z
end L2

namespace L2
open PySem PySem.Spec PyProof.Rows

noncomputable abbrev KOf {K : PySem.W.Frag} {h : Heap} (_ : K.In h) : PySem.W.Frag := K

/-- the goal that k_head leaves (case hc), from the law's promise. F gives the function object fd (K's own) once, then the promise over every base -/
theorem walk_of {l : PySem.W.OpenLaw} {n k : Nat} {q : Program} {loose : List Str} {XP : (Str → Option Value) → Heap → Prop} {YP : World → Heap → Prop} {d : DefRec} {K : Params → PySem.W.Frag} {CX : World → CXT} {sp : World → Sp} {x : Str}
    (hn : l.most = some n) (hn2 : n ≤ sizeLine) (hdf : d.params.defaults = []) (hr : Room k callerA)
    (hY : ∀ (w : World) (h : Heap), YP w h → (K w.params).In h)
    (F : ∀ (w : World) (mg : Str → Option Value) (fa : Addr) (h : Heap), (K w.params).In h → h.Ns mainGlobals mg → mg d.name = some (.ref fa) →
      ∃ fd : FuncData, (∀ (s : Shared) (u : Value), BindsTo s fd ⟨[u], []⟩ [(x, u)]) ∧
        ∀ base : Heap, (K w.params).In base → base.Ns mainGlobals mg → FnOk l.prog w (K w.params) mg base (CX w) k fa fd [x] (sp w))
    (hsp : ∀ (w : World) (H : Hp) (a : Addr) (ns : List Int), ns.length ≤ n → Only H → SqL (K w.params) H a (ns.map V.int) → sp w [.ref a] H (fun v _ => v = .bl true) fun _ _ _ => False)
    (hCX : ∀ (w : World) (H : Hp) (s : Shared) (e : Value) (s' : Shared), CX w [] H s (fun _ _ _ => False) e s' → False) :
    PySem.W.WalkO q loose XP YP l.row.toRowW d [] (fun f vs => PySem.call f vs) := by
  refine Att.attach_call hn hdf fun w s₀ s₁ mg mb fa o pm cd doc a vs ns G Y ho hd hcd hmg hobj hints hlen hg => ?_
  have KX := hY w _ Y
  obtain ⟨fd, hb, hF⟩ := F w mg fa _ KX G.T.g hmg
  exact law_call KX G.T.g G.T.b G.T.builtins G.T.nolimit hg hobj hints (Nat.le_trans hlen hn2) hr hF hb (fun H hO hS => hsp w H a ns hlen hO hS) fun H e s' => hCX w H s₁ e s'
/-- the same where the promise hangs on the written part alone: (sp := My.sp_law), no hole under a binder -/
theorem walk_ofK {l : PySem.W.OpenLaw} {n k : Nat} {q : Program} {loose : List Str} {XP : (Str → Option Value) → Heap → Prop} {YP : World → Heap → Prop} {d : DefRec} {K : Params → PySem.W.Frag} {CX : CXT} {sp : PySem.W.Frag → Sp} {x : Str}
    (hn : l.most = some n) (hn2 : n ≤ sizeLine) (hdf : d.params.defaults = []) (hr : Room k callerA)
    (hY : ∀ (w : World) (h : Heap), YP w h → (K w.params).In h)
    (F : ∀ (w : World) (mg : Str → Option Value) (fa : Addr) (h : Heap), (K w.params).In h → h.Ns mainGlobals mg → mg d.name = some (.ref fa) →
      ∃ fd : FuncData, (∀ (s : Shared) (u : Value), BindsTo s fd ⟨[u], []⟩ [(x, u)]) ∧
        ∀ base : Heap, (K w.params).In base → base.Ns mainGlobals mg → FnOk l.prog w (K w.params) mg base CX k fa fd [x] (sp (K w.params)))
    (hsp : ∀ (K : PySem.W.Frag) (H : Hp) (a : Addr) (ns : List Int), ns.length ≤ n → Only H → SqL K H a (ns.map V.int) → sp K [.ref a] H (fun v _ => v = .bl true) fun _ _ _ => False)
    (hCX : ∀ (H : Hp) (s : Shared) (e : Value) (s' : Shared), CX [] H s (fun _ _ _ => False) e s' → False) :
    PySem.W.WalkO q loose XP YP l.row.toRowW d [] (fun f vs => PySem.call f vs) :=
  walk_of (K := K) (CX := fun _ => CX) (sp := fun w => sp (K w.params)) hn hn2 hdf hr hY F (fun w H a ns h1 h2 h3 => hsp (K w.params) H a ns h1 h2 h3) fun _ H s e s' => hCX H s e s'
end L2

/-! SHORT WORDS over the layer: a def of the text, its body, what a loop and a test want. -/
namespace L2
open PySem PySem.Spec PyProof.Rows

/-! ### the text by places -/
noncomputable def defArgs (s : Stmt) : Arguments := match s with
  | .FunctionDef _ a _ _ _ _ _ _ _ _ => a
  | _ => { posonlyargs := [], args := [], vararg := none, kwonlyargs := [], kw_defaults := [], kwarg := none, defaults := [] }
noncomputable def defBody (s : Stmt) : List Stmt := match s with
  | .FunctionDef _ _ b _ _ _ _ _ _ _ => b
  | _ => []
noncomputable def defScope (s : Stmt) : Scope := match s with
  | .FunctionDef _ _ _ _ _ _ sc _ _ _ => sc
  | _ => { kind := .function, names := [], isGenerator := false, isCoroutine := false }

/-! ### no exception leaves a def -/
noncomputable abbrev CX0 : CXT := fun _ _ _ _ _ _ => False
noncomputable abbrev E0 : XK := fun _ _ _ => False
theorem pass0 {X : Cx} : Passes CX0 X E0 := fun _ _ _ _ _ _ _ h => h.elim

/-! ### a def (or method) of the text as it stands behind the top -/
structure Fun (K : PySem.W.Frag) (x qual : Str) (st : Stmt) (f : Addr) (fd : FuncData) : Prop where
  ex : ∃ (oc : Value) (od : Option Addr) (kV doc pm : Value) (an : Option Addr) (cdv ct : Value) (osl : Array (Option Value)),
    fd = PySem.W.fnOf x qual (defArgs st) (defBody st) (defScope st) .none kV doc pm an cdv ct ∧ K.lookup f = some ⟨oc, od, .func fd, osl⟩ ∧ PySem.W.codeIn K cdv qual = true
  kp : PySem.W.keepIn K (.ref f) = true
section
variable {P : Program} {w : World} {K : PySem.W.Frag} {mg : Str → Option Value} {base : Heap}
/-- THE RULE for a def: its body as a term of rules, and the reading of that term -/
theorem Fun.ok {x qual : Str} {st : Stmt} {f : Addr} {fd : FuncData} {N ps : List Str} {k : Nat} {sp : Sp} (F : Fun K x qual st f fd) (S : FnScope N ps (defScope st)) (len : ∀ vs H Q E, sp vs H Q E → vs.length = ps.length)
    (hbody : ∀ (cdv : Value) (A : Around) (outer : List Env) (s : Shared) (H : Hp) (vs : List V) (Q : VK) (E : XK), Room k (A.deeper (envOfC qual (defScope st) s.heap.objs.size f cdv)) → sp vs H Q E →
      ∃ t, PSs (cxOf CX0 P w K mg base N qual (defScope st) f cdv A outer s H E).nox (defBody st) t ∧ t { nx := fun _ H' => Q .non H', rt := Q } (start N vs) H) : FnOk P w K mg base CX0 (k + 1) f fd ps sp := by
  obtain ⟨oc, od, kV, doc, pm, an, cdv, ct, osl, rfl, lk, hcd⟩ := F.ex
  refine fn_of lk hcd S len fun A outer s H vs Q E hr hsp => ?_
  obtain ⟨t, h, q⟩ := hbody cdv A outer s H vs Q E hr hsp
  exact ⟨t, h.nox, q⟩
/-- how its arguments bind (no defaults): h is «fun _ _ _ _ _ _ us hl => match us, hl with | [_, _], _ => rfl», one _ a parameter -/
theorem Fun.binds {x qual : Str} {st : Stmt} {f : Addr} {fd : FuncData} {ps : List Str} (F : Fun K x qual st f fd)
    (h : ∀ (kV doc pm : Value) (an : Option Addr) (cdv ct : Value) (us : List Value), us.length = ps.length → bindArgs (PySem.W.fnOf x qual (defArgs st) (defBody st) (defScope st) .none kV doc pm an cdv ct) ⟨us, []⟩ = pure (ps.zip us)) : Binds K fd ps [] := by
  obtain ⟨oc, od, kV, doc, pm, an, cdv, ct, osl, rfl, lk, hcd⟩ := F.ex
  exact .all (h kV doc pm an cdv ct)
theorem fun_mk {x qual : Str} {st : Stmt} {f : Addr} {oc : Value} {od an : Option Addr} {osl : Array (Option Value)} {kV doc pm cdv ct : Value} (l : K.lookup f = some ⟨oc, od, .func (PySem.W.fnOf x qual (defArgs st) (defBody st) (defScope st) .none kV doc pm an cdv ct), osl⟩)
    (c : PySem.W.codeIn K cdv qual = true) (k : PySem.W.keepIn K (.ref f) = true) : Fun K x qual st f (PySem.W.fnOf x qual (defArgs st) (defBody st) (defScope st) .none kV doc pm an cdv ct) := ⟨⟨oc, od, kV, doc, pm, an, cdv, ct, osl, rfl, l, c⟩, k⟩
end
theorem small1000 {n : Nat} (h : n ≤ 1000) : n < sizeLine := Nat.lt_of_le_of_lt h (by decide)

/-! ### expressions in short: the name that stands in the i-th slot -/
section
variable {X : Cx}
theorem pv (i : Nat) {x : Str} {pos : Pos} (hN : X.N[i]? = some x := by rfl) (hv : Vis X.env.scope x := by first | exact Or.inl rfl | exact Or.inr (Or.inl rfl) | exact Or.inr (Or.inr rfl)) (hd : (x == ("__debug__" : Str)) = false := by decide)
    (hcd : (x == ("__classdict__" : Str)) = false := by decide) : PE X (.Name x pos) (tVar i) := pe_var hN hv hd hcd
end

/-! ### tests -/
theorem iteF {A B : Prop} (h : B) : if false = true then A else B := by
  rw [if_neg Bool.false_ne_true]
  exact h
theorem iteT {A B : Prop} (h : A) : if true = true then A else B := by
  rw [if_pos rfl]
  exact h
theorem ite2 {c A B : Prop} [Decidable c] (h1 : c → A) (h2 : ¬ c → B) : if c then A else B := by
  by_cases h : c
  · rw [if_pos h]
    exact h1 h
  · rw [if_neg h]
    exact h2 h
/-! ### heaps -/
/-- all that was tracked is as it was -/
noncomputable def Same (H H' : Hp) : Prop := ∀ b o, H b = some o → H' b = some o
theorem Same.refl (H : Hp) : Same H H := fun _ _ h => h
theorem Same.trans {H H1 H2 : Hp} (a : Same H H1) (b : Same H1 H2) : Same H H2 := fun c o h => b c o (a c o h)
theorem Same.free {H H' : Hp} (e : Same H H') {l : Addr} (h : H' l = Option.none) : H l = Option.none := by
  cases q : H l with
  | none => rfl
  | some o =>
    rw [e l o q] at h
    cases h
theorem Same.seq {K : PySem.W.Frag} {H H' : Hp} {a : Addr} {xs : List V} (e : Same H H') (h : SqL K H a xs) : SqL K H' a xs := by
  rcases h with (h | ⟨o, h⟩) | h
  · exact .inl (.inl (e _ _ h))
  · exact .inl (.inr ⟨o, e _ _ h⟩)
  · exact .inr h

end L2

set_option Elab.async false
set_option linter.all false
set_option maxRecDepth 100000
set_option maxHeartbeats 4000000
namespace L2
open PySem PySem.Spec PyProof.Rows

/-! ### list comprehensions, one clause -/
/-- the cells that a block takes from around it -/
noncomputable def cloOf (env : Env) : List (Str × NameKind) → List (Str × Addr) → List (Str × Addr)
  | [], cs => cs
  | (n, k) :: r, cs => cloOf env r (if k == .free then (n, (env.cells.lookup n).getD 0) :: cs else cs)
theorem closure_is {env : Env} {scope : Scope} (h : ∀ x ∈ scope.names, x.2 = .free → ∃ c, env.cells.lookup x.1 = some c) : closureFor scope env = pure (cloOf env scope.names []) := by
  simp only [closureFor]
  have go : ∀ (l : List (Str × NameKind)) (cs : List (Str × Addr)), (∀ x ∈ l, x.2 = .free → ∃ c, env.cells.lookup x.1 = some c) →
      (forIn l cs fun (x : Str × NameKind) (r : List (Str × Addr)) => (do
        let (name, kind) := x
        if kind == .free then
          let a ← cellOf env name
          pure (ForInStep.yield ((name, a) :: r))
        else pure (ForInStep.yield r) : Sem (ForInStep (List (Str × Addr))))) = pure (cloOf env l cs) := by
    intro l
    induction l with
    | nil => intro cs _; rfl
    | cons x r ih =>
      intro cs hx
      obtain ⟨n, k⟩ := x
      rw [List.forIn_cons]
      by_cases hk : k = .free
      · obtain ⟨c, hc⟩ := hx (n, k) List.mem_cons_self hk
        subst hk
        have e : cellOf env n = pure c := by unfold cellOf; rw [hc]
        simp only [beq_self_eq_true, if_true, e, pure_bind]
        rw [ih _ fun y hy => hx y (List.mem_cons_of_mem _ hy)]
        simp only [cloOf, beq_self_eq_true, if_true, hc, Option.getD_some]
      · have hb : (k == NameKind.free) = false := by simpa using hk
        simp only [hb, Bool.false_eq_true, if_false, pure_bind]
        rw [ih _ fun y hy => hx y (List.mem_cons_of_mem _ hy)]
        simp only [cloOf, hb, Bool.false_eq_true, if_false]
  have g := go scope.names [] h
  first
    | exact (by rw [g] : _ = _)
    | (rw [← bind_pure (pure (cloOf env scope.names []))]; rw [← g]; rfl)
    | (simp only [g, pure_bind])
theorem cloOf_sub {env : Env} : ∀ (l : List (Str × NameKind)) (cs : List (Str × Addr)), (∀ x ∈ l, x.2 = .free → ∃ c, env.cells.lookup x.1 = some c) → (∀ x c, cs.lookup x = some c → env.cells.lookup x = some c) →
    ∀ x c, (cloOf env l cs).lookup x = some c → env.cells.lookup x = some c
  | [], _, _, h => h
  | (n, k) :: r, cs, hx, h => by
    refine cloOf_sub r _ (fun y hy => hx y (List.mem_cons_of_mem _ hy)) ?_
    intro x c e
    by_cases hk : k = .free
    · obtain ⟨c', hc⟩ := hx (n, k) List.mem_cons_self hk
      subst hk
      simp only [beq_self_eq_true, if_true, hc, Option.getD_some] at e
      rw [List.lookup_cons] at e
      cases q : x == n with
      | true =>
        rw [q] at e
        have q' : x = n := by simpa using q
        cases e
        rw [q']; exact hc
      | false => rw [q] at e; exact h x c e
    · have hb : (k == NameKind.free) = false := by simpa using hk
      simp only [hb, Bool.false_eq_true, if_false] at e
      exact h x c e
theorem cloOf_keeps {env : Env} : ∀ (l : List (Str × NameKind)) (cs : List (Str × Addr)) (x : Str), (∃ c, cs.lookup x = some c) → ∃ c, (cloOf env l cs).lookup x = some c
  | [], _, _, h => h
  | (n, k) :: r, cs, x, h => by
    refine cloOf_keeps r _ x ?_
    split
    · rw [List.lookup_cons]
      cases q : x == n with
      | true => exact ⟨_, rfl⟩
      | false => exact h
    · exact h
theorem cloOf_has {env : Env} : ∀ (l : List (Str × NameKind)) (cs : List (Str × Addr)) (x : Str), l.lookup x = some .free → ∃ c, (cloOf env l cs).lookup x = some c
  | [], _, _, h => by simp at h
  | (n, k) :: r, cs, x, h => by
    rw [List.lookup_cons] at h
    cases q : x == n with
    | true =>
      rw [q] at h
      cases h
      refine cloOf_keeps r _ x ?_
      simp only [beq_self_eq_true, if_true]
      rw [List.lookup_cons, q]
      exact ⟨_, rfl⟩
    | false => rw [q] at h; exact cloOf_has r _ x h
theorem relabel_look {env : Env} : ∀ {names : List (Str × NameKind)} {x : Str} {k' : NameKind},
    (names.map fun (n, k) => if (k == NameKind.free && env.scope.kind == .function && env.kindOf n == some .cell) then (n, NameKind.cell) else (n, k)).lookup x = some k' →
    ∃ k, names.lookup x = some k ∧ (k' = k ∨ (k = .free ∧ k' = .cell))
  | [], _, _, h => by simp at h
  | (n, k) :: r, x, k', h => by
    have ih := @relabel_look env r x k'
    rw [List.map_cons] at h
    by_cases hc : (k == NameKind.free && env.scope.kind == .function && env.kindOf n == some .cell) = true
    · have h2 : List.lookup x ((n, NameKind.cell) :: r.map fun (n, k) => if (k == NameKind.free && env.scope.kind == .function && env.kindOf n == some .cell) then (n, NameKind.cell) else (n, k)) = some k' := by
        simpa [hc] using h
      rw [List.lookup_cons] at h2
      rw [List.lookup_cons]
      cases q : x == n with
      | true =>
        rw [q] at h2
        cases h2
        have hk : k = .free := by
          simp only [Bool.and_eq_true] at hc
          simpa using hc.1.1
        exact ⟨k, rfl, .inr ⟨hk, rfl⟩⟩
      | false => rw [q] at h2; exact ih h2
    · have h2 : List.lookup x ((n, k) :: r.map fun (n, k) => if (k == NameKind.free && env.scope.kind == .function && env.kindOf n == some .cell) then (n, NameKind.cell) else (n, k)) = some k' := by
        simpa [hc] using h
      rw [List.lookup_cons] at h2
      rw [List.lookup_cons]
      cases q : x == n with
      | true => rw [q] at h2; cases h2; exact ⟨_, rfl, .inl rfl⟩
      | false => rw [q] at h2; exact ih h2

/-- the block's context: NL its own names, OUT names of the def around it that it reads -/
noncomputable def ccx (X : Cx) (scope : Scope) (C : Addr) (N' : List Str) (s₀ : Shared) (H₀ : Hp) (fp : List Addr) : Cx :=
  { X with N := N', s₀ := s₀, H₀ := H₀, env := compEnvC scope (cloOf X.env scope.names []) C X.env, outer := X.stack, stack := X.stack, ex := fp, fn := fun _ => false, pn := [], xe := fun _ _ => False }
/-- the block's slots at its start -/
noncomputable def cst (k : Nat) (ρ : List Nat) (σ : St) : St := List.replicate k none ++ ρ.map fun j => (σ[j]?).join
/-- what a scope must be: decided for a written one -/
structure CScope (X : Cx) (scope : Scope) (NL : List Str) (ρ : List Nat) (N' : List Str) : Prop where
  kind : scope.kind = .function
  nocell : ∀ x ∈ scope.names, x.2 ≠ .cell
  locs : ∀ x ∈ scope.names, x.2 = .local → scope.names.lookup x.1 = some .local
  frees : ∀ x ∈ scope.names, x.2 = .free → X.env.kindOf x.1 = some .cell ∨ X.env.kindOf x.1 = some .free
  names : N' = NL ++ ρ.map fun j => X.N.getD j ""
  outs : ∀ j ∈ ρ, ∃ x, X.N[j]? = some x ∧ scope.names.lookup x = some .free ∧ (X.env.scope.names.lookup x = some .cell ∨ X.env.scope.names.lookup x = some .free)
section
variable {X : Cx}
theorem cx_comp {scope : Scope} {NL N' : List Str} {ρ : List Nat} (S : CScope X scope NL ρ N') {pins : List (Addr × Obj)} {σ : St} {H : Hp} {s : Shared} {fp : List Addr} {C : Addr} (I : Inv X pins σ H s) (hf : ∀ b ∈ fp, FpOk X pins H b)
    (hfo : ∀ b ∈ fp, ∃ o, s.heap.get? b = some o) (hC : s.heap.objs.size ≤ C) : (ccx X scope C N' s H fp).Ok := by
  have free_in : ∀ x ∈ scope.names, x.2 = .free → ∃ c, X.env.cells.lookup x.1 = some c := fun x hx hk => I.ok.has x.1 (S.frees x hx hk)
  have sub := cloOf_sub (env := X.env) scope.names [] free_in (fun x c e => by simp at e)
  refine ⟨I.ok.mod, S.kind, I.ok.glob, I.ok.blt, hC, ?_, ?_, ?_, I.ok.hd, I.ok.frames, .inl rfl, ?_, I.bs, ?_, ?_, ?_, I.stack, I.stkFree⟩
  · exact fun x y c e1 e2 => I.ok.inj x y c (sub x c e1) (sub y c e2)
  · intro x hx
    have hx' : (relabel scope X.env).names.lookup x = some .cell ∨ (relabel scope X.env).names.lookup x = some .free := hx
    have look : ∀ k', (relabel scope X.env).names.lookup x = some k' → (k' = .cell ∨ k' = .free) → scope.names.lookup x = some .free := fun k' e hk => by
      obtain ⟨k, e1, z⟩ := relabel_look e
      rcases z with z | ⟨z, _⟩
      · subst z
        rcases hk with z | z
        · subst z
          have hm : (x, NameKind.cell) ∈ scope.names := mem_of_lookup e1
          exact absurd rfl (S.nocell _ hm)
        · subst z; exact e1
      · subst z; exact e1
    rcases hx' with e | e
    · exact cloOf_has scope.names [] x (look _ e (.inl rfl))
    · exact cloOf_has scope.names [] x (look _ e (.inr rfl))
  · intro x c e; exact absurd e (by show ¬ (false = true); decide)
  · intro b hb
    obtain ⟨f0, f1, f2, f3, f4, f5⟩ := hf b hb
    refine ⟨?_, fun x c e => f4 x c (sub x c e)⟩
    obtain ⟨o, ho⟩ := hfo b hb
    exact Nat.ne_of_lt (Nat.lt_of_lt_of_le (Heap.lt_size ho) hC)
  · exact Nat.le_trans I.ok.bsz I.sz
  · intro b o e hb
    obtain ⟨f0, f1, f2, f3, f4, f5⟩ := hf b hb
    rcases f3 with z | z
    · exact I.ok.noex b o e z
    · exact absurd (Nat.lt_of_lt_of_le (Heap.lt_size e) (Nat.le_trans I.ok.bsz z)) (Nat.lt_irrefl _)
  · intro b hb z
    obtain ⟨f0, f1, f2, f3, f4, f5⟩ := hf b hb
    rcases List.mem_cons.mp (I.stkSub b z) with e | e
    · exact f1 e
    · exact f2 e
end
end L2

set_option Elab.async false
set_option linter.all false
set_option maxRecDepth 100000
set_option maxHeartbeats 4000000
namespace L2
open PySem PySem.Spec PyProof.Rows
section
variable {X : Cx}
/-- the block begins: its frame at C, its list at D -/
theorem Inv.comp {scope : Scope} {NL N' : List Str} {ρ : List Nat} (S : CScope X scope NL ρ N') {pins : List (Addr × Obj)} {σ : St} {H : Hp} {s : Shared} {fp : List Addr} {C D : Addr} {h' : Heap} {t' : Nat} (I : Inv X pins σ H s) (hf : ∀ b ∈ fp, FpOk X pins H b)
    (hfo : ∀ b ∈ fp, ∃ o, s.heap.get? b = some o) (hC : s.heap.objs.size ≤ C) (hD : s.heap.objs.size ≤ D) (hDC : D ≠ C) (k : ∀ b u, s.heap.get? b = some u → h'.get? b = some u)
    (hd : h'.get? D = some { cls := .type "list", data := .seq #[] 0 }) (hn : h'.Ns C fun _ => none) :
    Inv (ccx X scope C N' s H fp) (X.pn ++ pins) (cst NL.length ρ σ) (upd H D (.lst [])) { s with heap := h', toks := t' } := by
  have ok := cx_comp S I hf hfo hC
  have free_in : ∀ x ∈ scope.names, x.2 = .free → ∃ c, X.env.cells.lookup x.1 = some c := fun x hx hk => I.ok.has x.1 (S.frees x hx hk)
  have sub := cloOf_sub (env := X.env) scope.names [] free_in (fun x c e => by simp at e)
  have fresh : ∀ b, s.heap.objs.size ≤ b → H b = none := fun b hb => I.hok.fresh hb
  have neD : ∀ b o, s.heap.get? b = some o → b ≠ D := fun b o e => Nat.ne_of_lt (Nat.lt_of_lt_of_le (Heap.lt_size e) hD)
  have neH : ∀ b u, H b = some u → b ≠ D := fun b u e => ne_of_none e (fresh D hD)
  refine ⟨ok, rfl, I.bare, ⟨fun b o e _ _ _ => k b o e, fun b o e _ _ _ => ⟨o.slots, k b o e⟩, fun b o e n _ => ?_, fun b o e _ => ⟨o, k b o e⟩, fun b xs e => ?_, fun b o u e => ?_, fun b ps e => ⟨#[], ?_⟩⟩, ⟨_, hn, ?_⟩, ?_, ?_, ?_, ?_, ?_, ?_⟩
  · show upd H D _ b = none
    rw [upd_ne (neD b o e)]; exact n
  · show upd H D _ b = _
    rw [upd_ne (neH b _ e)]; exact e
  · show upd H D _ b = _
    rw [upd_ne (neH b _ e)]; exact e
  · show upd H D _ b = _
    rw [upd_ne (neH b _ e)]
    have e' : H b = some (.tbl ps) := e
    rw [e']; simp
  · -- the names around
    intro i x v e1 e2 hv
    obtain ⟨m, hm, hl⟩ := I.loc
    have eN : (NL ++ ρ.map fun j => X.N.getD j "")[i]? = some x := by
      have e1' : N'[i]? = some x := e1
      rw [S.names] at e1'; exact e1'
    have eσ : (List.replicate NL.length (none : Option V) ++ ρ.map fun j => (σ[j]?).join)[i]? = some (some v) := e2
    by_cases hi : i < NL.length
    · rw [List.getElem?_append_left (by simpa using hi)] at eσ
      rw [List.getElem?_replicate] at eσ
      split at eσ <;> cases eσ
    · have hi' : NL.length ≤ i := Nat.le_of_not_lt hi
      rw [List.getElem?_append_right (by simpa using hi'), List.length_replicate, List.getElem?_map] at eσ
      rw [List.getElem?_append_right hi', List.getElem?_map] at eN
      cases q : ρ[i - NL.length]? with
      | none => rw [q] at eN; cases eN
      | some j =>
        rw [q] at eN eσ
        obtain ⟨y, ey, f1, f2⟩ := S.outs j (List.mem_of_getElem? q)
        have exy : X.N.getD j "" = y := by rw [List.getD_eq_getElem?_getD, ey]; rfl
        have exx : X.N.getD j "" = x := Option.some.inj eN
        have xy : x = y := exx.symm.trans exy
        subst xy
        have eσ' : (σ[j]?).join = some v := Option.some.inj eσ
        have eσ2 : σ[j]? = some (some v) := by
          cases z : σ[j]? with
          | none => rw [z] at eσ'; cases eσ'
          | some w => rw [z] at eσ'; exact congrArg some eσ'
        have vis : Vis X.env.scope x := by
          rcases f2 with z | z
          · exact .inr (.inl z)
          · exact .inr (.inr z)
        obtain ⟨u, r, l⟩ := hl j x v ey eσ2 vis
        refine ⟨u, r, ?_⟩
        obtain ⟨c, hc⟩ := cloOf_has (env := X.env) scope.names [] x f1
        rcases l with ⟨kl, _⟩ | ⟨_, c', hc', z⟩
        · have kl' : X.env.scope.names.lookup x = some .local := kl
          rcases f2 with z | z
          · rw [z] at kl'; cases kl'
          · rw [z] at kl'; cases kl'
        · have e3 := sub x c hc
          rw [hc'] at e3
          obtain rfl := Option.some.inj e3
          obtain ⟨oc, hoc, hcd⟩ := z
          have hv' : (relabel scope X.env).names.lookup x = some .local ∨ (relabel scope X.env).names.lookup x = some .cell ∨ (relabel scope X.env).names.lookup x = some .free := hv
          refine .inr ⟨?_, c', hc, oc, k _ _ hoc, hcd⟩
          rcases hv' with z | z | z
          · obtain ⟨k0, e4, z2⟩ := relabel_look z
            rw [f1] at e4
            cases e4
            rcases z2 with z2 | ⟨_, z2⟩ <;> cases z2
          · exact .inl z
          · exact .inr z
  · intro x c e
    obtain ⟨v, oc, hoc, hcd⟩ := I.cell x c (sub x c e)
    exact ⟨v, oc, k _ _ hoc, hcd⟩
  · show upd H D _ C = none
    rw [upd_ne (Ne.symm hDC)]; exact fresh C hC
  · intro x c e
    obtain ⟨v, oc, hoc, hcd⟩ := I.cell x c (sub x c e)
    rw [upd_ne (neD c oc hoc)]
    exact I.freeC x c (sub x c e)
  · intro p hp
    have hp' : p ∈ X.pn ++ pins := hp
    obtain ⟨e, n, ne, nf, d⟩ := I.pin p hp'
    refine ⟨k _ _ e, ?_, ?_, ?_, d⟩
    · rw [upd_ne (neD p.1 p.2 e)]; exact n
    · exact Nat.ne_of_lt (Nat.lt_of_lt_of_le (Heap.lt_size e) hC)
    · intro z
      rcases List.mem_cons.mp (I.stkSub p.1 z) with q | q
      · exact ne q
      · exact nf q
  · exact I.hok.laid k hD ⟨Nat.zero_le _, [], 0, .nil, hd⟩
  · show (List.replicate NL.length (none : Option V) ++ ρ.map fun j => (σ[j]?).join).length = N'.length
    rw [S.names]; simp
/-- the block has ended: only its frame may still turn -/
theorem Inv.compEnd {scope : Scope} {N' : List Str} {pins : List (Addr × Obj)} {σ σ' : St} {H H' : Hp} {s s' : Shared} {fp : List Addr} {C : Addr} {h' : Heap} {pins' : List (Addr × Obj)} (I : Inv X pins σ H s) (hf : ∀ b ∈ fp, FpOk X pins H b) (hC : s.heap.objs.size ≤ C)
    (J : Inv (ccx X scope C N' s H fp) pins' σ' H' s') (hs : Heap.SameBut C s'.heap h') : Inv X pins σ H' { s' with heap := h' } := by
  have hn : H' C = none := J.free
  have nC : ∀ b o, s.heap.get? b = some o → b ≠ C := fun b o e => Nat.ne_of_lt (Nat.lt_of_lt_of_le (Heap.lt_size e) hC)
  have B : Un (frs X.stack) fp H H' s.heap s'.heap := J.base
  have U : Un (frs X.stack) fp H H' s.heap h' := ⟨fun b o e n hb hx => (hs.2 b (nC b o e)).trans (B.keep b o e n hb hx), fun b o e n hb hx => by
      obtain ⟨sl, q⟩ := B.slot b o e n hb hx
      exact ⟨sl, (hs.2 b (nC b o e)).trans q⟩, B.free, fun b o e hx => by
      obtain ⟨o', q⟩ := B.there b o e hx
      exact ⟨o', (hs.2 b (nC b o e)).trans q⟩, B.tups, B.frzs, B.tbls⟩
  have hok : HOk X.prog X.w H' h' := fun b u e => by
    refine (J.hok b u e).stay (fun c v hc q => (hs.2 c ?_).trans q) (fun _ q => q) fun _ _ q => q
    rintro rfl
    rcases hc with rfl | hc
    · rw [hn] at e; cases e
    · rw [hn] at hc; cases hc
  refine Inv.call' (s' := { s' with heap := h' }) I J.os U hok J.bare fun b hb => ?_
  obtain ⟨f0, f1, f2, f3, f4, f5⟩ := hf b hb
  exact ⟨f3, f1, f4, f5⟩

/-- the reading. k: how many names of its own; ρ: the slots around that it reads; behind the first source: for each new list l an invariant W by the turn, a measure, what is collected -/
noncomputable def tComp (k : Nat) (ρ : List Nat) (wi : TI) (g : TG) (tb : List V → Addr → St → Hp → (List V → St → Hp → Prop) → Prop) : TE := fun σ H Q =>
  wi σ H fun J H1 => ∀ l, H1 l = none → ∃ W : Nat → Nat → List V → St → Hp → Prop, (∃ m, W 0 m [] (cst k ρ σ) (upd H1 l (.lst []))) ∧
    ∀ i m ys σ' H', W i m ys σ' H' → (J.stop i H' ∧ Q (.ref l) H') ∨ (J.go i H' ∧ ∀ x H'', J.yld i H' x H'' → g x σ' H'' fun σ2 H2 => tb ys l σ2 H2 fun ys' σ3 H3 => ∃ m', m' < m ∧ W (i + 1) m' ys' σ3 H3)
/-- the element appended -/
noncomputable def cEl (te : TE) : List V → Addr → St → Hp → (List V → St → Hp → Prop) → Prop := fun ys l σ H N => te σ H fun y H1 => H1 l = some (.lst ys) ∧ ys.length < sizeLine ∧ N (ys ++ [y]) σ (upd H1 l (.lst (ys ++ [y])))
/-- a block's turn behind the store -/
noncomputable def PB (X : Cx) (body : Value → Sem Unit) (tb : List V → Addr → St → Hp → (List V → St → Hp → Prop) → Prop) : Prop :=
  ∀ (pins : List (Addr × Obj)) (s : Shared) (σ : St) (H : Hp) (l : Addr) (ys : List V) (N : List V → St → Hp → Prop), Inv X pins σ H s → tb ys l σ H N →
    wpAny (model X.prog X.w) X.A (body (.ref l)) (fun _ s' => ∃ ys' σ' H', Inv X pins σ' H' s' ∧ N ys' σ' H') X.xe s
theorem pb_el {elt : Expr} {te : TE} (he : PE X elt te) : PB X (fun acc => do let x ← eval elt X.env; let _ ← call (.builtin "list.append") [acc, x]; pure ()) (cEl te) := by
  intro pins s σ H l ys N I h
  refine wpAny_bind (thn (he pins s σ H _ I h) fun u s1 ⟨y, H1, I1, r1, q0, q1, q2⟩ => wpAny_bind ?_)
  refine thn (mt_append pins s1 σ H1 (.ref l) [y] (.ref l) [u] (fun v H' => v = .non ∧ N (ys ++ [y]) σ H') I1 rfl (.cons r1 .nil) ⟨l, ys, y, rfl, rfl, q0, q1, rfl, q2⟩) fun _ s2 ⟨v, H2, I2, _, _, n2⟩ => wpAny_pure ⟨_, σ, H2, I2, n2⟩
theorem turn_eq0 (elt target iter : Expr) (scope : Scope) (pos : Pos) (it acc : Value) (env : Env) :
    compTurn (.ListComp elt [⟨target, iter, [], 0⟩] scope pos) 0 it acc env = (standAt iter.pos >>= fun _ => pyNext it >>= fun r => match r with
      | none => pure (.done .next)
      | some v => letOwnedTupleGo target it v >>= fun _ => assign target env v >>= fun _ =>
        (do let x ← eval elt env; let _ ← call (.builtin "list.append") [acc, x]; pure () : Sem Unit) >>= fun _ => again (.compLoop (.ListComp elt [⟨target, iter, [], 0⟩] scope pos) 0 it acc env)) := by rfl
end
end L2

set_option Elab.async false
set_option linter.all false
set_option maxRecDepth 100000
set_option maxHeartbeats 4000000
namespace L2
open PySem PySem.Spec PyProof.Rows
section
variable {X : Cx}
theorem pe_compG {elt tgt iter : Expr} {ifs : List Expr} {scope : Scope} {pos : Pos} {NL N' : List Str} {ρ : List Nat} {wi : TI} {g : TG} {tb : List V → Addr → St → Hp → (List V → St → Hp → Prop) → Prop} {body : Value → Env → Sem Unit}
    (hc : X.calm = true) (S : CScope X scope NL ρ N') (hi : PI X tgt iter wi)
    (hg : ∀ C s₀ H₀ fp, PG (ccx X scope C N' s₀ H₀ fp) tgt g) (hb : ∀ C s₀ H₀ fp, PB (ccx X scope C N' s₀ H₀ fp) (fun acc => body acc (ccx X scope C N' s₀ H₀ fp).env) tb)
    (he : ∀ (it acc : Value) (env : Env), compTurn (.ListComp elt [⟨tgt, iter, ifs, 0⟩] scope pos) 0 it acc env = (standAt iter.pos >>= fun _ => pyNext it >>= fun r => match r with
      | none => pure (.done .next)
      | some v => letOwnedTupleGo tgt it v >>= fun _ => assign tgt env v >>= fun _ => body acc env >>= fun _ => again (.compLoop (.ListComp elt [⟨tgt, iter, ifs, 0⟩] scope pos) 0 it acc env)))
    (hs : ∀ x, foldedSetIterable iter X.env x = pure x := by intro _; rfl) : PE X (.ListComp elt [⟨tgt, iter, ifs, 0⟩] scope pos) (tComp NL.length ρ wi g tb) := by
  intro pins s σ H Q I h
  have free_in : ∀ x ∈ scope.names, x.2 = .free → ∃ c, X.env.cells.lookup x.1 = some c := fun x hx hk => I.ok.has x.1 (S.frees x hx hk)
  rw [eval_ListComp]
  refine wpAny_comprehension_free (use := none) rfl hs (closure_is free_in) S.kind S.locs ?_
  refine thn (hi pins s σ H _ I h) fun v s1 h1 => thn h1 fun itv s2 h2 => ?_
  obtain ⟨it, fp, tn, J, H2, e, I2, T, st2, f2, w⟩ := h2
  subst e
  refine wpAny_newObj_type (wpAny_newFunctionEnv S.nocell (by intro y hy; simp at hy) (fun h₁ hns₁ hsb₁ => ?_) S.kind)
  dsimp only at hns₁ hsb₁ ⊢
  generalize hH2 : s2.heap.push { cls := .type "list", dict := none, data := .seq ([] : List Value).toArray } = h2' at hns₁ hsb₁ ⊢
  have hCs : h2'.objs.size = s2.heap.objs.size + 1 := by rw [← hH2, Heap.size_push]
  have hDC : s2.heap.objs.size ≠ h2'.objs.size := by rw [hCs]; exact Nat.ne_of_lt (Nat.lt_succ_self _)
  have hC : s2.heap.objs.size ≤ h2'.objs.size := by rw [hCs]; exact Nat.le_succ _
  have old : ∀ b o, s2.heap.get? b = some o → h₁.get? b = some o := fun b o e => hsb₁.extBut b o (Nat.ne_of_lt (Nat.lt_of_lt_of_le (Heap.lt_size e) hC)) (Heap.get?_push_of_some _ (hH2 ▸ Heap.get?_push_of_some _ e))
  have hd : h₁.get? s2.heap.objs.size = some { cls := .type "list", data := .seq #[] 0 } := hsb₁.extBut _ _ hDC (Heap.get?_push_of_some _ (hH2 ▸ Heap.get?_push_size _ rfl))
  have hfo : ∀ b ∈ fp, ∃ o, s2.heap.get? b = some o := fun b hb => let ⟨o, e, _⟩ := T.obj _ _ st2 b hb; ⟨o, e⟩
  have I4 : Inv (ccx X scope h2'.objs.size N' s2 H2 fp) (X.pn ++ pins) (cst NL.length ρ σ) (upd H2 s2.heap.objs.size (.lst [])) { s2 with heap := h₁, toks := s2.toks + ([] : List (Str × Value)).length } :=
    Inv.comp S I2 f2 hfo hC (Nat.le_refl _) hDC old hd (by simpa using hns₁)
  have hD0 : H2 s2.heap.objs.size = none := I2.hok.fresh (Nat.le_refl _)
  have nfp : s2.heap.objs.size ∉ fp := fun z => by
    obtain ⟨o, e⟩ := hfo _ z
    exact absurd (Heap.lt_size e) (Nat.lt_irrefl _)
  obtain ⟨W, ⟨m0, w0⟩, turn⟩ := w s2.heap.objs.size hD0
  -- the iterator's objects
  have stat : ∀ {H' : Hp}, (∀ b ∈ fp, H' b = none) → ∀ b ∈ fp, FpOk (ccx X scope h2'.objs.size N' s2 H2 fp) (X.pn ++ pins) H' b := fun {H'} hn b hb => by
    obtain ⟨f0, f1, f2', f3, f4, f5⟩ := f2 b hb
    have ok := I4.ok
    refine ⟨hn b hb, (ok.exf b hb).1, ok.exfs b hb, .inl hb, (ok.exf b hb).2, fun p hp => f5 p hp⟩
  have loop : ∀ s₃ : Shared, s₃ = { s2 with heap := h₁, toks := s2.toks + ([] : List (Str × Value)).length } →
      codeAny (model X.prog X.w) X.A (.compLoop (.ListComp elt [⟨tgt, iter, ifs, 0⟩] scope pos) 0 (.ref it) (.ref s2.heap.objs.size) (compEnvC scope (cloOf X.env scope.names []) h2'.objs.size X.env))
        (compPost (model X.prog X.w) X.A X.xe none (EP X pins σ Q) (.ref s2.heap.objs.size) h2'.objs.size) s₃ := by
    rintro s₃ rfl
    refine codeAny_loop rfl (fun n s' => ∃ i ys σ' H', Inv (ccx X scope h2'.objs.size N' s2 H2 fp) (X.pn ++ pins) σ' H' s' ∧ tn i s'.heap ∧ (∀ b ∈ fp, H' b = none) ∧ W i n ys σ' H') (fun n s3 hI => ?_) m0
      ⟨0, [], _, _, I4, T.keep _ _ _ st2 (fun b _ o e => old b o e), fun b hb => ?_, w0⟩
    · obtain ⟨i, ys, σ3, H3, I3, st3, fr3, w3⟩ := hI
      show wpAny _ _ ((compTurn (.ListComp elt [⟨tgt, iter, ifs, 0⟩] scope pos) 0 (.ref it) (.ref s2.heap.objs.size) (compEnvC scope (cloOf X.env scope.names []) h2'.objs.size X.env)).onRaise (fun x => do noteFrame x _; theTreesLotGoes x)) _ _ s3
      refine wpAny_noted ?_
      rw [he]
      refine wpAny_bind (wpAny_standAt (wpAny_bind ?_))
      rcases turn i n ys σ3 H3 w3 with ⟨stop, qn⟩ | ⟨go, step⟩
      · refine thn (T.done (ccx X scope h2'.objs.size N' s2 H2 fp) rfl rfl rfl hc i _ s3 σ3 H3 _ I3 (stat fr3) st3 stop) fun r s4 ⟨hr, I5⟩ => ?_
        subst hr
        refine wpAny_pure ?_
        obtain ⟨m, hm, _⟩ := id I5.loc
        exact ⟨m, hm, fun h' hs' => ⟨.ref s2.heap.objs.size, H3, Inv.compEnd I2 f2 hC I5 hs', rfl, qn⟩⟩
      · refine thn (T.item (ccx X scope h2'.objs.size N' s2 H2 fp) rfl rfl rfl hc i _ s3 σ3 H3 _ I3 (stat fr3) st3 go) fun r s4 ⟨u, hr, h4⟩ => ?_
        subst hr
        refine wpAny_bind (thn h4 fun _ s5 ⟨x, H5, I5, r5, y5, st5, fr5⟩ => ?_)
        have I5' := I5.pinned (stat fr5) (T.obj _ _ st5)
        refine wpAny_bind (wpAny_mono (hg h2'.objs.size s2 H2 fp _ s5 σ3 H5 x u _ I5' r5 (step x H5 y5)) (fun _ s6 ⟨σ6, H6, I6, q6⟩ => ?_) fun _ _ z => z.elim)
        refine wpAny_bind (wpAny_mono (hb h2'.objs.size s2 H2 fp _ s6 σ6 H6 s2.heap.objs.size ys _ I6 q6) (fun _ s7 ⟨ys7, σ7, H7, I7, m', hm, w7⟩ => ?_) fun _ _ z => z.elim)
        refine wpAny_pure ⟨rfl, m', hm, i + 1, ys7, σ7, H7, I7.unpinned, T.keep _ _ _ st5 fun b hb o e => (I7.pin (b, o) (List.mem_append_right _ (List.mem_append_right _ (mem_pinsAt hb e)))).1, fun b hb => ?_, w7⟩
        obtain ⟨o, e, d⟩ := T.obj _ _ st5 b hb
        exact (I7.pin (b, o) (List.mem_append_right _ (List.mem_append_right _ (mem_pinsAt hb e)))).2.1
    · rw [upd_ne (show b ≠ s2.heap.objs.size from fun z => nfp (by rw [← z]; exact hb))]
      exact (f2 b hb).1
  refine codeAny_compStart_list (loop _ rfl) (T.self _ 0 _ _ _ ?_ (loop _ rfl))
  exact T.keep _ _ _ st2 fun b _ o e => old b o e
/-- [elt for tgt in iter] -/
theorem pe_comp {elt tgt iter : Expr} {scope : Scope} {pos : Pos} {NL N' : List Str} {ρ : List Nat} {wi : TI} {g : TG} {te : TE} (hc : X.calm = true) (S : CScope X scope NL ρ N') (hi : PI X tgt iter wi)
    (hg : ∀ C s₀ H₀ fp, PG (ccx X scope C N' s₀ H₀ fp) tgt g) (he : ∀ C s₀ H₀ fp, PE (ccx X scope C N' s₀ H₀ fp) elt te)
    (hs : ∀ x, foldedSetIterable iter X.env x = pure x := by intro _; rfl) : PE X (.ListComp elt [⟨tgt, iter, [], 0⟩] scope pos) (tComp NL.length ρ wi g (cEl te)) :=
  pe_compG (body := fun acc env => do let x ← eval elt env; let _ ← call (.builtin "list.append") [acc, x]; pure ()) hc S hi hg (fun C s₀ H₀ fp => pb_el (he C s₀ H₀ fp)) (fun it acc env => turn_eq0 elt tgt iter scope pos it acc env) hs
end
end L2

set_option Elab.async false
set_option linter.all false
set_option maxRecDepth 100000
set_option maxHeartbeats 4000000
namespace L2
open PySem PySem.Spec PyProof.Rows
section
variable {X : Cx}
/-! ### isinstance of a value and a type of Python's own -/
/-- what isinstance tells -/
inductive IsiB (K : PySem.W.Frag) (H : Hp) : V → String → Bool → Prop
  | int_int {i} : IsiB K H (.int i) "int" true
  | int_str {i} : IsiB K H (.int i) "str" false
  | int_bool {i} : IsiB K H (.int i) "bool" false
  | int_tuple {i} : IsiB K H (.int i) "tuple" false
  | int_list {i} : IsiB K H (.int i) "list" false
  | str_int {x} : IsiB K H (.str x) "int" false
  | str_str {x} : IsiB K H (.str x) "str" true
  | str_bool {x} : IsiB K H (.str x) "bool" false
  | str_tuple {x} : IsiB K H (.str x) "tuple" false
  | str_list {x} : IsiB K H (.str x) "list" false
  | bl_int {b} : IsiB K H (.bl b) "int" true
  | bl_bool {b} : IsiB K H (.bl b) "bool" true
  | bl_str {b} : IsiB K H (.bl b) "str" false
  | bl_tuple {b} : IsiB K H (.bl b) "tuple" false
  | tup_int {a xs} : SqT K H a xs → IsiB K H (.ref a) "int" false
  | tup_str {a xs} : SqT K H a xs → IsiB K H (.ref a) "str" false
  | tup_bool {a xs} : SqT K H a xs → IsiB K H (.ref a) "bool" false
  | tup_tuple {a xs} : SqT K H a xs → IsiB K H (.ref a) "tuple" true
  | tup_list {a xs} : SqT K H a xs → IsiB K H (.ref a) "list" false
  | lst_int {a xs} : SqL K H a xs → IsiB K H (.ref a) "int" false
  | lst_str {a xs} : SqL K H a xs → IsiB K H (.ref a) "str" false
  | lst_tuple {a xs} : SqL K H a xs → IsiB K H (.ref a) "tuple" false
  | lst_list {a xs} : SqL K H a xs → IsiB K H (.ref a) "list" true
theorem nsub (a b : String) (h : isSubtype (.type a) (.type b) = pure false := by rw [isSubtype_type]; kernel_rfl) : isSubtype (.type a) (.type b) = pure false := h
theorem ysub (a b : String) (h : isSubtype (.type a) (.type b) = pure true := by rw [isSubtype_type]; kernel_rfl) : isSubtype (.type a) (.type b) = pure true := h
theorem n_int_str : isSubtype (.type "int") (.type "str") = pure false := nsub _ _
theorem n_int_bool : isSubtype (.type "int") (.type "bool") = pure false := nsub _ _
theorem n_int_tuple : isSubtype (.type "int") (.type "tuple") = pure false := nsub _ _
theorem n_int_list : isSubtype (.type "int") (.type "list") = pure false := nsub _ _
theorem n_str_int : isSubtype (.type "str") (.type "int") = pure false := nsub _ _
theorem n_str_bool : isSubtype (.type "str") (.type "bool") = pure false := nsub _ _
theorem n_str_tuple : isSubtype (.type "str") (.type "tuple") = pure false := nsub _ _
theorem n_str_list : isSubtype (.type "str") (.type "list") = pure false := nsub _ _
theorem n_bool_str : isSubtype (.type "bool") (.type "str") = pure false := nsub _ _
theorem n_bool_tuple : isSubtype (.type "bool") (.type "tuple") = pure false := nsub _ _
theorem n_tuple_int : isSubtype (.type "tuple") (.type "int") = pure false := nsub _ _
theorem n_tuple_str : isSubtype (.type "tuple") (.type "str") = pure false := nsub _ _
theorem n_tuple_bool : isSubtype (.type "tuple") (.type "bool") = pure false := nsub _ _
theorem n_tuple_list : isSubtype (.type "tuple") (.type "list") = pure false := nsub _ _
theorem n_list_int : isSubtype (.type "list") (.type "int") = pure false := nsub _ _
theorem n_list_str : isSubtype (.type "list") (.type "str") = pure false := nsub _ _
theorem n_list_tuple : isSubtype (.type "list") (.type "tuple") = pure false := nsub _ _
theorem y_int : isSubtype (.type "int") (.type "int") = pure true := ysub _ _
theorem y_str : isSubtype (.type "str") (.type "str") = pure true := ysub _ _
theorem y_bool : isSubtype (.type "bool") (.type "bool") = pure true := ysub _ _
theorem y_bool_int : isSubtype (.type "bool") (.type "int") = pure true := ysub _ _
theorem y_tuple : isSubtype (.type "tuple") (.type "tuple") = pure true := ysub _ _
theorem y_list : isSubtype (.type "list") (.type "list") = pure true := ysub _ _
theorem m_int : typeOf (.type "int") = pure (.type "type") := by kernel_rfl
theorem m_str : typeOf (.type "str") = pure (.type "type") := by kernel_rfl
theorem m_bool : typeOf (.type "bool") = pure (.type "type") := by kernel_rfl
theorem m_tuple : typeOf (.type "tuple") = pure (.type "type") := by kernel_rfl
theorem m_list : typeOf (.type "list") = pure (.type "type") := by kernel_rfl
theorem call_isi : CallR X (.builtin "isinstance") (fun xs H Q => ∃ x T b, xs = [x, .ty T] ∧ IsiB X.K H x T b ∧ Q (.bl b) H) := by
  intro pins s σ H xs us Q I r h
  obtain ⟨x, T, b, rfl, hb, q⟩ := h
  obtain ⟨u, w', rfl, rx, rT⟩ := vals2 r
  cases rT
  have fin : ∀ t, EP X pins σ Q (.bool b) { s with toks := t } := fun t => ⟨.bl b, H, I.tok t, rfl, q⟩
  have fin0 : EP X pins σ Q (.bool b) s := ⟨.bl b, H, I, rfl, q⟩
  have tup : ∀ {a xs}, SqT X.K H a xs → ∃ o, s.heap.get? a = some o ∧ o.cls = .type "tuple" := fun hq => by
    obtain ⟨its, _, p, _⟩ := I.tuple hq
    obtain ⟨o, e, c, _⟩ := p
    exact ⟨o, e, c⟩
  have lst : ∀ {a xs}, SqL X.K H a xs → ∃ o, s.heap.get? a = some o ∧ o.cls = .type "list" := fun hq => by
    obtain ⟨its, _, p, _⟩ := I.list hq
    obtain ⟨o, e, c, _⟩ := p.isList
    exact ⟨o, e, c⟩
  cases hb with
  | int_int => obtain ⟨t, rfl⟩ := rx; exact call_isinstance (isinstance_true (Tx := "int") m_int y_int) ⟨rfl, fin0⟩
  | int_str => obtain ⟨t, rfl⟩ := rx; exact call_isinstance (isinstance_false_int (by decide) m_str n_int_str) (fin _)
  | int_bool => obtain ⟨t, rfl⟩ := rx; exact call_isinstance (isinstance_false_int (by decide) m_bool n_int_bool) (fin _)
  | int_tuple => obtain ⟨t, rfl⟩ := rx; exact call_isinstance (isinstance_false_int (by decide) m_tuple n_int_tuple) (fin _)
  | int_list => obtain ⟨t, rfl⟩ := rx; exact call_isinstance (isinstance_false_int (by decide) m_list n_int_list) (fin _)
  | str_int => obtain ⟨t, rfl⟩ := rx; exact call_isinstance (isinstance_false_str (by decide) m_int n_str_int) (fin _)
  | str_str => obtain ⟨t, rfl⟩ := rx; exact call_isinstance (isinstance_true (Tx := "str") m_str y_str) ⟨rfl, fin0⟩
  | str_bool => obtain ⟨t, rfl⟩ := rx; exact call_isinstance (isinstance_false_str (by decide) m_bool n_str_bool) (fin _)
  | str_tuple => obtain ⟨t, rfl⟩ := rx; exact call_isinstance (isinstance_false_str (by decide) m_tuple n_str_tuple) (fin _)
  | str_list => obtain ⟨t, rfl⟩ := rx; exact call_isinstance (isinstance_false_str (by decide) m_list n_str_list) (fin _)
  | bl_int => cases rx; exact call_isinstance (isinstance_true (Tx := "bool") m_int y_bool_int) ⟨rfl, fin0⟩
  | bl_bool => cases rx; exact call_isinstance (isinstance_true (Tx := "bool") m_bool y_bool) ⟨rfl, fin0⟩
  | bl_str => cases rx; exact call_isinstance (isinstance_false_bool (by decide) m_str n_bool_str) (fin _)
  | bl_tuple => cases rx; exact call_isinstance (isinstance_false_bool (by decide) m_tuple n_bool_tuple) (fin _)
  | tup_int hq => cases rx; exact call_isinstance (isinstance_false_tuple (by decide) m_int n_tuple_int) ⟨tup hq, fin _⟩
  | tup_str hq => cases rx; exact call_isinstance (isinstance_false_tuple (by decide) m_str n_tuple_str) ⟨tup hq, fin _⟩
  | tup_bool hq => cases rx; exact call_isinstance (isinstance_false_tuple (by decide) m_bool n_tuple_bool) ⟨tup hq, fin _⟩
  | tup_tuple hq => cases rx; exact call_isinstance (isinstance_true (Tx := "tuple") m_tuple y_tuple) ⟨tup hq, fin0⟩
  | tup_list hq => cases rx; exact call_isinstance (isinstance_false_tuple (by decide) m_list n_tuple_list) ⟨tup hq, fin _⟩
  | lst_int hq => cases rx; exact call_isinstance (isinstance_false_list (by decide) m_int n_list_int) ⟨lst hq, fin _⟩
  | lst_str hq => cases rx; exact call_isinstance (isinstance_false_list (by decide) m_str n_list_str) ⟨lst hq, fin _⟩
  | lst_tuple hq => cases rx; exact call_isinstance (isinstance_false_list (by decide) m_tuple n_list_tuple) ⟨lst hq, fin _⟩
  | lst_list hq => cases rx; exact call_isinstance (isinstance_true (Tx := "list") m_list y_list) ⟨lst hq, fin0⟩

/-! ### a text walked sign by sign -/
noncomputable def Its (z : Str) : It := ⟨fun i _ => i < z.cps.size, fun i H x H' => H' = H ∧ ∃ c, z.cps[i]? = some c ∧ x = .str ⟨#[c]⟩, fun i _ => i = z.cps.size⟩
noncomputable def iStr (te : TE) : TI := fun σ H R => te σ H fun x H1 => ∃ z, x = .str z ∧ R (Its z) H1
theorem turn_str {P : Program} {w : World} {K : PySem.W.Frag} {tg : Expr} (T : String) (it : Addr) (z : Str) (t : Tok)
    (W : ∀ A : Around, A.handled = none → Walks P w A it [it] [it] z.cps.size (SignAt z) (fun i h => h.IsStrIter it T z t i))
    (hT : ["enumerate", "zip", "dict_itemiterator", "dict_reverseitemiterator", "odict_iterator", "itertools.zip_longest", "itertools.pairwise"].contains T = false)
    (hs : ∀ (A : Around) (i : Nat) (s : Shared) (Q : Value → Shared → Prop) (E : Value → Shared → Prop), s.heap.IsStrIter it T z t i → Q (.ref it) s → wpAny (model P w) A (pyIter (.ref it)) Q E s) :
    Turn P w K tg (Its z) [it] it (fun i h => h.IsStrIter it T z t i) where
  mem := by simp
  obj := fun i h st b hb => by
    have e : b = it := by simpa using hb
    subst e
    obtain ⟨o, e, c, d⟩ := st
    exact ⟨o, e, fun v z => by rw [d] at z; cases z⟩
  keep := fun i h h' st k => by
    obtain ⟨o, e, c, d⟩ := st
    exact ⟨o, k it (by simp) o e, c, d⟩
  item := by
    intro X hP hw hK hc i pins s σ H E I hf st hg
    subst hP hw hK
    obtain ⟨f0, f1, f2, f3, f4, f5⟩ := hf it (by simp)
    refine (W X.A (I.ok.hd hc)).item i s _ _ hg st fun v h' tk hv st' kk => ?_
    obtain ⟨c, u, hcz, rfl⟩ := hv
    have I1 : Inv X pins σ H { s with heap := h', toks := tk } := I.turned (fun b o hb e => kk b o (by simpa using hb) e) f0 f1 f3 f4 f5
    obtain ⟨o, e, cl, d⟩ := id st'
    exact ⟨_, rfl, go_of (s := { s with heap := h', toks := tk }) e cl d hT ⟨.str ⟨#[c]⟩, H, I1, ⟨u, rfl⟩, ⟨rfl, c, hcz, rfl⟩, st', fun b hb => (hf b hb).1⟩⟩
  done := by
    intro X hP hw hK hc i pins s σ H E I hf st hg
    subst hP hw hK
    obtain ⟨f0, f1, f2, f3, f4, f5⟩ := hf it (by simp)
    have hi : i = z.cps.size := hg
    subst hi
    exact (W X.A (I.ok.hd hc)).done s _ _ st fun h' tk kk => ⟨rfl, I.turned (fun b o hb e => kk b o (by simpa using hb) e) f0 f1 f3 f4 f5⟩
  self := hs
theorem pi_str {tg l : Expr} {tl : TE} (hl : PE X l tl) : PI X tg l (iStr tl) := by
  intro pins s σ H R I h
  refine thn (hl pins s σ H _ I h) fun v s1 ⟨x, H1, I1, r1, q1⟩ => ?_
  obtain ⟨z, rfl, q⟩ := q1
  obtain ⟨t, rfl⟩ := r1
  have fp : ∀ (o : Obj), ∀ b ∈ [s1.heap.objs.size], FpOk X pins H1 b := fun o b hb => by
    have e : b = s1.heap.objs.size := by simpa using hb
    subst e
    exact I1.fpOk (Nat.le_refl _) (I1.hok.fresh (Nat.le_refl _))
  cases ha : z.cps.all (· < 128)
  · refine wpAny_pyIter_wide ha ?_
    exact ⟨s1.heap.objs.size, [s1.heap.objs.size], _, _, H1, rfl, I1.kept (t' := s1.toks) fun b o e => Heap.get?_push_of_some _ e,
      turn_str "str_iterator" _ z t (fun A hA => Walks.strWide hA _ z t) (by decide) (fun _ _ _ _ _ st h => wpAny_pyIter_striter_wide st h), ⟨_, Heap.get?_push_size _ rfl, rfl, rfl⟩, fp default, q⟩
  · refine wpAny_pyIter_ascii ha ?_
    exact ⟨s1.heap.objs.size, [s1.heap.objs.size], _, _, H1, rfl, I1.kept (t' := s1.toks) fun b o e => Heap.get?_push_of_some _ e,
      turn_str "str_ascii_iterator" _ z t (fun A hA => Walks.strAscii hA _ z t) (by decide) (fun _ _ _ _ _ st h => wpAny_pyIter_striter_ascii st h), ⟨_, Heap.get?_push_size _ rfl, rfl, rfl⟩, fp default, q⟩

/-! ### all, any of a list of bools; sum of a list of ints -/
noncomputable def bls : List Bool → List V := List.map V.bl
theorem call_all : CallR X (.builtin "all") (fun xs H Q => ∃ p ys, xs = [.ref p] ∧ X.calm = true ∧ SqL X.K H p (bls ys) ∧ Q (.bl (ys.all id)) H) := by
  intro pins s σ H xs us Q I r h
  obtain ⟨p, ys, rfl, hcm, hq, q⟩ := h
  obtain ⟨u, rfl, rx⟩ := vals1 r
  cases rx
  obtain ⟨its, r', pl, hz⟩ := I.list hq
  have hh : X.A.in1.handled = none := I.ok.hd hcm
  have hne : p ≠ s.heap.objs.size := by
    obtain ⟨o, e, _⟩ := pl.isList
    exact Nat.ne_of_lt (Heap.lt_size e)
  have hlen : its.length = ys.length := by rw [← r'.length]; simp [bls]
  refine call_all_walk (wpAny_pyIter_list pl.isList ⟨s.heap.objs.size, _, _, _, _, _, fun i => ys.getD i true, rfl, Walks.list hh _ p hne its.toArray, ⟨⟨_, Heap.get?_push_size _ rfl, rfl, rfl⟩, pl.isList.at fun o e => Heap.get?_push_of_some _ e⟩, ?_, ?_⟩)
  · intro i v s' Q' E' hv hQ
    have hv' : its[i]? = some v := by simpa using hv
    have hi : i < ys.length := by
      rw [← hlen]
      exact (List.getElem?_eq_some_iff.mp hv').1
    have e1 : (bls ys)[i]? = some (V.bl ys[i]) := by simp [bls, hi]
    obtain ⟨u, hu, ru⟩ := r'.get e1
    rw [hv'] at hu
    obtain rfl := Option.some.inj hu
    cases ru
    refine wpAny_truthy_bool ?_
    have e2 : ys.getD i true = ys[i] := by simp [List.getD_eq_getElem?_getD, hi]
    have hQ' : Q' (ys.getD i true) s' := hQ
    rw [e2] at hQ'
    exact hQ'
  · intro h' tk kk
    have e3 : (List.range its.toArray.size).all (fun i => ys.getD i true) = ys.all id := by
      rw [List.size_toArray, hlen]
      rw [Bool.eq_iff_iff, List.all_eq_true, List.all_eq_true]
      constructor
      · intro g x hx
        obtain ⟨i, hi, rfl⟩ := List.mem_iff_getElem.mp hx
        have := g i (List.mem_range.mpr hi)
        simpa [List.getD_eq_getElem?_getD, hi] using this
      · intro g i hi
        have hi' := List.mem_range.mp hi
        have := g ys[i] (List.getElem_mem hi')
        simpa [List.getD_eq_getElem?_getD, hi'] using this
    rw [e3]
    refine ⟨.bl _, H, ?_, rfl, q⟩
    have I1 : Inv X pins σ H { s with heap := s.heap.push { cls := .type "list_iterator", data := .fields #[.ref p, .int 0 0] } } := I.kept (t' := s.toks) fun b o e => Heap.get?_push_of_some _ e
    exact I.kept (t' := tk) fun b o e => kk b o (by
      intro z
      have z' : b = s.heap.objs.size := by simpa using z
      exact absurd (Heap.lt_size e) (by rw [z']; exact Nat.lt_irrefl _)) (Heap.get?_push_of_some _ e)
end
end L2

set_option Elab.async false
set_option linter.all false
set_option maxRecDepth 100000
set_option maxHeartbeats 4000000
namespace L2
open PySem PySem.Spec PyProof.Rows
section
variable {X : Cx}
theorem preSum_take (ns : List Int) : ∀ n, n ≤ ns.length → preSum (fun i => ns.getD i 0) n = (ns.take n).sum
  | 0, _ => by simp [preSum]
  | n + 1, h => by
    have hn : n < ns.length := h
    rw [preSum, preSum_take ns n (Nat.le_of_lt hn), List.take_add_one, List.sum_append]
    simp [List.getD_eq_getElem?_getD, hn]
/-- sum of a list of ints -/
theorem call_sum : CallR X (.builtin "sum") (fun xs H Q => ∃ (p : Addr) (ns : List Int), xs = [.ref p] ∧ X.calm = true ∧ SqL X.K H p (ns.map V.int) ∧ Q (.int ns.sum) H) := by
  intro pins s σ H xs us Q I r h
  obtain ⟨p, ns, rfl, hcm, hq, q⟩ := h
  obtain ⟨u, rfl, rx⟩ := vals1 r
  cases rx
  obtain ⟨its, r', pl, hz⟩ := I.list hq
  have hh : X.A.in1.handled = none := I.ok.hd hcm
  have hlt : p < s.heap.objs.size := by
    obtain ⟨o, e, _⟩ := pl.isList
    exact Heap.lt_size e
  have hne : p ≠ s.heap.objs.size := Nat.ne_of_lt hlt
  have hlen : its.length = ns.length := by rw [← r'.length]; simp
  refine call_sum_walkG (wpAny_pyIter_list pl.isList ⟨s.heap.objs.size, _, _, _, _, _, fun i => ns.getD i 0, rfl, Walks.list hh _ p hne its.toArray, ⟨⟨_, Heap.get?_push_size _ rfl, rfl, rfl⟩, pl.isList.at fun o e => Heap.get?_push_of_some _ e⟩, ?_, ?_, ?_⟩)
  · intro b hb
    have hb' : b = s.heap.objs.size ∨ b = p := by simpa using hb
    show b < (s.heap.push _).objs.size
    rw [Heap.size_push]
    rcases hb' with e | e
    · exact e ▸ Nat.lt_succ_self _
    · exact Nat.lt_succ_of_lt (e ▸ hlt)
  · intro i v hv
    have hv' : its[i]? = some v := by simpa using hv
    have hi : i < ns.length := by
      rw [← hlen]
      exact (List.getElem?_eq_some_iff.mp hv').1
    have e1 : (ns.map V.int)[i]? = some (V.int ns[i]) := by simp [hi]
    obtain ⟨u, hu, ru⟩ := r'.get e1
    rw [hv'] at hu
    obtain rfl := Option.some.inj hu
    obtain ⟨t, rfl⟩ := ru
    exact ⟨t, by simp [List.getD_eq_getElem?_getD, hi]⟩
  · intro h' tk t' kk
    have e3 : preSum (fun i => ns.getD i 0) its.toArray.size = ns.sum := by
      rw [List.size_toArray, hlen, preSum_take ns _ (Nat.le_refl _), List.take_length]
    rw [e3]
    refine ⟨.int _, H, ?_, ⟨_, rfl⟩, q⟩
    exact I.kept (t' := tk) fun b o e => kk b o (by
      intro z
      have z' : b = s.heap.objs.size := by simpa using z
      exact absurd (Heap.lt_size e) (by rw [z']; exact Nat.lt_irrefl _)) (Heap.get?_push_of_some _ e)
/-! ### a slice of a text -/
noncomputable def rSlS : V → Option Int → Option Int → Hp → VK → Prop := fun x lo hi H Q => ∃ z, x = .str z ∧ z.length ≤ sizeLine ∧ Q (.str (Txt.slice z lo hi)) H
theorem sl_str : SlR X rSlS := by
  intro pins s σ H x v vl vu lo hi sl Q I rx hs pl pu h
  obtain ⟨z, rfl, hz, q⟩ := h
  obtain ⟨t, rfl⟩ := rx
  refine ⟨"str", _, F.slot_str_getitem.lookup, typeIs_str _ _ _, ?_⟩
  have fin : ∀ t' k, EP X pins σ Q (.str (Txt.slice z lo hi) t') { s with toks := k } := fun t' k => ⟨.str _, H, I.tok k, ⟨t', rfl⟩, q⟩
  cases pl with
  | none =>
    cases pu with
    | none => exact wpAny_getItem_str_slice (l := none) (u := none) (st := none) hs rfl (post_val_or_str ⟨Nat.le_trans (Txt.slice_le z _ _) hz, fun t' k => fin t' k⟩)
    | int j uj => exact wpAny_getItem_str_slice (l := none) (u := some (j, uj)) (st := none) hs rfl (post_val_or_str ⟨Nat.le_trans (Txt.slice_le z _ _) hz, fun t' k => fin t' k⟩)
  | int i ui =>
    cases pu with
    | none => exact wpAny_getItem_str_slice (l := some (i, ui)) (u := none) (st := none) hs rfl (post_val_or_str ⟨Nat.le_trans (Txt.slice_le z _ _) hz, fun t' k => fin t' k⟩)
    | int j uj => exact wpAny_getItem_str_slice (l := some (i, ui)) (u := some (j, uj)) (st := none) hs rfl (post_val_or_str ⟨Nat.le_trans (Txt.slice_le z _ _) hz, fun t' k => fin t' k⟩)
/-! ### is True, is False -/
end
end L2

set_option Elab.async false
set_option linter.all false
set_option maxRecDepth 100000
set_option maxHeartbeats 4000000
namespace L2
open PySem PySem.Spec PyProof.Rows
theorem same_new {H : Hp} {p : Addr} (h : H p = none) (o : HO) : Same H (upd H p o) := fun b u q => by rw [upd_ne (ne_of_none q h)]; exact q
/-- all but r as it was -/
noncomputable def But (r : Addr) (H H' : Hp) : Prop := ∀ b o, b ≠ r → H b = some o → H' b = some o
theorem But.refl (r : Addr) (H : Hp) : But r H H := fun _ _ _ h => h
theorem But.trans {r : Addr} {H H1 H2 : Hp} (a : But r H H1) (b : But r H1 H2) : But r H H2 := fun c o n h => b c o n (a c o n h)
theorem But.same {r : Addr} {H H1 : Hp} (a : Same H H1) : But r H H1 := fun c o _ h => a c o h
theorem But.put {r : Addr} {H : Hp} {o : HO} : But r H (upd H r o) := fun c u n h => by rw [upd_ne n]; exact h
theorem But.seq {K : PySem.W.Frag} {r : Addr} {H H' : Hp} {a : Addr} {xs : List V} (e : But r H H') (n : a ≠ r) (h : SqL K H a xs) : SqL K H' a xs := by
  rcases h with (h | ⟨o, h⟩) | h
  · exact .inl (.inl (e _ _ n h))
  · exact .inl (.inr ⟨o, e _ _ n h⟩)
  · exact .inr h
theorem But.tup {K : PySem.W.Frag} {r : Addr} {H H' : Hp} {a : Addr} {xs : List V} (e : But r H H') (n : a ≠ r) (h : SqT K H a xs) : SqT K H' a xs := by
  rcases h with (h | ⟨o, h⟩) | h
  · exact .inl (.inl (e _ _ n h))
  · exact .inl (.inr ⟨o, e _ _ n h⟩)
  · exact .inr h
theorem Same.tup {K : PySem.W.Frag} {H H' : Hp} {a : Addr} {xs : List V} (e : Same H H') (h : SqT K H a xs) : SqT K H' a xs := by
  rcases h with (h | ⟨o, h⟩) | h
  · exact .inl (.inl (e _ _ h))
  · exact .inl (.inr ⟨o, e _ _ h⟩)
  · exact .inr h
/-- a block that takes nothing from around it -/
theorem cs0 {X : Cx} {scope : Scope} {NL : List Str} (h1 : scope.kind = .function) (h2 : (scope.names.all fun x => x.2 != .cell && x.2 != .free) = true)
    (h3 : ∀ x ∈ scope.names, x.2 = .local → scope.names.lookup x.1 = some .local) : CScope X scope NL [] NL := by
  rw [List.all_eq_true] at h2
  refine ⟨h1, fun x hx e => ?_, h3, fun x hx e => ?_, by simp, fun j hj => by simp at hj⟩
  · have := h2 x hx
    rw [e] at this
    exact absurd this (by decide)
  · have := h2 x hx
    rw [e] at this
    exact absurd this (by decide)
/-- a block over a text -/
theorem comp_str {z : Str} {l : Addr} {g : TG} {tb : List V → Addr → St → Hp → (List V → St → Hp → Prop) → Prop} {Q : VK} {σ0 : St} {H0 : Hp} (Pv : Nat → List V → St → Hp → Prop) (h0 : Pv 0 [] σ0 H0)
    (hs : ∀ i c ys σ H (N : List V → St → Hp → Prop), z.cps[i]? = some c → Pv i ys σ H → (∀ ys' σ' H', Pv (i + 1) ys' σ' H' → N ys' σ' H') → g (.str ⟨#[c]⟩) σ H fun σ2 H2 => tb ys l σ2 H2 N)
    (hd : ∀ ys σ H, Pv z.cps.size ys σ H → Q (.ref l) H) :
    ∃ W : Nat → Nat → List V → St → Hp → Prop, (∃ m, W 0 m [] σ0 H0) ∧ ∀ i m ys σ' H', W i m ys σ' H' → ((Its z).stop i H' ∧ Q (.ref l) H') ∨
      ((Its z).go i H' ∧ ∀ x H'', (Its z).yld i H' x H'' → g x σ' H'' fun σ2 H2 => tb ys l σ2 H2 fun ys' σ3 H3 => ∃ m', m' < m ∧ W (i + 1) m' ys' σ3 H3) := by
  refine ⟨fun i m ys σ H => m = z.cps.size - i ∧ i ≤ z.cps.size ∧ Pv i ys σ H, ⟨z.cps.size, by simp, Nat.zero_le _, h0⟩, ?_⟩
  rintro i m ys σ H ⟨rfl, hi, p⟩
  by_cases hlt : i < z.cps.size
  · refine .inr ⟨hlt, fun x H' y => ?_⟩
    obtain ⟨e, c, hc, rfl⟩ := y
    subst e
    exact hs i c ys σ _ _ hc p fun ys' σ' H' q => ⟨_, by omega, rfl, hlt, q⟩
  · have e : i = z.cps.size := by omega
    subst e
    exact .inl ⟨rfl, hd ys σ H p⟩
/-- .. over a range -/
theorem comp_range {lo : Int} {n : Nat} {l : Addr} {g : TG} {tb : List V → Addr → St → Hp → (List V → St → Hp → Prop) → Prop} {Q : VK} {σ0 : St} {H0 : Hp} (Pv : Nat → List V → St → Hp → Prop) (h0 : Pv 0 [] σ0 H0)
    (hs : ∀ i ys σ H (N : List V → St → Hp → Prop), i < n → Pv i ys σ H → (∀ ys' σ' H', Pv (i + 1) ys' σ' H' → N ys' σ' H') → g (.int (lo + i)) σ H fun σ2 H2 => tb ys l σ2 H2 N)
    (hd : ∀ ys σ H, Pv n ys σ H → Q (.ref l) H) :
    ∃ W : Nat → Nat → List V → St → Hp → Prop, (∃ m, W 0 m [] σ0 H0) ∧ ∀ i m ys σ' H', W i m ys σ' H' → ((Itr lo n).stop i H' ∧ Q (.ref l) H') ∨
      ((Itr lo n).go i H' ∧ ∀ x H'', (Itr lo n).yld i H' x H'' → g x σ' H'' fun σ2 H2 => tb ys l σ2 H2 fun ys' σ3 H3 => ∃ m', m' < m ∧ W (i + 1) m' ys' σ3 H3) := by
  refine ⟨fun i m ys σ H => m = n - i ∧ i ≤ n ∧ Pv i ys σ H, ⟨n, by simp, Nat.zero_le _, h0⟩, ?_⟩
  rintro i m ys σ H ⟨rfl, hi, p⟩
  by_cases hlt : i < n
  · refine .inr ⟨hlt, fun x H' y => ?_⟩
    obtain ⟨e, rfl⟩ := y
    subst e
    exact hs i ys σ _ _ hlt p fun ys' σ' H' q => ⟨_, by omega, rfl, hlt, q⟩
  · have e : i = n := by omega
    subst e
    exact .inl ⟨Nat.le_refl _, hd ys σ H p⟩
/-- .. over a list that the turns leave as it is -/
theorem comp_list {K : PySem.W.Frag} {a : Addr} {xs : List V} {l : Addr} {g : TG} {tb : List V → Addr → St → Hp → (List V → St → Hp → Prop) → Prop} {Q : VK} {σ0 : St} {H0 : Hp} (Pv : Nat → List V → St → Hp → Prop) (h0 : Pv 0 [] σ0 H0) (hl : ∀ i ys σ H, i ≤ xs.length → Pv i ys σ H → SqL K H a xs)
    (hs : ∀ i x ys σ H (N : List V → St → Hp → Prop), xs[i]? = some x → Pv i ys σ H → (∀ ys' σ' H', Pv (i + 1) ys' σ' H' → N ys' σ' H') → g x σ H fun σ2 H2 => tb ys l σ2 H2 N)
    (hd : ∀ ys σ H, Pv xs.length ys σ H → Q (.ref l) H) :
    ∃ W : Nat → Nat → List V → St → Hp → Prop, (∃ m, W 0 m [] σ0 H0) ∧ ∀ i m ys σ' H', W i m ys σ' H' → ((Itl K a).stop i H' ∧ Q (.ref l) H') ∨
      ((Itl K a).go i H' ∧ ∀ x H'', (Itl K a).yld i H' x H'' → g x σ' H'' fun σ2 H2 => tb ys l σ2 H2 fun ys' σ3 H3 => ∃ m', m' < m ∧ W (i + 1) m' ys' σ3 H3) := by
  refine ⟨fun i m ys σ H => m = xs.length - i ∧ i ≤ xs.length ∧ Pv i ys σ H, ⟨xs.length, by simp, Nat.zero_le _, h0⟩, ?_⟩
  rintro i m ys σ H ⟨rfl, hi, p⟩
  have q := hl i ys σ H hi p
  by_cases hlt : i < xs.length
  · refine .inr ⟨⟨xs, xs[i], q, by simp [hlt]⟩, fun x H' y => ?_⟩
    obtain ⟨e, y⟩ := y
    subst e
    exact hs i x ys σ _ _ (y xs q) p fun ys' σ' H' q => ⟨_, by omega, rfl, hlt, q⟩
  · have e : i = xs.length := by omega
    subst e
    exact .inl ⟨⟨xs, q, Nat.le_refl _⟩, hd ys σ H p⟩
theorem comp_tup {K : PySem.W.Frag} {a : Addr} {xs : List V} {l : Addr} {g : TG} {tb : List V → Addr → St → Hp → (List V → St → Hp → Prop) → Prop} {Q : VK} {σ0 : St} {H0 : Hp} (Pv : Nat → List V → St → Hp → Prop) (h0 : Pv 0 [] σ0 H0) (hl : ∀ i ys σ H, i ≤ xs.length → Pv i ys σ H → SqT K H a xs)
    (hs : ∀ i x ys σ H (N : List V → St → Hp → Prop), xs[i]? = some x → Pv i ys σ H → (∀ ys' σ' H', Pv (i + 1) ys' σ' H' → N ys' σ' H') → g x σ H fun σ2 H2 => tb ys l σ2 H2 N)
    (hd : ∀ ys σ H, Pv xs.length ys σ H → Q (.ref l) H) :
    ∃ W : Nat → Nat → List V → St → Hp → Prop, (∃ m, W 0 m [] σ0 H0) ∧ ∀ i m ys σ' H', W i m ys σ' H' → ((Itt K a).stop i H' ∧ Q (.ref l) H') ∨
      ((Itt K a).go i H' ∧ ∀ x H'', (Itt K a).yld i H' x H'' → g x σ' H'' fun σ2 H2 => tb ys l σ2 H2 fun ys' σ3 H3 => ∃ m', m' < m ∧ W (i + 1) m' ys' σ3 H3) := by
  refine ⟨fun i m ys σ H => m = xs.length - i ∧ i ≤ xs.length ∧ Pv i ys σ H, ⟨xs.length, by simp, Nat.zero_le _, h0⟩, ?_⟩
  rintro i m ys σ H ⟨rfl, hi, p⟩
  have q := hl i ys σ H hi p
  by_cases hlt : i < xs.length
  · refine .inr ⟨⟨xs, xs[i], q, by simp [hlt]⟩, fun x H' y => ?_⟩
    obtain ⟨e, y⟩ := y
    subst e
    exact hs i x ys σ _ _ (y xs q) p fun ys' σ' H' q => ⟨_, by omega, rfl, hlt, q⟩
  · have e : i = xs.length := by omega
    subst e
    exact .inl ⟨⟨xs, q, Nat.le_refl _⟩, hd ys σ H p⟩
/-- a module's constant -/
theorem pe_gint {X : Cx} {x : Str} {i : Int} {t : Tok} {pos : Pos} (hg : Gl X x) (hm : X.mg x = some (.int i t)) (hd : (x == ("__debug__" : Str)) = false := by decide) : PE X (.Name x pos) (tC (.int i)) := pe_glob hg hm ⟨_, rfl⟩ hd
theorem pe_gstr {X : Cx} {x z : Str} {t : Tok} {pos : Pos} (hg : Gl X x) (hm : X.mg x = some (.str z t)) (hd : (x == ("__debug__" : Str)) = false := by decide) : PE X (.Name x pos) (tC (.str z)) := pe_glob hg hm ⟨_, rfl⟩ hd
theorem pe_gref {X : Cx} {x : Str} {a : Addr} {pos : Pos} (hg : Gl X x) (hm : X.mg x = some (.ref a)) (hd : (x == ("__debug__" : Str)) = false := by decide) : PE X (.Name x pos) (tC (.ref a)) := pe_glob hg hm rfl hd
theorem pe_gty {X : Cx} {x : Str} {n : String} {pos : Pos} (hg : Gl X x) (hm : X.mg x = none) (hv : bootBuiltins x = some (.type n)) (hn : x ≠ "__name__" := by decide) (hd : (x == ("__debug__" : Str)) = false := by decide) : PE X (.Name x pos) (tC (.ty n)) := pe_bltn hg hm hv rfl hn hd
/-- a def of the text: its object, how it binds, its name -/
structure Gn (K : PySem.W.Frag) (mg : Str → Option Value) (x : Str) (st : Stmt) (ps : List Str) (f : Addr) (fd : FuncData) : Prop where
  F : Fun K x x st f fd
  b : Binds K fd ps []
  m : mg x = some (.ref f)
end L2

set_option Elab.async false
set_option linter.all false
set_option maxRecDepth 100000
set_option maxHeartbeats 4000000
namespace L2
open PySem PySem.Spec PyProof.Rows
/-- a datum: what nested tuples hold -/
inductive Dt where
  | non | bl (b : Bool) | int (i : Int) | str (z : Str) | tup (l : List Dt)
mutual
inductive IsD (K : PySem.W.Frag) (H : Hp) : Dt → V → Prop
  | non : IsD K H .non .non
  | bl {b} : IsD K H (.bl b) (.bl b)
  | int {i} : IsD K H (.int i) (.int i)
  | str {z} : IsD K H (.str z) (.str z)
  | tup {l : List Dt} {a : Addr} {xs : List V} : SqT K H a xs → IsDs K H l xs → IsD K H (.tup l) (.ref a)
inductive IsDs (K : PySem.W.Frag) (H : Hp) : List Dt → List V → Prop
  | nil : IsDs K H [] []
  | cons {d : Dt} {l : List Dt} {x : V} {xs : List V} : IsD K H d x → IsDs K H l xs → IsDs K H (d :: l) (x :: xs)
end
mutual
noncomputable def Dt.dep : Dt → Nat
  | .tup l => depS l + 1
  | _ => 0
noncomputable def depS : List Dt → Nat
  | [] => 0
  | d :: l => max d.dep (depS l)
end
mutual
noncomputable def eqD : Dt → Dt → Bool
  | .non, .non => true
  | .bl a, .bl b => a == b
  | .bl a, .int i => (if a then 1 else 0) == i
  | .int i, .bl a => i == (if a then 1 else 0)
  | .int i, .int j => i == j
  | .str x, .str y => x == y
  | .tup l, .tup m => eqDs l m
  | _, _ => false
noncomputable def eqDs : List Dt → List Dt → Bool
  | [], [] => true
  | d :: l, e :: m => eqD d e && eqDs l m
  | _, _ => false
end
mutual
noncomputable def Dt.plain : Dt → Bool
  | .bl _ => false
  | .tup l => plainS l
  | _ => true
noncomputable def plainS : List Dt → Bool
  | [] => true
  | d :: l => d.plain && plainS l
end
mutual
theorem eqD_refl : ∀ d : Dt, eqD d d = true
  | .non => rfl
  | .bl a => by simp [eqD]
  | .int i => by simp [eqD]
  | .str z => by simp [eqD]
  | .tup l => by simp only [eqD]; exact eqDs_refl l
theorem eqDs_refl : ∀ l : List Dt, eqDs l l = true
  | [] => rfl
  | d :: l => by simp only [eqDs, eqD_refl d, eqDs_refl l, Bool.and_self]
end
mutual
theorem eqD_eq : ∀ d e : Dt, d.plain = true → e.plain = true → eqD d e = true → d = e
  | .non, e, _, _, h => by cases e <;> simp_all [eqD]
  | .bl _, _, h, _, _ => by simp [Dt.plain] at h
  | .int i, e, _, he, h => by cases e <;> simp_all [eqD, Dt.plain]
  | .str z, e, _, _, h => by cases e <;> simp_all [eqD]
  | .tup l, e, hd, he, h => by
    cases e with
    | tup m => rw [eqDs_eq l m (by simpa [Dt.plain] using hd) (by simpa [Dt.plain] using he) (by simpa [eqD] using h)]
    | _ => simp [eqD] at h
theorem eqDs_eq : ∀ l m : List Dt, plainS l = true → plainS m = true → eqDs l m = true → l = m
  | [], [], _, _, _ => rfl
  | [], _ :: _, _, _, h => by simp [eqDs] at h
  | _ :: _, [], _, _, h => by simp [eqDs] at h
  | d :: l, e :: m, hl, hm, h => by
    simp only [plainS, Bool.and_eq_true] at hl hm
    simp only [eqDs, Bool.and_eq_true] at h
    rw [eqD_eq d e hl.1 hm.1 h.1, eqDs_eq l m hl.2 hm.2 h.2]
end
section
variable {K : PySem.W.Frag} {H H' : Hp}
mutual
theorem IsD.same (g : Same H H') : ∀ {d : Dt} {v : V}, IsD K H d v → IsD K H' d v
  | _, _, .non => .non
  | _, _, .bl => .bl
  | _, _, .int => .int
  | _, _, .str => .str
  | _, _, .tup h r => .tup (g.tup h) (IsDs.same g r)
theorem IsDs.same (g : Same H H') : ∀ {l : List Dt} {xs : List V}, IsDs K H l xs → IsDs K H' l xs
  | _, _, .nil => .nil
  | _, _, .cons h r => .cons (IsD.same g h) (IsDs.same g r)
end
theorem sqT_ne {a r : Addr} {xs ys : List V} (hr : H r = some (.lst ys)) (h : SqT K H a xs) : a ≠ r ∨ ∀ H'', SqT K H'' a xs := by
  rcases h with (h | ⟨o, h⟩) | h
  · exact .inl (ne_of h hr (by intro z; cases z))
  · exact .inl (ne_of h hr (by intro z; cases z))
  · exact .inr fun _ => .inr h
mutual
theorem IsD.but {r : Addr} {ys : List V} (hr : H r = some (.lst ys)) (g : But r H H') : ∀ {d : Dt} {v : V}, IsD K H d v → IsD K H' d v
  | _, _, .non => .non
  | _, _, .bl => .bl
  | _, _, .int => .int
  | _, _, .str => .str
  | _, _, .tup h q => .tup (by
      rcases sqT_ne hr h with n | n
      · exact g.tup n h
      · exact n _) (IsDs.but hr g q)
theorem IsDs.but {r : Addr} {ys : List V} (hr : H r = some (.lst ys)) (g : But r H H') : ∀ {l : List Dt} {xs : List V}, IsDs K H l xs → IsDs K H' l xs
  | _, _, .nil => .nil
  | _, _, .cons h q => .cons (IsD.but hr g h) (IsDs.but hr g q)
end
theorem IsDs.length {l : List Dt} {xs : List V} (h : IsDs K H l xs) : l.length = xs.length := by
  induction l generalizing xs with
  | nil => cases h; rfl
  | cons d l ih => cases h with | cons _ r => simp [ih r]
theorem IsDs.get {l : List Dt} {xs : List V} (h : IsDs K H l xs) {i : Nat} {d : Dt} (e : l[i]? = some d) : ∃ x, xs[i]? = some x ∧ IsD K H d x := by
  induction l generalizing xs i with
  | nil => simp at e
  | cons c l ih =>
    cases h with
    | cons h r =>
      cases i with
      | zero => simp at e; subst e; exact ⟨_, rfl, h⟩
      | succ i => exact ih r (by simpa using e)
theorem IsDs.get' {l : List Dt} {xs : List V} (h : IsDs K H l xs) {i : Nat} {x : V} (e : xs[i]? = some x) : ∃ d, l[i]? = some d ∧ IsD K H d x := by
  induction l generalizing xs i with
  | nil => cases h; simp at e
  | cons c l ih =>
    cases h with
    | cons h r =>
      cases i with
      | zero => simp at e; subst e; exact ⟨_, rfl, h⟩
      | succ i => exact ih r (by simpa using e)
theorem IsDs.append {l m : List Dt} {xs ys : List V} (h : IsDs K H l xs) (h' : IsDs K H m ys) : IsDs K H (l ++ m) (xs ++ ys) := by
  induction l generalizing xs with
  | nil => cases h; exact h'
  | cons d l ih => cases h with | cons h r => exact .cons h (ih r)
end
section
variable {X : Cx} {pins : List (Addr × Obj)} {σ : St} {H : Hp} {s : Shared}
mutual
theorem IsD.inj (I : Inv X pins σ H s) : ∀ {d e : Dt} {v : V}, IsD X.K H d v → IsD X.K H e v → d = e
  | _, _, _, .non, .non => rfl
  | _, _, _, .bl, .bl => rfl
  | _, _, _, .int, .int => rfl
  | _, _, _, .str, .str => rfl
  | _, _, _, .tup h r, .tup h' r' => by
    have e := I.tuple_inj h h'
    subst e
    rw [IsDs.inj I r r']
theorem IsDs.inj (I : Inv X pins σ H s) : ∀ {l m : List Dt} {xs : List V}, IsDs X.K H l xs → IsDs X.K H m xs → l = m
  | _, _, _, .nil, .nil => rfl
  | _, _, _, .cons h r, .cons h' r' => by rw [IsD.inj I h h', IsDs.inj I r r']
end
theorem eqDs_range : ∀ (l m : List Dt), eqDs l m = ((List.range (min l.length m.length)).all (fun j => eqD (l.getD j .non) (m.getD j .non)) && l.length == m.length)
  | [], [] => rfl
  | [], _ :: _ => by simp [eqDs]
  | _ :: _, [] => by simp [eqDs]
  | d :: l, e :: m => by
    simp only [eqDs, List.length_cons]
    rw [eqDs_range l m, Nat.succ_min_succ, List.range_succ_eq_map, List.all_cons, List.all_map]
    have e1 : (l.length + 1 == m.length + 1) = (l.length == m.length) := by
      rw [Bool.eq_iff_iff]; simp
    rw [e1, Bool.and_assoc]
    rfl
theorem depS_get : ∀ {l : List Dt} {j : Nat}, j < l.length → (l.getD j .non).dep ≤ depS l
  | [], _, h => by simp at h
  | d :: l, 0, _ => by simp only [List.getD_cons_zero, depS]; omega
  | d :: l, j + 1, h => by
    have q := @depS_get l j (by simpa using h)
    simp only [List.getD_cons_succ, depS]; omega
theorem Inv.tup' (I : Inv X pins σ H s) {a : Addr} {xs : List V} (h : SqT X.K H a xs) : ∃ its : List Value, Vals xs its ∧ s.heap.IsTuple a its.toArray := by
  obtain ⟨its, r, p, _⟩ := I.tuple h
  exact ⟨its, r, p⟩
theorem in1_units (A : Around) : A.in1.units = A.units + 1 := by
  first | rfl | simp [Around.in1]
theorem eq_D (I : Inv X pins σ H s) : ∀ (n : Nat) (d e : Dt) (x y : V) (u v : Value) (A : Around), d.dep ≤ n → IsD X.K H d x → IsD X.K H e y → RelV x u → RelV y v → A.units + n < cLine →
    SeqAt.EqAt A s u v (eqD d e) ∧ SeqAt.RcAt A s u v (eqD d e) ∧ SeqAt.RcNeAt A s u v (!eqD d e) := by
  intro n
  induction n with
  | zero =>
    intro d e x y u v A hd hx hy rx ry hu
    have hu0 : A.units < cLine := by omega
    cases hx with
    | tup h r => simp [Dt.dep] at hd
    | non =>
      cases rx
      cases hy with
      | non => cases ry; exact ⟨.same _, .none_none, .none_none⟩
      | bl => cases ry; exact ⟨.none_bool _, .none_bool _, .none_bool _⟩
      | int => obtain ⟨t, rfl⟩ := ry; exact ⟨.none_int _ _, .none_int _ _, .none_int _ _⟩
      | str => obtain ⟨t, rfl⟩ := ry; exact ⟨.none_str _ _, .none_str _ _, .none_str _ _⟩
      | tup h r => cases ry; obtain ⟨its, _, p⟩ := I.tup' h; exact ⟨.none_tuple p hu0, .none_tuple p hu0, .none_tuple p hu0⟩
    | bl =>
      cases rx
      cases hy with
      | non => cases ry; exact ⟨.bool_none _, .bool_none _, .bool_none _⟩
      | bl => cases ry; exact ⟨.bool_bool _ _, .bool_bool _ _, .bool_bool _ _⟩
      | int => obtain ⟨t, rfl⟩ := ry; exact ⟨.bool_int _ _ _, .bool_int _ _ _, .bool_int _ _ _⟩
      | str => obtain ⟨t, rfl⟩ := ry; exact ⟨.bool_str _ _ _, .bool_str _ _ _, .bool_str _ _ _⟩
      | tup h r => cases ry; obtain ⟨its, _, p⟩ := I.tup' h; exact ⟨.bool_tuple _ p hu0, .bool_tuple _ p hu0, .bool_tuple _ p hu0⟩
    | int =>
      obtain ⟨t0, rfl⟩ := rx
      cases hy with
      | non => cases ry; exact ⟨.int_none _ _, .int_none _ _, .int_none _ _⟩
      | bl => cases ry; exact ⟨.int_bool _ _ _, .int_bool _ _ _, .int_bool _ _ _⟩
      | int => obtain ⟨t, rfl⟩ := ry; exact ⟨.int_int _ _ _ _, .int_int _ _ _ _, .int_int _ _ _ _⟩
      | str => obtain ⟨t, rfl⟩ := ry; exact ⟨.int_str _ _ _ _, .int_str _ _ _ _, .int_str _ _ _ _⟩
      | tup h r => cases ry; obtain ⟨its, _, p⟩ := I.tup' h; exact ⟨.int_tuple _ _ p hu0, .int_tuple _ _ p hu0, .int_tuple _ _ p hu0⟩
    | str =>
      obtain ⟨t0, rfl⟩ := rx
      cases hy with
      | non => cases ry; exact ⟨.str_none _ _, .str_none _ _, .str_none _ _⟩
      | bl => cases ry; exact ⟨.str_bool _ _ _, .str_bool _ _ _, .str_bool _ _ _⟩
      | int => obtain ⟨t, rfl⟩ := ry; exact ⟨.str_int _ _ _ _, .str_int _ _ _ _, .str_int _ _ _ _⟩
      | str => obtain ⟨t, rfl⟩ := ry; exact ⟨.str_str _ _ _ _, .str_str _ _ _ _, .str_str _ _ _ _⟩
      | tup h r => cases ry; obtain ⟨its, _, p⟩ := I.tup' h; exact ⟨.str_tuple _ _ p hu0, .str_tuple _ _ p hu0, .str_tuple _ _ p hu0⟩
  | succ n ih =>
    intro d e x y u v A hd hx hy rx ry hu
    have hu0 : A.units < cLine := by omega
    cases hx with
    | tup h r =>
      rename_i l a xs
      cases rx
      cases hy with
      | non => cases ry; obtain ⟨its, _, p⟩ := I.tup' h; exact ⟨.tuple_none p hu0, .tuple_none p hu0, .tuple_none p hu0⟩
      | bl => cases ry; obtain ⟨its, _, p⟩ := I.tup' h; exact ⟨.tuple_bool _ p hu0, .tuple_bool _ p hu0, .tuple_bool _ p hu0⟩
      | int => obtain ⟨t, rfl⟩ := ry; obtain ⟨its, _, p⟩ := I.tup' h; exact ⟨.tuple_int _ _ p hu0, .tuple_int _ _ p hu0, .tuple_int _ _ p hu0⟩
      | str => obtain ⟨t, rfl⟩ := ry; obtain ⟨its, _, p⟩ := I.tup' h; exact ⟨.tuple_str _ _ p hu0, .tuple_str _ _ p hu0, .tuple_str _ _ p hu0⟩
      | tup h' r' =>
        rename_i m b ys
        cases ry
        obtain ⟨its, q, p⟩ := I.tup' h
        obtain ⟨its', q', p'⟩ := I.tup' h'
        have l1 : its.length = l.length := by rw [← q.length, ← r.length]
        have l2 : its'.length = m.length := by rw [← q'.length, ← r'.length]
        have he : ∀ j (h1 : j < its.toArray.size) (h2 : j < its'.toArray.size), SeqAt.EqAt A.in1 s its.toArray[j] its'.toArray[j] (eqD (l.getD j .non) (m.getD j .non)) := by
          intro j h1 h2
          have j1 : j < l.length := by simpa [l1] using h1
          have j2 : j < m.length := by simpa [l2] using h2
          obtain ⟨x1, ex, dx⟩ := r.get (i := j) (d := l.getD j .non) (by simp [List.getD_eq_getElem?_getD, j1])
          obtain ⟨y1, ey, dy⟩ := r'.get (i := j) (d := m.getD j .non) (by simp [List.getD_eq_getElem?_getD, j2])
          obtain ⟨u1, eu, ru⟩ := q.get ex
          obtain ⟨v1, ev, rv⟩ := q'.get ey
          have e1 : its.toArray[j] = u1 := by
            have : its[j]? = some its[j] := by simp [l1, j1]
            rw [this] at eu
            simpa using Option.some.inj eu
          have e2 : its'.toArray[j] = v1 := by
            have : its'[j]? = some its'[j] := by simp [l2, j2]
            rw [this] at ev
            simpa using Option.some.inj ev
          rw [e1, e2]
          have hdl : depS l ≤ n := by simp only [Dt.dep] at hd; omega
          exact (ih _ _ _ _ _ _ A.in1 (Nat.le_trans (depS_get j1) hdl) dx dy ru rv (by rw [in1_units]; omega)).1
        have ev : eqD (.tup l) (.tup m) = ((List.range (min its.toArray.size its'.toArray.size)).all (fun j => eqD (l.getD j .non) (m.getD j .non)) && its.toArray.size == its'.toArray.size) := by
          simp only [eqD, List.size_toArray, l1, l2]
          exact eqDs_range l m
        rw [ev]
        refine ⟨?_, SeqAt.RcAt.tuples p p' hu0 he, SeqAt.RcNeAt.tuples p p' hu0 he⟩
        by_cases hab : a = b
        · subst hab
          have e3 := I.tuple_inj h h'
          subst e3
          have e4 := IsDs.inj I r r'
          subst e4
          rw [← ev, eqD_refl]
          exact .same _
        · exact .of_refs hab (SeqAt.RcAt.tuples p p' hu0 he)
    | non => exact ih _ _ _ _ _ _ A (by simp [Dt.dep]) .non hy rx ry (by omega)
    | bl => exact ih _ _ _ _ _ _ A (by simp [Dt.dep]) .bl hy rx ry (by omega)
    | int => exact ih _ _ _ _ _ _ A (by simp [Dt.dep]) .int hy rx ry (by omega)
    | str => exact ih _ _ _ _ _ _ A (by simp [Dt.dep]) .str hy rx ry (by omega)
/-- a == b, a != b of data -/
noncomputable def rEqD (K : PySem.W.Frag) : R2 := fun x y H Q => ∃ d e, IsD K H d x ∧ IsD K H e y ∧ d.dep ≤ 60 ∧ Q (.bl (eqD d e)) H
noncomputable def rNeD (K : PySem.W.Frag) : R2 := fun x y H Q => ∃ d e, IsD K H d x ∧ IsD K H e y ∧ d.dep ≤ 60 ∧ Q (.bl (!eqD d e)) H
theorem op_eqD (hu : X.A.units + 64 < cLine) : OpR X (compareOp .Eq) (rEqD X.K) := by
  intro pins s σ H x y v u Q I rx ry h
  obtain ⟨d, e, hd, he, hn, q⟩ := h
  exact (eq_D I 60 d e x y v u X.A hn hd he rx ry (by omega)).2.1 _ _ _ _ ⟨.bl _, H, I, rfl, q⟩
theorem op_neD (hu : X.A.units + 64 < cLine) : OpR X (compareOp .NotEq) (rNeD X.K) := by
  intro pins s σ H x y v u Q I rx ry h
  obtain ⟨d, e, hd, he, hn, q⟩ := h
  exact (eq_D I 60 d e x y v u X.A hn hd he rx ry (by omega)).2.2 _ _ _ _ ⟨.bl _, H, I, rfl, q⟩
end
end L2

set_option Elab.async false
set_option linter.all false
set_option maxRecDepth 100000
set_option maxHeartbeats 4000000
namespace PySem.W
open PySem PySem.Spec PyProof.Rows PySem.Calls
/-- what is read off the written part of a class of exceptions -/
structure ExcK (K : Frag) (C : Addr) : Prop where
  ga : findIn K (.ref C) "__getattribute__" = some (some (.builtin "BaseException.__getattribute__"))
  gt : findIn K (.ref C) "__getattr__" = some none
  cl : findIn K (.ref C) "__class__" = some (some (.builtin "object.__class__"))
  sb : mroIn K C (.type "BaseException") = some true
  so : mroIn K C (.type "object") = some true
  cd : ∃ c, clsIn K C = some c
section
variable {prog : Program} {w : World} {A : Around} {E : Value → Shared → Prop} {h : Heap} {g : Array GenState} {d : Drawn} {t : Nat} {os : OsState} {a C : Addr} {o : Obj} {K : Frag}
theorem xlk {M : Model} {n : Str} {y : Option Value} {Q : Option Value → Shared → Prop} (X : K.In h) (e : findIn K (.ref C) n = some y) (hq : Q y ⟨h, g, d, t, os⟩) : wpAny M A (typeLookup (.ref C) n) Q E ⟨h, g, d, t, os⟩ :=
  (looks_findIn X e).at hq
theorem xsub {M : Model} {T : Value} {y : Bool} {Q : Bool → Shared → Prop} (X : K.In h) (e : mroIn K C T = some y) (hq : Q y ⟨h, g, d, t, os⟩) : wpAny M A (isSubtype (.ref C) T) Q E ⟨h, g, d, t, os⟩ :=
  (looks_mroIn X e).at hq
theorem xclass_get {R : Result → Shared → Prop} (X : K.In h) (G : ExcK K C) (hx : h.get? a = some o) (hc : o.cls = .ref C) (hq : R (.ok (.ret (.ref C))) ⟨h, g, d, t, os⟩) :
    codeAny (model prog w) A (.call (.builtin "getset_descriptor.__get__") ⟨[.builtin "object.__class__", .ref a, .ref C], []⟩) R ⟨h, g, d, t, os⟩ := by
  have hT5 : (⟨h, g, d, t, os⟩ : Shared).TypeIs (.builtin "object.__class__") "getset_descriptor" := F.typeOf_object_class
  have hso : mroIn K C (.type (".".intercalate ("object.__class__".cutAt '.').dropLast)) = some true := by rw [F.owner_object_class]; exact G.so
  refine codeAny_call_builtin F.slot_gs_get.plain F.entry_gs_get (F.slot_gs_get.check _ _ _ _ _ _ _ _ hT5 (F.args_gs_get _ _ _) ?_)
  repeat (any_goals (first | assumption | (with_reducible refine wpAny_loadPart_at hx ?_; rw [hc]) | (with_reducible refine xsub X hso ?_) | wp_step))
  refine ⟨Code.quiet_builtin _ (by decide +kernel), codeAny_builtin F.entry_object_class ?_⟩
  repeat (any_goals (first | assumption | (with_reducible refine wpAny_loadPart_at hx ?_; rw [hc]) | wp_step))
theorem xclass_entry {tk : Tok} {Q : Fin → Shared → Prop} (X : K.In h) (G : ExcK K C) (hx : h.get? a = some o) (hc : o.cls = .ref C) (hq : Q (.done (.ret (.ref C))) ⟨h, g, d, t, os⟩) :
    wpAny (model prog w) A (Builtin.«object.__getattribute__» ⟨[.ref a, .str "__class__" tk], []⟩) Q E ⟨h, g, d, t, os⟩ := by
  have hT5 : (⟨h, g, d, t, os⟩ : Shared).TypeIs (.builtin "object.__class__") "getset_descriptor" := F.typeOf_object_class
  have f5 := F.typeOf_object_class
  have f6 := F.slot_gs_get.lookup
  have f7 := F.slot_gs_set.lookup
  repeat (any_goals (first | assumption | (with_reducible refine wpAny_loadPart_at hx ?_; rw [hc]) | with_reducible refine xlk X G.cl ?_ | wp_step))
  refine xclass_get X G hx hc ?_
  repeat (any_goals (first | assumption | wp_step))
theorem xcheck_ga {M : Model} {nameV : Value} {Q : Unit → Shared → Prop} (X : K.In h) (G : ExcK K C) (hx : h.get? a = some o) (hc : o.cls = .ref C) (hq : Q () ⟨h, g, d, t, os⟩) :
    wpAny M A (checkBuiltinCall "BaseException.__getattribute__" ⟨[.ref a, nameV], []⟩) Q E ⟨h, g, d, t, os⟩ := by
  have hk : builtinKind "BaseException.__getattribute__" = some .slot := by decide +kernel
  have hsplit : splitId "BaseException.__getattribute__" = some ("BaseException", "__getattribute__") := by decide +kernel
  have ha := F.args_bexc_ga (.ref a) nameV
  simp only [checkBuiltinCall, hk, hsplit]
  refine wpAny_bind ?_
  · unfold isInstance
    repeat (first | (with_reducible refine wpAny_loadPart_at hx ?_; rw [hc]) | (with_reducible refine xsub X G.sb ?_) | wp_step)
    exact hq
theorem xclass_call {tk : Tok} {R : Result → Shared → Prop} (X : K.In h) (G : ExcK K C) (hx : h.get? a = some o) (hc : o.cls = .ref C) (hq : R (.ok (.ret (.ref C))) ⟨h, g, d, t, os⟩) :
    codeAny (model prog w) A (.call (.builtin "BaseException.__getattribute__") ⟨[.ref a, .str "__class__" tk], []⟩) R ⟨h, g, d, t, os⟩ :=
  codeAny_call_builtin F.attr_ValueError.ga.plain F.entry_bexc_ga (xcheck_ga X G hx hc (xclass_entry X G hx hc hq))
theorem xclass_by {tk : Tok} {fill expr : Bool} {Q : Value → Shared → Prop} (X : K.In h) (G : ExcK K C) (hx : h.get? a = some o) (hc : o.cls = .ref C) (hq : Q (.ref C) ⟨h, g, d, t, os⟩) :
    wpAny (model prog w) A (getAttrBy (.ref a) (.str "__class__" tk) fill expr) Q E ⟨h, g, d, t, os⟩ := by
  have f3 := F.attr_ValueError.ga.bind (.ref a)
  have hx0 : (expr && onTheHeap (Value.builtin "BaseException.__getattribute__")) = false := by cases expr <;> rfl
  have hx2 : (Value.builtin "BaseException.__getattribute__" == Value.builtin "object.__getattribute__") = false := by decide +kernel
  have hx1 : (onTheHeap (Value.ref C) && Value.builtin "BaseException.__getattribute__" == Value.builtin "object.__getattribute__") = false := by rw [hx2]; rfl
  repeat (any_goals (first | assumption | (with_reducible refine wpAny_loadPart_at hx ?_; rw [hc]) | with_reducible refine xlk X G.ga ?_ | with_reducible refine xlk X G.gt ?_ | wp_step))
  refine xclass_call X G hx hc ?_
  repeat (any_goals (first | assumption | wp_step))
theorem xclass_attr {Q : Option Value → Shared → Prop} (X : K.In h) (G : ExcK K C) (hx : h.get? a = some o) (hc : o.cls = .ref C) (hq : Q (some (.ref C)) ⟨h, g, d, t + 1, os⟩) :
    wpAny (model prog w) A (getAttr? (.ref a) "__class__") Q E ⟨h, g, d, t, os⟩ := by
  unfold getAttr? getAttrBy?
  repeat (any_goals (first | assumption | with_reducible apply xclass_by X G hx hc | wp_step))
/-- an exception of an own class, for isinstance -/
theorem kitx_exc (G : ExcK K C) : KitX K (.ref a) (.ref C) (fun h => ∃ o, h.get? a = some o ∧ o.cls = .ref C) where
  ty := fun M h _ ⟨o, e, c⟩ => by
    have L : Looks M h (typeOf (.ref a)) o.cls := (Looks.ld e).andThen .now
    rw [c] at L
    exact L
  it := fun _ _ X _ => by
    obtain ⟨cdD, hcD⟩ := G.cd
    unfold clsIn at hcD
    split at hcD
    · rename_i c' d' cd' sl' ho
      intro A' Q' E' s' k q
      unfold isType loadHead
      exact wpAny_bind (wpAny_loadPart (k _ _ (X _ _ ho)) (wpAny_pure q))
    · cases hcD
  ne := fun h tp dd its n sl X htp => by
    obtain ⟨cdD, hcD⟩ := G.cd
    refine Bool.eq_false_iff.mpr fun q => ?_
    have e : C = tp := Value.ref.inj (beq_iff_eq.mp q)
    subst e
    unfold clsIn at hcD
    split at hcD
    · rename_i c' d' cd' sl' ho
      have z := X _ _ ho
      rw [htp] at z
      cases z
    · cases hcD
  ca := fun {_ _ _ _ _ s} X ⟨o, e, c⟩ q => by
    obtain ⟨h, g, d, t, os⟩ := s
    exact xclass_attr X G e c q
end
end PySem.W

set_option Elab.async false
set_option linter.all false
set_option maxRecDepth 100000
set_option maxHeartbeats 4000000
namespace L2
open PySem PySem.Spec PyProof.Rows
/-! ### exceptions of own classes -/
/-- an exception of the class at C, as a value -/
noncomputable def xO (a C : Addr) : HO := .ext fun h => ∃ o, h.get? a = some o ∧ o.cls = .ref C
theorem xO_ok {P : Program} {w : World} {H : Hp} {h : Heap} {a C : Addr} (e : ∃ o, h.get? a = some o ∧ o.cls = .ref C) : ObjOk P w H h a (xO a C) :=
  ⟨e, e.imp fun _ q => q.1, fun _ _ ⟨o, q, c⟩ k => ⟨o, k o q, c⟩⟩
theorem Inv.exc {X : Cx} {pins : List (Addr × Obj)} {σ : St} {H : Hp} {s : Shared} {a C : Addr} (I : Inv X pins σ H s) (e : H a = some (xO a C)) : ∃ o, s.heap.get? a = some o ∧ o.cls = .ref C :=
  (show ObjOk X.prog X.w H s.heap a (xO a C) from I.hok a _ e).1
noncomputable abbrev bmV : List Value := [.type "ValueError", .type "Exception", .type "BaseException", .type "object"]
/-- a class of exceptions under ValueError, as the top has written it -/
structure ExC (K : PySem.W.Frag) (mg : Str → Option Value) (x : Str) (C : Addr) : Prop where
  m : mg x = some (.ref C)
  q : PySem.W.excIn K C bmV "ValueError.__new__" = true
  k : PySem.W.ExcK K C
  kp : PySem.W.keepIn K (.ref C) = true
theorem exc_obj {K : PySem.W.Frag} {h : Heap} {C : Addr} {bmB : List Value} {newId : String} (X : K.In h) (q : PySem.W.excIn K C bmB newId = true) :
    ∃ bm N nm qn bs hd sn sub ab col dd k0 k1 k2 k3 k5 mN, h.get? C = some (excClassObj nm qn C N bs bm hd sn sub ab col dd k0 k1 k2 k3 k5 newId) ∧ h.Ns N mN ∧ mN "__init__" = none ∧ OwnTail h bmB bm := by
  unfold PySem.W.excIn at q
  split at q
  case h_2 => cases q
  case h_1 dd cd sl ho =>
    split at q
    case h_2 => cases q
    case h_1 C' bm k0 k1 k2 k3 n k5 hm hs =>
      simp only [Bool.and_eq_true, beq_iff_eq, Bool.not_eq_true'] at q
      obtain ⟨⟨⟨⟨⟨q1, q2⟩, q3⟩, q4⟩, q5⟩, q6⟩ := q
      subst q1 q2
      obtain ⟨nm, bs, mro, ns, qn, hd, sn, sub, ab, col, del⟩ := cd
      dsimp only at hm q3 q5 q6
      subst hm q3
      obtain ⟨l⟩ := sl
      dsimp only at hs
      subst hs
      exact ⟨bm, ns, nm, qn, bs, hd, sn, sub, ab, col, dd, k0, k1, k2, k3, k5, _, X _ _ ho, .of_isNs (PySem.W.isNs_of_in X q5), PySem.W.nsMap_none_of_in X q5 q6, PySem.W.tail_of_in X q4⟩
section
variable {X : Cx} {pins : List (Addr × Obj)} {σ : St} {H : Hp} {s : Shared}
/-! ### isinstance of an exception -/
theorem call_isx : CallR X (.builtin "isinstance") (fun xs H Q => ∃ a C D b, xs = [.ref a, .ref D] ∧ H a = some (xO a C) ∧ PySem.W.ExcK X.K C ∧ PySem.W.kitOne X.K (.ref C) (.ref D) = some b ∧ Q (.bl b) H) := by
  intro pins s σ H xs us Q I r h
  obtain ⟨a, C, D, b, rfl, ha, G, hk, q⟩ := h
  obtain ⟨u, w', rfl, rx, rD⟩ := vals2 r
  cases rx
  cases rD
  exact PySem.W.kia_one (PySem.W.kitx_exc G) I.kIn (I.exc ha) hk (fun z => nomatch z) fun tk => ⟨.bl b, H, I.tok tk, rfl, q⟩
theorem call_isxT : CallR X (.builtin "isinstance") (fun xs H Q => ∃ a C T b, xs = [.ref a, .ty T] ∧ H a = some (xO a C) ∧ PySem.W.ExcK X.K C ∧ PySem.W.kitOne X.K (.ref C) (.type T) = some b ∧ Q (.bl b) H) := by
  intro pins s σ H xs us Q I r h
  obtain ⟨a, C, T, b, rfl, ha, G, hk, q⟩ := h
  obtain ⟨u, w', rfl, rx, rD⟩ := vals2 r
  cases rx
  cases rD
  exact PySem.W.kia_one (PySem.W.kitx_exc G) I.kIn (I.exc ha) hk (fun z => nomatch z) fun tk => ⟨.bl b, H, I.tok tk, rfl, q⟩
/-! ### C(e): an exception made -/
end
end L2

set_option Elab.async false
set_option linter.all false
set_option maxRecDepth 100000
set_option maxHeartbeats 4000000
namespace L2
open PySem PySem.Spec PyProof.Rows
/-! ### an exception that leaves a def -/
/-- it flies: its class, what stays (B), the abstract heap behind it -/
noncomputable def CXE (P : Program) (w : World) : CXT := fun outer H s E e s' => ∃ (ea C : Addr) (a0 : Value) (B : Heap) (H' : Hp), e = .ref ea ∧ Heap.FlyingW B outer ea (.ref C) a0 s'.heap ∧ s'.os = s.os ∧ AllBare s'.gens ∧ Un (frs outer) [] H H' s.heap s'.heap ∧ HOk P w H' B ∧
  (∀ b o, s.heap.get? b = some o → H b = none → b ∉ frs outer → B.get? b = some o) ∧ (∀ b o, s.heap.get? b = some o → b ∉ frs outer → ∃ o', B.get? b = some o') ∧ E (.ref C) none H'
theorem un_fly {fs : List Addr} {H H1 : Hp} {h h1 h' B : Heap} (u : Un fs [] H H1 h h1) (c1 : ∀ b o, h.get? b = some o → H b = none → b ∉ fs → B.get? b = some o) (c2 : ∀ b o, h.get? b = some o → b ∉ fs → ∃ o', B.get? b = some o')
    (st : B.StaysIn h') (c3 : ∀ b o, h.get? b = some o → b ∈ fs → ∃ sl, h'.get? b = some { o with slots := sl }) : Un fs [] H H1 h h' where
  keep := fun b o q n hb _ => st b o (c1 b o q n hb)
  slot := fun b o q n hb _ => c3 b o q hb
  free := u.free
  there := fun b o q hx => by
    by_cases hb : b ∈ fs
    · obtain ⟨sl, e⟩ := c3 b o q hb
      exact ⟨_, e⟩
    · obtain ⟨o', e⟩ := c2 b o q hb
      exact ⟨o', st b o' e⟩
  tups := u.tups
  frzs := u.frzs
  tbls := u.tbls
/-- the wish of a def's body about exceptions, as cxOf has it -/
noncomputable def XeOf (X : Cx) (E : XK) : Prop := X.xe = fun e s' => wpAny (model X.prog X.w) X.A (leaving X.env e) (fun _ s'' => CXE X.prog X.w X.outer X.H₀ X.s₀ E e s'') (fun e' s'' => CXE X.prog X.w X.outer X.H₀ X.s₀ E e' s'') s'
section
variable {X : Cx} {pins : List (Addr × Obj)} {σ : St} {H : Hp} {s : Shared}
theorem nofields {base h : Heap} {l : List Env} {b : Addr} (f : h.FunFrames base l) (hb : b ∈ frs l) : ∃ o, h.get? b = some o ∧ ∀ vs, o.data ≠ .fields vs := by
  obtain ⟨_, o, ho, hn⟩ := f.mem hb
  exact ⟨o, ho, hn⟩
/-- raised here, it leaves the def -/
theorem fly_made {E : XK} {C : Addr} {ea : Addr} {vs : List Value} {h' : Heap} {tk : Nat} (hx : XeOf X E) (hstk : X.stack = X.env :: X.outer) (hfr : X.env.frame = some X.env.locals) (hex : X.ex = []) (I : Inv X pins σ H s) (hm : Heap.MadeExcOf s.heap h' ea (.ref C) vs)
    (q : E (.ref C) none H) : X.xe (.ref ea) { s with heap := h', toks := tk } := by
  rw [hx]
  have F0 : s.heap.FunFrames X.base (X.env :: X.outer) := by rw [← hstk]; exact I.stack
  have fr0 : X.A.frames = some (X.env :: X.outer) := by rw [← hstk]; exact I.ok.frames
  have mem : ∀ b ∈ frs X.outer, b ∈ frs (X.env :: X.outer) := fun b hb => by
    obtain ⟨env, he, hf⟩ := List.mem_filterMap.mp hb
    exact List.mem_filterMap.mpr ⟨env, List.mem_cons_of_mem _ he, hf⟩
  have inv : ∀ b, b ∈ frs (X.env :: X.outer) → b = X.env.locals ∨ b ∈ frs X.outer := fun b hb => by
    obtain ⟨env, he, hf⟩ := List.mem_filterMap.mp hb
    rcases List.mem_cons.mp he with rfl | he
    · rw [hfr] at hf; exact .inl (Option.some.inj hf).symm
    · exact .inr (List.mem_filterMap.mpr ⟨env, he, hf⟩)
  have hin : ∀ env ∈ (X.env :: X.outer), ∀ b, env.frame = some b → b ∈ frs (X.env :: X.outer) := fun env he b hb => List.mem_filterMap.mpr ⟨env, he, hb⟩
  have stayB : ∀ b o, s.heap.get? b = some o → b ∉ frs (X.env :: X.outer) → (PySem.W.hideAll s.heap (frs (X.env :: X.outer))).get? b = some o := fun b o e n => PySem.W.hideAll_get _ e n
  have old : ∀ b o, X.s₀.heap.get? b = some o → b ∉ frs X.outer → b ∉ frs (X.env :: X.outer) := fun b o e n z => by
    rcases inv b z with rfl | z
    · exact absurd (Nat.lt_of_lt_of_le (Heap.lt_size e) I.ok.above) (Nat.lt_irrefl _)
    · exact n z
  refine wpAny_leaves_madeW (s := { s with heap := h', toks := tk }) fr0 hfr (fun b o e => PySem.W.of_hideAll _ e) (PySem.W.funFrames_hide F0 hin) hm fun h2 t fl _ _ up => ?_
  have B0 : Un X.fs [] X.H₀ H X.s₀.heap s.heap := by have z := I.base; rw [hex] at z; exact z
  have c1 : ∀ b o, X.s₀.heap.get? b = some o → X.H₀ b = none → b ∉ frs X.outer → (PySem.W.hideAll s.heap (frs (X.env :: X.outer))).get? b = some o := fun b o e n hb => stayB b o (B0.keep b o e n hb (by simp)) (old b o e hb)
  have c2 : ∀ b o, X.s₀.heap.get? b = some o → b ∉ frs X.outer → ∃ o', (PySem.W.hideAll s.heap (frs (X.env :: X.outer))).get? b = some o' := fun b o e hb => by
    obtain ⟨o', e'⟩ := B0.there b o e (by simp)
    exact ⟨o', stayB b o' e' (old b o e hb)⟩
  refine ⟨ea, C, _, _, H, rfl, fl, I.os, I.bare, un_fly B0 c1 c2 fl.1 fun b o e hb => ?_, fun b u e => ?_, c1, c2, q⟩
  · obtain ⟨sl, e1⟩ := B0.slot b o e (I.ok.frf b hb) hb (by simp)
    obtain ⟨o2, e2, nf⟩ := nofields F0 (mem b hb)
    rw [e1] at e2
    obtain rfl := Option.some.inj e2
    obtain ⟨sl2, e3⟩ := up b _ (hm.keeps b _ e1) nf
    exact ⟨sl2, e3⟩
  · refine (I.hok b u e).stay (fun c v hc z => stayB c v z fun hf => ?_) (fun _ z => z) fun _ _ z => z
    have n0 : H c = none := by rw [← hstk] at hf; exact I.stkFree c hf
    rcases hc with rfl | hc
    · rw [e] at n0; cases n0
    · rw [hc] at n0; cases n0
/-- raise C(e) -/
noncomputable def tRaise (C : Addr) (E : XK) (t : TA) : TS := fun _ σ H => t σ H fun xs H1 => xs.length ≤ sizeLine ∧ E (.ref C) none H1
theorem ps_raise {E : XK} {x : Str} {C : Addr} {e : Expr} {es : List Expr} {t : TA} {np cpos pos : Pos} (hx : XeOf X E) (hstk : X.stack = X.env :: X.outer) (hfr : X.env.frame = some X.env.locals) (hex : X.ex = []) (hc : X.calm = true) (G : ExC X.K X.mg x C) (hg : Gl X x) (ha : PA X (e :: es) t)
    (hdb : (x == ("__debug__" : Str)) = false := by decide) (he : starEach (e :: es) X.env = (false, eval e X.env) :: starEach es X.env := by rfl) (hpl : (backTo cpos (starEach es X.env)).any (·.1) = false := by rfl) :
    PS X (.Raise (some (.Call (.Name x np) (e :: es) [] cpos)) none pos) (tRaise C E t) := by
  intro pins s σ H D I h
  obtain ⟨bm, N, nm, qn, bs, hd, sn, sub, ab, col, dd, k0, k1, k2, k3, k5, mN, hC, hN, hni, T⟩ := exc_obj I.ok.mod.kin G.q
  refine wpAny_Raise_call_subT (C := C) (nm := nm) (q := qn) (N := N) (bs := bs) (bm := bm) (hdct := hd) (sn := sn) (sub := sub) (ab := ab) (col := col) (dd := dd) (k0 := k0) (k1 := k1) (k2 := k2) (k3 := k3) (k5 := k5) F.excBase_ValueError (mN := mN) (T.hasType F.excBase_ValueError.hasBase) (I.ok.hd hc)
    (by rw [he]; show (false || (backTo cpos (starEach es X.env)).any (·.1)) = false; rw [hpl]; rfl) hni (ld_glob I hg G.m ⟨rfl, ?_⟩ hdb)
  have z := ha cpos pins s σ H _ I h
  rw [he] at z ⊢
  refine Calls.evalArgs_plain (wpAny_mono z (fun us s2 ⟨vs, H2, I2, r, hz, q⟩ => ?_) fun _ _ y => y)
  refine ⟨rfl, by show us.length ≤ sizeLine; rw [← r.length]; exact hz, I2.bk _ _ hC, hN.keeps I2.bk, T.keeps I2.bk, fun h' ea hm => ?_⟩
  exact fly_made (tk := s2.toks) hx hstk hfr hex I2 hm q
end
/-- THE RULE for a def that may raise -/
theorem Fun.okE {P : Program} {w : World} {K : PySem.W.Frag} {mg : Str → Option Value} {base : Heap} {x qual : Str} {st : Stmt} {f : Addr} {fd : FuncData} {N ps : List Str} {k : Nat} {sp : Sp} (F : Fun K x qual st f fd) (S : FnScope N ps (defScope st)) (len : ∀ vs H Q E, sp vs H Q E → vs.length = ps.length)
    (hbody : ∀ (cdv : Value) (A : Around) (outer : List Env) (s : Shared) (H : Hp) (vs : List V) (Q : VK) (E : XK), Room k (A.deeper (envOfC qual (defScope st) s.heap.objs.size f cdv)) → sp vs H Q E →
      ∃ t, PSs (cxOf (CXE P w) P w K mg base N qual (defScope st) f cdv A outer s H E) (defBody st) t ∧ t { nx := fun _ H' => Q .non H', rt := Q } (start N vs) H) : FnOk P w K mg base (CXE P w) (k + 1) f fd ps sp := by
  obtain ⟨oc, od, kV, doc, pm, an, cdv, ct, osl, rfl, lk, hcd⟩ := F.ex
  exact fn_of lk hcd S len fun A outer s H vs Q E hr hsp => hbody cdv A outer s H vs Q E hr hsp
theorem xeOf {P : Program} {w : World} {K : PySem.W.Frag} {mg : Str → Option Value} {base : Heap} {N : List Str} {qual : Str} {scope : Scope} {f : Addr} {cd : Value} {A : Around} {outer : List Env} {s : Shared} {H : Hp} {E : XK} :
    XeOf (cxOf (CXE P w) P w K mg base N qual scope f cd A outer s H E) E := rfl
end L2

set_option Elab.async false
set_option linter.all false
set_option maxRecDepth 100000
set_option maxHeartbeats 4000000
namespace L2
open PySem PySem.Spec PyProof.Rows
/-! ### try: e except C as n: suite -/
theorem hok_none {P : Program} {w : World} {H : Hp} {h : Heap} {a : Addr} (hok : HOk P w H h) (hp : h.get? a = none) : H a = none := by
  cases q : H a with
  | none => rfl
  | some u =>
    have w' := hok a u q
    exfalso
    cases u with
    | lst xs => obtain ⟨_, its, n, _, e⟩ := w'; rw [hp] at e; cases e
    | tup xs => obtain ⟨_, its, _, ob, e, _⟩ := w'; rw [hp] at e; cases e
    | dK kvs => obtain ⟨_, _, vs, _, ob, es, ep, e, _⟩ := w'; rw [hp] at e; cases e
    | dT kvs => obtain ⟨_, _, xs, _, ob, es, ep, e, _⟩ := w'; rw [hp] at e; cases e
    | set S n => obtain ⟨ob, es, ep, t, e, _⟩ := w'; rw [hp] at e; cases e
    | ins C dx fs => obtain ⟨_, _, _, e, _⟩ := w'; rw [hp] at e; cases e
    | own y => obtain ⟨ob, e⟩ := w'; rw [hp] at e; cases e
    | xd fs => obtain ⟨mA, ⟨od, es, ep, e, _⟩, _⟩ := w'; rw [hp] at e; cases e
    | rng lo hi => obtain ⟨t, u, v, e⟩ := w'; rw [hp] at e; cases e
    | frz ob u => obtain ⟨e, _⟩ := w'; rw [hp] at e; cases e
    | tbl ps => have e : h.get? a = some { cls := .none, data := .fields ps } := w'; rw [hp] at e; cases e
    | met f y => have e : h.get? a = some (PySem.W.methodObj (.ref f) (.ref y)) := w'; rw [hp] at e; cases e
    | ext φ => obtain ⟨_, ⟨o, e⟩, _⟩ := w'; rw [hp] at e; cases e
/-- within the suite of an except -/
noncomputable def hcx (X : Cx) (ea : Addr) : Cx := { X with A := X.A.mark (some (.ref ea)), calm := false, xe := fun _ _ => False }
section
variable {X : Cx} {pins : List (Addr × Obj)} {σ : St} {H : Hp} {s : Shared}
theorem Cx.Ok.hcx (ok : X.Ok) (ea : Addr) : (hcx X ea).Ok :=
  ⟨ok.mod, ok.kind, ok.glob, ok.blt, ok.above, ok.inj, ok.has, ok.cab, fun z => absurd z (by show ¬ (false = true); decide), ok.frames, ok.stk, ok.exf, ok.bs, ok.bsz, ok.noex, ok.exfs, ok.funs, ok.frf⟩
theorem Inv.hcx (I : Inv X pins σ H s) (ea : Addr) : Inv (hcx X ea) pins σ H s := ⟨I.ok.hcx ea, I.os, I.bare, I.base, I.loc, I.cell, I.free, I.freeC, I.pin, I.hok, I.len⟩
theorem Inv.unhcx {ea : Addr} (I : Inv (L2.hcx X ea) pins σ H s) (ok : X.Ok) : Inv X pins σ H s := ⟨ok, I.os, I.bare, I.base, I.loc, I.cell, I.free, I.freeC, I.pin, I.hok, I.len⟩
/-- a name goes -/
theorem Inv.goes {i : Nat} {n : Str} {pos : Pos} {M : Model} {A : Around} {E : Value → Shared → Prop} {Q : Unit → Shared → Prop} (I : Inv X pins σ H s) (hN : X.N.Nodup) (hi : X.N[i]? = some n) (hl : X.env.scope.names.lookup n = some .local)
    (h : ∀ s', Inv X pins (σ.set i none) H s' → Q () s') : wpAny M A (do bindName X.env n .none; unbindBehindTheSuite X.env n pos) Q E s := by
  obtain ⟨m, hn, hlk⟩ := id I.loc
  have hcls : (X.env.scope.kind == .class || (X.env.scope.kind == .module && X.env.locals != X.env.globals)) = false := by rw [I.ok.kind]; rfl
  have hiσ : i < σ.length := by rw [I.len]; exact (List.getElem?_eq_some_iff.mp hi).1
  have cne := I.cne
  refine wpAny_nameGoes_keeps hl hn hcls fun h' v hn' hs => ?_
  have neL : ∀ b o, X.s₀.heap.get? b = some o → b ≠ X.env.locals := fun b o e => Nat.ne_of_lt (Nat.lt_of_lt_of_le (Heap.lt_size e) I.ok.above)
  refine h _ ⟨I.ok, I.os, I.bare, ⟨fun b o e n hb hx => ?_, fun b o e n hb hx => ?_, I.base.free, fun b o e hx => ?_, I.base.tups, I.base.frzs, I.base.tbls⟩, ⟨_, hn', fun j y v' e1 e2 e3 => ?_⟩, fun y c e => ?_, I.free, I.freeC, fun p hp => ?_, fun b u e => ?_, by simpa using I.len⟩
  · exact (hs.2 b (neL b o e)).trans (I.base.keep b o e n hb hx)
  · obtain ⟨sl, e1⟩ := I.base.slot b o e n hb hx
    exact ⟨sl, (hs.2 b (neL b o e)).trans e1⟩
  · obtain ⟨o', e1⟩ := I.base.there b o e hx
    exact ⟨o', (hs.2 b (neL b o e)).trans e1⟩
  · by_cases hj : j = i
    · subst hj
      rw [List.getElem?_set_self hiσ] at e2
      cases e2
    · rw [List.getElem?_set_ne (Ne.symm hj)] at e2
      obtain ⟨u', r', q⟩ := hlk j y v' e1 e2 e3
      refine ⟨u', r', ?_⟩
      rcases q with ⟨k, e⟩ | ⟨k, c, e, z⟩
      · refine .inl ⟨k, ?_⟩
        have : y ≠ n := fun e => hj (nodup_ix hN e1 (e ▸ hi))
        simp [this, e]
      · exact .inr ⟨k, c, e, z.sameBut hs (cne y c e)⟩
  · obtain ⟨w', z⟩ := I.cell y c e
    exact ⟨w', z.sameBut hs (cne y c e)⟩
  · obtain ⟨e, n, ne, nf, d⟩ := I.pin p hp
    exact ⟨(hs.2 p.1 ne).trans e, n, ne, nf, d⟩
  · refine (I.hok b u e).stay (fun c w' hc q => (hs.2 c ?_).trans q) (fun _ q => q) fun _ _ q => q
    rintro rfl
    rcases hc with rfl | hc
    · rw [I.free] at e; cases e
    · rw [I.free] at hc; cases hc
/-- an expression that may raise -/
noncomputable abbrev TX := St → Hp → VK → XK → Prop
noncomputable def PX (X : Cx) (e : Expr) (t : TX) : Prop :=
  ∀ (pins : List (Addr × Obj)) (s : Shared) (σ : St) (H : Hp) (Q : VK) (E : XK), Inv X pins σ H s → t σ H Q E →
    wpAny (model X.prog X.w) X.A (eval e X.env) (EP X pins σ Q) (fun ex s' => ∃ H1 s1, Inv X pins σ H1 s1 ∧ CXE X.prog X.w X.stack H1 s1 E ex s') s
theorem px_call {k : Nat} {f : Addr} {fd : FuncData} {ps : List Str} {sp : Sp} {x : Str} {p pos : Pos} {e : Expr} {es : List Expr} {t : TA} (F : FnOk X.prog X.w X.K X.mg X.base (CXE X.prog X.w) k f fd ps sp) (hr : Room k X.A) (hg : Gl X x) (hm : X.mg x = some (.ref f))
    (hk : PySem.W.keepIn X.K (.ref f) = true) (hb : Binds X.K fd ps []) (ha : PA X.nox (e :: es) t) (hdb : (x == ("__debug__" : Str)) = false := by decide) (he : starEach (e :: es) X.env = (false, eval e X.env) :: starEach es X.env := by rfl)
    (hpl : (backTo pos (starEach es X.env)).any (·.1) = false := by rfl) : PX X (.Call (.Name x p) (e :: es) [] pos) (fun σ H Q E => t σ H fun vs H1 => sp vs H1 Q E) := by
  intro pins s σ H Q E I h
  refine wpAny_Call_Name_kw (ld_glob I hg hm ?_ hdb)
  refine PySem.W.callWith_K (h₀ := X.base) I.ok.mod.kin hk (wpAny_mono (ha pos pins s σ H _ (I.wish _) h) (fun us s1 ⟨vs, H1, I1', r, q⟩ => ?_) fun _ _ z => z.elim) he hpl
  have I1 : Inv X pins σ H1 s1 := Inv.unwish I1'
  refine ⟨I1.kIn, ?_⟩
  have hl : us.length = ps.length := by rw [← r.length]; exact F.len _ _ _ _ q
  have hb' : BindsTo s1 fd ⟨us, []⟩ (ps.zip us) := by
    have z := hb s1 us I1.kIn (by rw [List.append_nil]; exact hl)
    rwa [List.append_nil] at z
  refine wpAny_call (codeAny_mono (F.run X.A X.stack s1 H1 ⟨us, []⟩ us vs Q E hr I1.env0 hb' r q) fun rr s' hq => ?_)
  cases rr with
  | error ex => exact ⟨H1, s1, I1, hq⟩
  | ok fl =>
    cases fl with
    | ret u => exact I1.after hq
    | next => exact False.elim hq
    | brk => exact False.elim hq
    | cont => exact False.elim hq
/-- the reading of try -/
noncomputable def tTry (K : PySem.W.Frag) (HC : Addr) (i : Nat) (te : TX) (ts : TS) : TS := fun D σ H => te σ H (fun _ H1 => D.nx σ H1) fun cls _ H' => ∃ C, cls = .ref C ∧ PySem.W.exmOne K (.ref C) (.ref HC) = some true ∧
  ∀ ea, H' ea = none → ts { nx := fun σ' H'' => D.nx (σ'.set i none) H'', rt := D.rt, bk := fun σ' H'' => D.bk (σ'.set i none) H'', ct := fun σ' H'' => D.ct (σ'.set i none) H'' } (σ.set i (some (.ref ea))) (upd H' ea (xO ea C))
theorem ps_try1 {e : Expr} {x n : Str} {i : Nat} {b₀ : Stmt} {suite : List Stmt} {np p1 hpos pos : Pos} {te : TX} {HC : Addr} {ts : TS} (hstk : X.stack = X.env :: X.outer) (hfr : X.env.frame = some X.env.locals) (he : PX X e te) (hm : X.mg x = some (.ref HC)) (hg : Gl X x)
    (hN : X.N.Nodup) (hi : X.N[i]? = some n) (hlo : X.env.scope.names.lookup n = some .local) (hb : ∀ ea, PSs (hcx X ea) (b₀ :: suite) ts) (hs : swapsWith e none p1.line X.env = pure false := by rfl) (hdb : (x == ("__debug__" : Str)) = false := by decide) :
    PS X (.Try [.Expr e p1] [.ExceptHandler (some (.Name x np)) (some n) (b₀ :: suite) hpos] [] [] pos) (tTry X.K HC i te ts) := by
  intro pins s σ H D I h
  have fr0 : X.A.frames = some (X.env :: X.outer) := by rw [← hstk]; exact I.ok.frames
  refine wpAny_Try_except (wpAny_execs_cons (wpAny_Expr_any (wpAny_mono (he pins s σ H _ _ I h) (fun v s1 ⟨y, H1, I1, r1, q1⟩ => ?_) (fun ex s1 ⟨H1, s0, I0, fl0⟩ => ?_)) I.quiet hs))
  · exact wpAny_execs_nil (wpAny_execs_nil ⟨σ, H1, I1, q1⟩)
  obtain ⟨ea, C, a0, B, H', rfl, fl, os, bare, un, hok, c1, c2, C', e', hx, q⟩ := fl0
  cases e'
  have flS := fl
  rw [hstk] at fl
  refine wpAny_looks_onW fr0 hfr fl fun h4 held4 up4 => ?_
  refine wpAny_landsW held4 fun h5 held5 up5 => ?_
  have frames : ∀ {h2 : Heap}, s1.heap.UpToSlots h2 → ∀ b o, s0.heap.get? b = some o → b ∈ frs X.stack → ∃ sl, h2.get? b = some { o with slots := sl } := fun {h2} up b o e hb => by
    obtain ⟨sl, e1⟩ := un.slot b o e (I0.stkFree b hb) hb (by simp)
    obtain ⟨o2, e2, nf⟩ := nofields flS.2.2.1 hb
    rw [e1] at e2
    obtain rfl := Option.some.inj e2
    obtain ⟨sl2, e3⟩ := up b _ e1 nf
    exact ⟨sl2, e3⟩
  have I5 : Inv X pins σ H' { s1 with heap := h5 } := I0.call' (s' := { s1 with heap := h5 }) os (un_fly un c1 c2 held5.1 (frames (up4.trans up5))) (hok.kept held5.1) bare (ch := []) (fun _ z => nomatch z)
  have ea0 : H' ea = none := hok_none hok fl.2.1
  obtain ⟨ob, hob, hobc⟩ := held5.there
  have LT : PySem.W.Looks (model X.prog X.w) h5 (typeOf (.ref ea)) (.ref C) := by
    have L : PySem.W.Looks (model X.prog X.w) h5 (typeOf (.ref ea)) ob.cls := (PySem.W.Looks.ld hob).andThen .now
    rw [hobc] at L
    exact L
  refine wpAny_handleBy_cons (codeAny_handlers_test (ld_glob (X := hcx X ea) (I5.hcx ea) hg hm ?_ hdb)) (by intro z; cases z)
  refine (PySem.W.exm_one (h := h5) I5.kIn LT hx).here ?_
  refine codeAny_handlers_suite_as ?_
  refine lands_againW held5 fun h6 fl6 up6 => ?_
  have up16 : s1.heap.UpToSlots h6 := (up4.trans up5).trans up6
  obtain ⟨oe, ws, hoe, hoec, hoed, _⟩ := fl6.first
  have neF : ea ∉ frs X.stack := fun hb => by
    have f6 := fl6.2.2.1
    rw [← hstk] at f6
    obtain ⟨o2, e2, nf⟩ := nofields f6 hb
    rw [hoe] at e2
    obtain rfl := Option.some.inj e2
    exact nf _ hoed
  have un6 : Un (frs X.stack) [] H1 H' s0.heap h6 := un_fly un c1 c2 fl6.1 (frames up16)
  have un7 : Un (frs X.stack) [] H1 (upd H' ea (xO ea C)) s0.heap h6 := by
    refine ⟨un6.keep, un6.slot, fun b o e n z => ?_, un6.there, fun b xs e => ?_, fun b o u e => ?_, fun b ps e => ?_⟩
    · have hne : b ≠ ea := by
        rintro rfl
        by_cases hb : b ∈ frs X.stack
        · exact neF hb
        · have z := c1 b o e n hb
          rw [fl.2.1] at z
          cases z
      rw [upd_ne hne]
      exact un6.free b o e n z
    · rw [upd_ne (ne_of_none (un6.tups b xs e) ea0)]; exact un6.tups b xs e
    · rw [upd_ne (ne_of_none (un6.frzs b o u e) ea0)]; exact un6.frzs b o u e
    · obtain ⟨m1, e1⟩ := un6.tbls b ps e
      exact ⟨m1, by rw [upd_ne (ne_of_none e1 ea0)]; exact e1⟩
  have hok6 : HOk X.prog X.w (upd H' ea (xO ea C)) h6 := fun b u e => by
    by_cases hb : b = ea
    · subst hb
      rw [upd_same] at e
      cases e
      exact xO_ok ⟨oe, hoe, hoec⟩
    · rw [upd_ne hb] at e
      exact (hok b u e).stay (fun c v _ z => fl6.1 c v z) (fun c z => by rw [upd_ne (ne_of_none z ea0)]; exact z) fun c xs z => by rw [upd_ne (ne_of_none z ea0)]; exact z
  have I6 : Inv X pins σ (upd H' ea (xO ea C)) { s1 with heap := h6 } := I0.call' (s' := { s1 with heap := h6 }) os un7 hok6 bare (ch := []) (fun _ z => nomatch z)
  refine store_ok (X := hcx X ea) (v := .ref ea) (I6.hcx ea) hN hi (.inl hlo) rfl (fun s7 I7 => ?_) (.inr hlo)
  refine wpAny_mono (hb ea pins s7 _ _ _ I7 (q ea ea0)) (fun f s8 h8 => ?_) fun _ _ z => z.elim
  cases f with
  | next =>
    obtain ⟨σ8, H8, I8, q8⟩ := h8
    exact (I8.unhcx I.ok).goes hN hi hlo fun s9 I9 => ⟨_, H8, I9, q8⟩
  | ret v =>
    obtain ⟨v8, σ8, H8, I8, r8, q8⟩ := h8
    exact (I8.unhcx I.ok).goes hN hi hlo fun s9 I9 => ⟨v8, _, H8, I9, r8, q8⟩
  | brk =>
    obtain ⟨σ8, H8, I8, q8⟩ := h8
    exact (I8.unhcx I.ok).goes hN hi hlo fun s9 I9 => ⟨_, H8, I9, q8⟩
  | cont =>
    obtain ⟨σ8, H8, I8, q8⟩ := h8
    exact (I8.unhcx I.ok).goes hN hi hlo fun s9 I9 => ⟨_, H8, I9, q8⟩
end
end L2

set_option Elab.async false
set_option linter.all false
set_option maxRecDepth 100000
set_option maxHeartbeats 4000000
namespace L2
open PySem PySem.Spec PyProof.Rows
section
variable {X : Cx} {a b c d : Expr} {ta tb tc td : TE} {pos : Pos}
/-- a op1 b op2 c op3 d -/
noncomputable def tChain3 (r r' r'' : R2) (ta tb tc td : TE) : TE := fun σ H Q => ta σ H fun x H1 => tb σ H1 fun y H2 => r x y H2 fun z H3 => ∃ k, z = .bl k ∧
  (if k = true then tc σ H3 fun y' H4 => r' y y' H4 fun z' H5 => ∃ k', z' = .bl k' ∧ (if k' = true then td σ H5 fun w' H6 => r'' y' w' H6 Q else Q (.bl false) H5) else Q (.bl false) H3)
theorem pe_chain3 {op op' op'' : CmpOp} {r r' r'' : R2} (ho : OpR X (compareOp op) r) (ho' : OpR X (compareOp op') r') (ho'' : OpR X (compareOp op'') r'') (ha : PE X a ta) (hb : PE X b tb) (hc : PE X c tc) (hd : PE X d td)
    (hm : lastMarks [op, op', op''] [b, c, d] = false := by with_unfolding_all rfl) : PE X (.Compare a [op, op', op''] [b, c, d] pos) (tChain3 r r' r'' ta tb tc td) := by
  intro pins s σ H Q I h
  refine Compare_chain (thn (ha pins s σ H _ I h) fun v s1 ⟨x, H1, I1, r1, q1⟩ => chain_link (thn (hb pins s1 σ H1 _ I1 q1) fun u s2 ⟨y, H2, I2, r2, q2⟩ =>
    thn (ho pins s2 σ H2 x y v u _ I2 r1 r2 q2) fun d' s3 ⟨z, H3, I3, r3, k, e, q3⟩ => ?_)) hm
  subst e
  cases r3
  refine wpAny_truthy_bool ?_
  cases k with
  | false => exact ite_ff ⟨.bl false, H3, I3, rfl, q3⟩
  | true =>
    refine ite_tt (chain_link (thn (hc pins s3 σ H3 _ I3 q3) fun w' s4 ⟨z', H4, I4, r4, q4⟩ => thn (ho' pins s4 σ H4 y z' u w' _ I4 r2 r4 q4) fun d2 s5 ⟨z2, H5, I5, r5, k2, e2, q5⟩ => ?_))
    subst e2
    cases r5
    refine wpAny_truthy_bool ?_
    cases k2 with
    | false => exact ite_ff ⟨.bl false, H5, I5, rfl, q5⟩
    | true => exact ite_tt (chain_last (thn (hd pins s5 σ H5 _ I5 q5) fun w2 s6 ⟨z3, H6, I6, r6, q6⟩ => ho'' pins s6 σ H6 z' z3 w' w2 Q I6 r4 r6 q6))
end
/-! ### a module's dict of texts and numbers, asked by .get -/
noncomputable def kdat (D : List (Str × Int)) : List (Str × KTD.Dat) := D.map fun p => (p.1, .flat (.int p.2))
noncomputable def KDict (K : PySem.W.Frag) (a : Addr) (D : List (Str × Int)) : Prop := ∀ h, K.In h → KTD.TextTab h a (kdat D)
theorem kdict_of {K : PySem.W.Frag} {a : Addr} {D : List (Str × Int)} (e : KTD.tabLook (KTD.datLooks fun b => K.lookup b) (fun b => K.lookup b) a (kdat D) = true) : KDict K a D := fun h X => KTD.text_of_look (fun b o q => X b o q) e
noncomputable def lookI (k : Str) : List (Str × Int) → V
  | [] => .non
  | (x, i) :: D => if k = x then .int i else lookI k D
theorem look_some {k : Str} : ∀ {D : List (Str × Int)} {d : KTD.Dat}, KTD.datumAt k (kdat D) = some d → ∃ i, d = .flat (.int i) ∧ lookI k D = .int i
  | [], _, h => by simp [kdat, KTD.datumAt] at h
  | (x, i) :: D, d, h => by
    simp only [kdat, List.map_cons, KTD.datumAt, decide_eq_true_eq] at h
    by_cases hk : k = x
    · rw [if_pos hk] at h
      exact ⟨i, (Option.some.inj h).symm, by simp [lookI, hk]⟩
    · rw [if_neg hk] at h
      obtain ⟨j, e1, e2⟩ := look_some (D := D) h
      exact ⟨j, e1, by simp [lookI, hk, e2]⟩
theorem look_none {k : Str} : ∀ {D : List (Str × Int)}, KTD.datumAt k (kdat D) = none → lookI k D = .non
  | [], _ => rfl
  | (x, i) :: D, h => by
    simp only [kdat, List.map_cons, KTD.datumAt, decide_eq_true_eq] at h
    by_cases hk : k = x
    · rw [if_pos hk] at h; cases h
    · rw [if_neg hk] at h
      simp [lookI, hk, look_none (D := D) h]
section
variable {X : Cx}
noncomputable def tKget (D : List (Str × Int)) (t : TA) : TE := fun σ H Q => t σ H fun vs H1 => ∃ k, vs = [.str k] ∧ Q (lookI k D) H1
theorem pe_kget {x : Str} {ad : Addr} {D : List (Str × Int)} {e : Expr} {t : TA} {p apos cpos : Pos} (hD : KDict X.K ad D) (hg : Gl X x) (hm : X.mg x = some (.ref ad)) (ha : PA X [e] t) (hdb : (x == ("__debug__" : Str)) = false := by decide)
    (hbase : attributeBase (.Name x p) "get" X.env (eval (.Name x p) X.env) = eval (.Name x p) X.env := by rfl)
    (hfew : ((backTo cpos (starEach [e] X.env)).all (fun x => !x.1) && (backToKw cpos (keywordEach [] X.env)).all (fun x => x.1.isSome)
      && decide (([e] : List Expr).length + ([] : List Keyword).length + (if ([] : List Keyword).isEmpty then 0 else 1) < 30)) = true := by rfl)
    (hline : (apos.endLine == cpos.line) = true := by rfl) (hs : starEach [e] X.env = (false, eval e X.env) :: starEach [] X.env := by rfl) :
    PE X (.Call (.Attribute (.Name x p) "get" apos) [e] [] cpos) (tKget D t) := by
  intro pins s σ H Q I h
  refine wpAny_Call_method_late hbase hfew hline rfl (ld_glob I hg hm ?_ hdb)
  have T : ∀ {s' : Shared} {σ' : St} {H' : Hp} {pins' : List (Addr × Obj)}, Inv X pins' σ' H' s' → KTD.Here X.base s'.heap ad (kdat D) := fun J => ⟨hD _ J.ok.mod.kin, J.bk⟩
  refine ⟨"dict", "dict.get", PySem.F.plainAttrs_dict, PySem.F.slot_dict_get, PySem.F.type_dict_get, (T I).typeIs, (T I).noDict, ?_⟩
  have hA := ha cpos pins s σ H _ I h
  rw [hs] at hA ⊢
  refine Calls.callWith_builtin (by rfl) (Calls.evalArgs_plain ?_)
  refine thn hA fun us s2 ⟨vs, H2, I2, r2, k, e2, q2⟩ => ?_
  subst e2
  obtain ⟨u, rfl, ru⟩ := vals1 r2
  obtain ⟨tk, rfl⟩ := ru
  refine call_meetsIn PySem.F.slot_dict_get (T I2).typeIs PySem.F.entry_dict_get (PySem.F.args_dict_get_2 _ _) (KTD.meets_get1 (h₀ := X.base) (D := kdat D)) ⟨T I2, fun dd v hdd hv => ?_, fun hn => ?_⟩
  · obtain ⟨i, rfl, el⟩ := look_some hdd
    have hv' : Reads s2.heap v (.int i) [] := hv s2.heap
    obtain ⟨t0, rfl⟩ : ∃ t0, v = .int i t0 := by cases hv'; exact ⟨_, rfl⟩
    rw [el] at q2
    exact ⟨.int i, H2, I2.tok _, ⟨_, rfl⟩, q2⟩
  · rw [look_none hn] at q2
    exact ⟨.non, H2, I2.tok _, rfl, q2⟩
end
end L2

set_option Elab.async false
set_option linter.all false
set_option maxRecDepth 100000
set_option maxHeartbeats 4000000
namespace L2
open PySem PySem.Spec PyProof.Rows
/-- a block that takes some names from around it -/
theorem csR {X : Cx} {scope sc : Scope} {NL N N' : List Str} {ρ : List Nat} (hsc : X.env.scope = sc) (hN : X.N = N) (h1 : scope.kind = .function) (h2 : (scope.names.all fun x => x.2 != .cell) = true) (h3 : ∀ x ∈ scope.names, x.2 = .local → scope.names.lookup x.1 = some .local)
    (h4 : (scope.names.all fun x => x.2 != .free || sc.names.lookup x.1 == some .cell) = true) (h5 : N' = NL ++ ρ.map fun j => N.getD j "")
    (h6 : (ρ.all fun j => match N[j]? with | some x => scope.names.lookup x == some .free && sc.names.lookup x == some .cell | none => false) = true) : CScope X scope NL ρ N' := by
  rw [List.all_eq_true] at h2 h4 h6
  refine ⟨h1, fun x hx e => ?_, h3, fun x hx e => .inl ?_, by rw [hN]; exact h5, fun j hj => ?_⟩
  · have := h2 x hx
    rw [e] at this
    exact absurd this (by decide)
  · have z := h4 x hx
    rw [e] at z
    have z2 : (sc.names.lookup x.1 == some NameKind.cell) = true := by simpa using z
    show X.env.scope.names.lookup x.1 = some .cell
    rw [hsc]
    exact beq_iff_eq.mp z2
  · have z := h6 j hj
    cases q : N[j]? with
    | none => rw [q] at z; cases z
    | some x =>
      rw [q] at z
      simp only [Bool.and_eq_true, beq_iff_eq] at z
      exact ⟨x, by rw [hN]; exact q, z.1, .inl (by rw [hsc]; exact z.2)⟩
theorem bootVE : bootBuiltins "ValueError" = some (.type "ValueError") := by decide +kernel
end L2

set_option Elab.async false
set_option linter.all false
set_option maxRecDepth 100000
set_option maxHeartbeats 4000000
namespace L2
open PySem PySem.Spec PyProof.Rows
/-! ### a def called within the suite of an except -/
structure RoomH (k : Nat) (A : Around) : Prop where
  dp : A.depth + 3 * k + 5 < recursionLimit
  un : A.units + 16 * k + 200 < cLine
theorem RoomH.mono {j k : Nat} {A : Around} (r : RoomH k A) (h : j ≤ k) : RoomH j A := ⟨by have := r.dp; omega, by have := r.un; omega⟩
theorem RoomH.deeper {k : Nat} {A : Around} (r : RoomH (k + 1) A) (env : Env) : RoomH k (A.deeper env) :=
  ⟨by have := r.dp; show A.depth + 1 + 3 * k + 5 < _; omega, by have := r.un; show A.units + 3 + 16 * k + 200 < _; omega⟩
structure FnOkH (P : Program) (w : World) (K : PySem.W.Frag) (mg : Str → Option Value) (base : Heap) (k : Nat) (f : Addr) (fd : FuncData) (ps : List Str) (sp : Sp) : Prop where
  len : ∀ vs H Q E, sp vs H Q E → vs.length = ps.length
  run : ∀ (A : Around) (outer : List Env) (s : Shared) (H : Hp) (args : Args) (us : List Value) (vs : List V) (Q : VK) (E : XK), RoomH k A → Env0 P w K mg base A outer s H → BindsTo s fd args (ps.zip us) → Vals vs us → sp vs H Q E →
    codeAny (model P w) A (.call (.ref f) args) (CR CX0 outer P w H s Q E) s
section
variable {X : Cx}
end
/-- a promise that holds wherever it is called -/
theorem FnOkH.ok {P : Program} {w : World} {K : PySem.W.Frag} {mg : Str → Option Value} {base : Heap} {k : Nat} {f : Addr} {fd : FuncData} {ps : List Str} {sp : Sp} (F : FnOkH P w K mg base k f fd ps sp) : FnOk P w K mg base CX0 k f fd ps sp :=
  ⟨F.len, fun A outer s H args us vs Q E hr e0 hb r h => F.run A outer s H args us vs Q E ⟨hr.dp, hr.un⟩ e0 hb r h⟩
end L2

set_option Elab.async false
set_option linter.all false
set_option maxRecDepth 100000
set_option maxHeartbeats 4000000
namespace HT
open PySem PySem.Spec PyProof.Rows
section
variable {prog : Program} {w : World} {A : Around} {E : Value → Shared → Prop} {s : Shared}
end
end HT
namespace L2
open PySem PySem.Spec PyProof.Rows
section
variable {X : Cx}
theorem IsD.unref {K : PySem.W.Frag} {H : Hp} {l : List Dt} {v : V} (h : IsD K H (.tup l) v) : ∃ a xs, v = .ref a ∧ SqT K H a xs ∧ IsDs K H l xs := by
  cases h with
  | tup h r => exact ⟨_, _, rfl, h, r⟩
theorem IsDs.drop {K : PySem.W.Frag} {H : Hp} : ∀ {l : List Dt} {xs : List V} (n : Nat), IsDs K H l xs → IsDs K H (l.drop n) (xs.drop n)
  | _, _, 0, h => h
  | _, _, _ + 1, .nil => .nil
  | _, _, n + 1, .cons _ r => IsDs.drop n r
theorem IsDs.take {K : PySem.W.Frag} {H : Hp} : ∀ {l : List Dt} {xs : List V} (n : Nat), IsDs K H l xs → IsDs K H (l.take n) (xs.take n)
  | _, _, 0, _ => .nil
  | _, _, _ + 1, .nil => .nil
  | _, _, n + 1, .cons h r => .cons h (IsDs.take n r)
/-- len(t) of data -/
theorem call_lenD : CallR X (.builtin "len") (fun xs H Q => ∃ x l, xs = [x] ∧ IsD X.K H (.tup l) x ∧ Q (.int l.length) H) := by
  intro pins s σ H xs us Q I r h
  obtain ⟨x, l, rfl, dx, q⟩ := h
  obtain ⟨a, ys, rfl, hx, ra⟩ := dx.unref
  exact call_len_seq pins s σ H [.ref a] us Q I r ⟨a, ys, rfl, .inr hx, by rw [← ra.length]; exact q⟩
end
end L2

set_option Elab.async false
set_option linter.all false
set_option maxRecDepth 100000
set_option maxHeartbeats 4000000
namespace PySem
open Sem (wp)
section
variable {M : Model} {A : Around} {E : Value → Shared → Prop} {s : Shared}
end
end PySem
namespace L2
open PySem PySem.Spec PyProof.Rows
section
variable {X : Cx} {E : XK}
variable {pins : List (Addr × Obj)} {σ : St} {H : Hp} {s : Shared}
end
end L2

set_option Elab.async false
set_option linter.all false
set_option maxRecDepth 100000
set_option maxHeartbeats 4000000
namespace L2
open PySem PySem.Spec PyProof.Rows

/-! ### lists of pairs as tables -/
section
variable {κ : Type} [DecidableEq κ]
noncomputable def valV (kvs : List (κ × V)) (k : κ) : Option V := (kvs.find? fun kv => decide (kv.1 = k)).map (·.2)
/-- in its place, or at the end -/
noncomputable def putK (kvs : List (κ × V)) (k : κ) (v : V) : List (κ × V) :=
  if (kvs.any fun kv => decide (kv.1 = k)) = true then kvs.map (fun kv => if kv.1 = k then (kv.1, v) else kv) else kvs ++ [(k, v)]
noncomputable def dropK (kvs : List (κ × V)) (k : κ) : List (κ × V) := kvs.filter fun kv => decide (kv.1 ≠ k)

theorem valV_pos {p : κ × V} {r : List (κ × V)} {k : κ} (e : p.1 = k) : valV (p :: r) k = some p.2 := by simp [valV, List.find?_cons, e]
theorem valV_neg {p : κ × V} {r : List (κ × V)} {k : κ} (e : ¬ p.1 = k) : valV (p :: r) k = valV r k := by simp [valV, List.find?_cons, e]
theorem valV_any (k : κ) : ∀ kvs : List (κ × V), (kvs.any fun kv => decide (kv.1 = k)) = (valV kvs k).isSome
  | [] => rfl
  | p :: r => by
    rw [List.any_cons]
    by_cases e : p.1 = k
    · simp only [valV_pos e, decide_eq_true e, Bool.true_or, Option.isSome_some]
    · rw [valV_neg e, decide_eq_false e, Bool.false_or]; exact valV_any k r
theorem RelO.isSome_eq {o : Option V} {u : Option Value} (r : RelO o u) : o.isSome = u.isSome := by
  cases o with
  | none => cases u with
    | none => rfl
    | some _ => exact (show False from r).elim
  | some _ => cases u with
    | none => exact (show False from r).elim
    | some _ => rfl
theorem RelO.getD {o : Option V} {u : Option Value} {d : V} {d' : Value} (r : RelO o u) (rd : RelV d d') : RelV (o.getD d) (u.getD d') := by
  cases o with
  | none => cases u with
    | none => exact rd
    | some _ => exact (show False from r).elim
  | some _ => cases u with
    | none => exact (show False from r).elim
    | some _ => exact r

/-- raw tables of the same keys -/
theorem KV.val {kvs : List (κ × V)} {vs : List (κ × Value)} (r : KV kvs vs) (k : κ) : RelO (valV kvs k) (valueAt vs k) := by
  unfold KV at r
  induction r with
  | nil => exact True.intro
  | @cons p q ps qs h t ih =>
    obtain ⟨h1, h2⟩ := h
    by_cases e : p.1 = k
    · have e' : q.1 = k := h1.symm.trans e
      have b : valueAt (q :: qs) k = some q.2 := by simp [valueAt, List.find?_cons, e']
      rw [valV_pos e, b]; exact h2
    · have e' : ¬ q.1 = k := fun z => e (h1.trans z)
      have b : valueAt (q :: qs) k = valueAt qs k := by simp [valueAt, List.find?_cons, e']
      rw [valV_neg e, b]; exact ih
theorem KV.any {kvs : List (κ × V)} {vs : List (κ × Value)} (r : KV kvs vs) (k : κ) : (kvs.any fun kv => decide (kv.1 = k)) = vs.any fun kv => decide (kv.1 = k) := by
  unfold KV at r
  induction r with
  | nil => rfl
  | cons h t ih => rw [List.any_cons, List.any_cons, ih, h.1]
theorem KV.repl {kvs : List (κ × V)} {vs : List (κ × Value)} (r : KV kvs vs) (k : κ) {y : V} {u : Value} (ry : RelV y u) :
    KV (kvs.map fun kv => if kv.1 = k then (kv.1, y) else kv) (vs.map fun kv => if kv.1 = k then (kv.1, u) else kv) := by
  unfold KV at r ⊢
  induction r with
  | nil => exact .nil
  | @cons p q ps qs h t ih =>
    rw [List.map_cons, List.map_cons]
    refine .cons ?_ ih
    obtain ⟨h1, h2⟩ := h
    by_cases e : p.1 = k
    · rw [if_pos e, if_pos (h1.symm.trans e)]; exact ⟨h1, ry⟩
    · rw [if_neg e, if_neg (fun z => e (h1.trans z))]; exact ⟨h1, h2⟩
theorem KV.put {kvs : List (κ × V)} {vs : List (κ × Value)} (r : KV kvs vs) (k : κ) {y : V} {u : Value} (ry : RelV y u) : KV (putK kvs k y) (stored vs k u) := by
  unfold putK stored
  rw [r.any k]
  by_cases e : (vs.any fun kv => decide (kv.1 = k)) = true
  · rw [if_pos e, if_pos e]; exact r.repl k ry
  · rw [if_neg e, if_neg e]; exact Paired.snoc r ⟨rfl, ry⟩
theorem KV.drop {kvs : List (κ × V)} {vs : List (κ × Value)} (r : KV kvs vs) (k : κ) : KV (dropK kvs k) (without vs k) := by
  unfold KV at r ⊢
  unfold dropK without
  induction r with
  | nil => exact .nil
  | @cons p q ps qs h t ih =>
    obtain ⟨h1, h2⟩ := h
    rw [List.filter_cons, List.filter_cons]
    by_cases e : p.1 = k
    · have a : ¬ decide (p.1 ≠ k) = true := by simp [e]
      have b : ¬ decide (q.1 ≠ k) = true := by simp [h1.symm.trans e]
      rw [if_neg a, if_neg b]; exact ih
    · have e' : ¬ q.1 = k := fun z => e (h1.trans z)
      have a : decide (p.1 ≠ k) = true := by simp [e]
      have b : decide (q.1 ≠ k) = true := by simp [e']
      rw [if_pos a, if_pos b]; exact .cons ⟨h1, h2⟩ ih
theorem KV.length {kvs : List (κ × V)} {vs : List (κ × Value)} (r : KV kvs vs) : kvs.length = vs.length := Paired.length r
end


/-! ### a tracked dict, its keys ints and texts or tuples of these -/
theorem kV_is {P : Program} {w : World} {k : Key} {u : Value} (r : RelV (kV k) u) : (mixKind P w).is k u = true := by
  cases k with
  | inl i => obtain ⟨t, e⟩ := (show ∃ t, u = Value.int i t from r); subst e; exact mixKind_int P w i t
  | inr x => obtain ⟨t, e⟩ := (show ∃ t, u = Value.str x t from r); subst e; exact mixKind_str P w x t
/-- raw entries of a dict with tuple keys -/
noncomputable abbrev KT (H : Hp) : List (List Key × V) → List (List Key × Addr × Value) → Prop := Paired fun p q => p.1 = q.1 ∧ H q.2.1 = some (.tup (p.1.map kV)) ∧ RelV p.2 q.2.2
theorem KT.val {H : Hp} {kvs : List (List Key × V)} {xs : List (List Key × Addr × Value)} (r : KT H kvs xs) (k : List Key) : RelO (valV kvs k) ((atKey xs k).map (·.2)) := by
  induction r with
  | nil => exact True.intro
  | @cons p q ps qs h t ih =>
    obtain ⟨h1, _, h2⟩ := h
    by_cases e : p.1 = k
    · have e' : q.1 = k := h1.symm.trans e
      have b : atKey (q :: qs) k = some q.2 := by simp [atKey, List.find?_cons, e']
      rw [valV_pos e, b]; exact h2
    · have e' : ¬ q.1 = k := fun z => e (h1.trans z)
      have b : atKey (q :: qs) k = atKey qs k := by simp [atKey, List.find?_cons, e']
      rw [valV_neg e, b]; exact ih
theorem KT.repl {H : Hp} {kvs : List (List Key × V)} {xs : List (List Key × Addr × Value)} (r : KT H kvs xs) (k : List Key) {y : V} {u : Value} (ry : RelV y u) :
    KT H (kvs.map fun kv => if kv.1 = k then (kv.1, y) else kv) (xs.map (putAt k u)) := by
  induction r with
  | nil => exact .nil
  | @cons p q ps qs h t ih =>
    rw [List.map_cons, List.map_cons]
    refine .cons ?_ ih
    obtain ⟨h1, h2, h3⟩ := h
    unfold putAt
    by_cases e : p.1 = k
    · rw [if_pos e, if_pos (h1.symm.trans e)]; exact ⟨h1, h2, ry⟩
    · rw [if_neg e, if_neg (fun z => e (h1.trans z))]; exact ⟨h1, h2, h3⟩
theorem KT.put {H : Hp} {kvs : List (List Key × V)} {xs : List (List Key × Addr × Value)} (r : KT H kvs xs) (k : List Key) {b : Addr} {y : V} {u : Value} (hb : H b = some (.tup (k.map kV))) (ry : RelV y u) :
    KT H (putK kvs k y) (storedH xs k b u) := by
  have e : (kvs.any fun kv => decide (kv.1 = k)) = (atKey xs k).isSome := by
    rw [valV_any, (r.val k).isSome_eq, Option.isSome_map]
  unfold putK storedH
  rw [e]
  by_cases q : (atKey xs k).isSome = true
  · rw [if_pos q, if_pos q]; exact r.repl k ry
  · rw [if_neg q, if_neg q]; exact Paired.snoc r ⟨rfl, hb, ry⟩
theorem KT.keeps {H H' : Hp} {kvs : List (List Key × V)} {xs : List (List Key × Addr × Value)} (r : KT H kvs xs) (ht : ∀ b ys, H b = some (.tup ys) → H' b = some (.tup ys)) : KT H' kvs xs :=
  Paired.mapP r fun _ _ z => ⟨z.1, ht _ _ z.2.1, z.2.2⟩

section
variable {P : Program} {w : World} {H : Hp} {h : Heap} {a : Addr}
end

/-- what the dict at a holds at the key y -/
noncomputable def DGet (H : Hp) (a : Addr) (y : V) (r : Option V) : Prop :=
  (∃ kvs k, Rd H a (.dK kvs) ∧ y = kV k ∧ r = valV kvs k) ∨ ∃ kvs k b, Rd H a (.dT kvs) ∧ y = .ref b ∧ H b = some (.tup (k.map kV)) ∧ r = valV kvs k
/-- the heap behind a[y] = v -/
noncomputable def DPut (H : Hp) (a : Addr) (y v : V) (H' : Hp) : Prop :=
  (∃ kvs k, H a = some (.dK kvs) ∧ y = kV k ∧ kvs.length < sizeLine ∧ H' = upd H a (.dK (putK kvs k v))) ∨
  ∃ kvs k b, H a = some (.dT kvs) ∧ y = .ref b ∧ H b = some (.tup (k.map kV)) ∧ kvs.length < sizeLine ∧ H' = upd H a (.dT (putK kvs k v))
theorem DGet.k {H : Hp} {a : Addr} {kvs : List (Key × V)} {k : Key} (e : H a = some (.dK kvs)) : DGet H a (kV k) (valV kvs k) := .inl ⟨kvs, k, .inl e, rfl, rfl⟩
theorem DGet.t {H : Hp} {a b : Addr} {kvs : List (List Key × V)} {k : List Key} (e : H a = some (.dT kvs)) (eb : H b = some (.tup (k.map kV))) : DGet H a (.ref b) (valV kvs k) := .inr ⟨kvs, k, b, .inl e, rfl, eb, rfl⟩
theorem DPut.k {H : Hp} {a : Addr} {kvs : List (Key × V)} {k : Key} {v : V} (e : H a = some (.dK kvs)) (hl : kvs.length < sizeLine) : DPut H a (kV k) v (upd H a (.dK (putK kvs k v))) := .inl ⟨kvs, k, e, rfl, hl, rfl⟩
theorem DPut.t {H : Hp} {a b : Addr} {kvs : List (List Key × V)} {k : List Key} {v : V} (e : H a = some (.dT kvs)) (eb : H b = some (.tup (k.map kV))) (hl : kvs.length < sizeLine) :
    DPut H a (.ref b) v (upd H a (.dT (putK kvs k v))) := .inr ⟨kvs, k, b, e, rfl, eb, hl, rfl⟩


section
variable {X : Cx} {pins : List (Addr × Obj)} {σ : St} {H : Hp} {s : Shared} {a : Addr} {y v : V} {u r : Value} {o : Option V} {A : Around} {E : Value → Shared → Prop}

end

section
variable {X : Cx} {pins : List (Addr × Obj)} {σ : St} {H : Hp} {s : Shared} {a : Addr} {kvs : List (Key × V)} {k : Key} {u : Value} {A : Around} {E : Value → Shared → Prop}
end


/-! ### readings and rules -/
section
variable {X : Cx} {o i e value : Expr} {pos pos' tpos : Pos} {td ty tv : TE}
end


/-! ### displays -/
section
variable {X : Cx} {pos : Pos}
end

/-! ### methods -/
section
variable {X : Cx} {pins : List (Addr × Obj)} {σ : St} {H : Hp} {s : Shared} {a : Addr} {y d : V} {u r : Value} {o : Option V} {A : Around} {E : Value → Shared → Prop}
end

section
variable {X : Cx} {o e f : Expr} {apos cpos : Pos} {td ty tx : TE}
end

/-! ### dict(d): a copy -/
section
variable {X : Cx} {pins : List (Addr × Obj)} {σ : St} {H : Hp} {s : Shared} {a : Addr} {kvs : List (Key × V)} {A : Around} {E : Value → Shared → Prop}
end


section
variable {X : Cx} {pins : List (Addr × Obj)} {σ : St} {H : Hp} {s : Shared} {a : Addr} {y : V} {u : Value} {A : Around} {E : Value → Shared → Prop}
end
end L2

set_option Elab.async false
set_option linter.all false
set_option maxRecDepth 100000
set_option maxHeartbeats 4000000
namespace PySem
open Sem (wp)
namespace F
end F
end PySem

set_option Elab.async false
set_option linter.all false
set_option maxRecDepth 100000
set_option maxHeartbeats 4000000
namespace PySem
open Sem (wp)
section
variable {prog : Program} {w : World} {K : Type} [DecidableEq K] {knd : KeyKind prog w K} {A : Around} {E : Value → Shared → Prop}
/-- the items are pairs of a key and a value -/
noncomputable def Heap.PairItems (h : Heap) (knd : KeyKind prog w K) (items : Array Value) (kvs : List (K × Value)) : Prop :=
  items.size = kvs.length ∧ ∀ (i : Nat) (kv : K × Value), kvs[i]? = some kv → ∃ (a : Addr) (key : Value), items[i]? = some (.ref a) ∧ h.IsTuple a #[key, kv.2] ∧ knd.is kv.1 key = true
theorem Heap.PairItems.stay {h h' : Heap} {items : Array Value} {kvs : List (K × Value)} (x : h.PairItems knd items kvs) (k : ∀ (i : Nat) (a : Addr) (o : Obj), items[i]? = some (.ref a) → h.get? a = some o → h'.get? a = some o) : h'.PairItems knd items kvs :=
  ⟨x.1, fun i kv e => by
    obtain ⟨a, key, e1, ⟨o, e2, r⟩, e3⟩ := x.2 i kv e
    exact ⟨a, key, e1, ⟨o, k i a o e1 e2, r⟩, e3⟩⟩
end
end PySem

set_option Elab.async false
set_option linter.all false
set_option maxRecDepth 100000
set_option maxHeartbeats 4000000
namespace L2
open PySem PySem.Spec PyProof.Rows
/-- known to the object, which has no dict of its own -/
noncomputable def Pl (H : Hp) (a : Addr) : Prop := ∃ o u, H a = some (.frz o u) ∧ o.dict = none
mutual
/-- data all of whose tuples are plain ones -/
inductive IsP (K : PySem.W.Frag) (H : Hp) : Dt → V → Prop
  | non : IsP K H .non .non
  | bl {b} : IsP K H (.bl b) (.bl b)
  | int {i} : IsP K H (.int i) (.int i)
  | str {z} : IsP K H (.str z) (.str z)
  | tup {l : List Dt} {a : Addr} {xs : List V} : SqT K H a xs → Pl H a → IsPs K H l xs → IsP K H (.tup l) (.ref a)
inductive IsPs (K : PySem.W.Frag) (H : Hp) : List Dt → List V → Prop
  | nil : IsPs K H [] []
  | cons {d : Dt} {l : List Dt} {x : V} {xs : List V} : IsP K H d x → IsPs K H l xs → IsPs K H (d :: l) (x :: xs)
end
section
variable {K : PySem.W.Frag} {H H' : Hp}
mutual
theorem IsP.d : ∀ {d : Dt} {v : V}, IsP K H d v → IsD K H d v
  | _, _, .non => .non
  | _, _, .bl => .bl
  | _, _, .int => .int
  | _, _, .str => .str
  | _, _, .tup h _ r => .tup h (IsPs.d r)
theorem IsPs.d : ∀ {l : List Dt} {xs : List V}, IsPs K H l xs → IsDs K H l xs
  | _, _, .nil => .nil
  | _, _, .cons h r => .cons (IsP.d h) (IsPs.d r)
end
theorem Pl.same {a : Addr} (g : Same H H') (h : Pl H a) : Pl H' a := by
  obtain ⟨o, u, e, d⟩ := h
  exact ⟨o, u, g _ _ e, d⟩
theorem Pl.but {a r : Addr} {ys : List V} (hr : H r = some (.lst ys)) (g : But r H H') (h : Pl H a) : Pl H' a := by
  obtain ⟨o, u, e, d⟩ := h
  exact ⟨o, u, g _ _ (ne_of e hr (by intro z; cases z)) e, d⟩
mutual
theorem IsP.same (g : Same H H') : ∀ {d : Dt} {v : V}, IsP K H d v → IsP K H' d v
  | _, _, .non => .non
  | _, _, .bl => .bl
  | _, _, .int => .int
  | _, _, .str => .str
  | _, _, .tup h p r => .tup (g.tup h) (p.same g) (IsPs.same g r)
theorem IsPs.same (g : Same H H') : ∀ {l : List Dt} {xs : List V}, IsPs K H l xs → IsPs K H' l xs
  | _, _, .nil => .nil
  | _, _, .cons h r => .cons (IsP.same g h) (IsPs.same g r)
end
mutual
theorem IsP.but {r : Addr} {ys : List V} (hr : H r = some (.lst ys)) (g : But r H H') : ∀ {d : Dt} {v : V}, IsP K H d v → IsP K H' d v
  | _, _, .non => .non
  | _, _, .bl => .bl
  | _, _, .int => .int
  | _, _, .str => .str
  | _, _, .tup h p q => .tup (by
      rcases sqT_ne hr h with n | n
      · exact g.tup n h
      · exact n _) (p.but hr g) (IsPs.but hr g q)
theorem IsPs.but {r : Addr} {ys : List V} (hr : H r = some (.lst ys)) (g : But r H H') : ∀ {l : List Dt} {xs : List V}, IsPs K H l xs → IsPs K H' l xs
  | _, _, .nil => .nil
  | _, _, .cons h q => .cons (IsP.but hr g h) (IsPs.but hr g q)
end
theorem IsPs.length {l : List Dt} {xs : List V} (h : IsPs K H l xs) : l.length = xs.length := h.d.length
theorem IsPs.get {l : List Dt} {xs : List V} (h : IsPs K H l xs) {i : Nat} {d : Dt} (e : l[i]? = some d) : ∃ x, xs[i]? = some x ∧ IsP K H d x := by
  induction l generalizing xs i with
  | nil => simp at e
  | cons c l ih =>
    cases h with
    | cons h r =>
      cases i with
      | zero => simp at e; subst e; exact ⟨_, rfl, h⟩
      | succ i => exact ih r (by simpa using e)
theorem IsPs.get' {l : List Dt} {xs : List V} (h : IsPs K H l xs) {i : Nat} {x : V} (e : xs[i]? = some x) : ∃ d, l[i]? = some d ∧ IsP K H d x := by
  induction l generalizing xs i with
  | nil => cases h; simp at e
  | cons c l ih =>
    cases h with
    | cons h r =>
      cases i with
      | zero => simp at e; subst e; exact ⟨_, rfl, h⟩
      | succ i => exact ih r (by simpa using e)
theorem IsPs.append {l m : List Dt} {xs ys : List V} (h : IsPs K H l xs) (h' : IsPs K H m ys) : IsPs K H (l ++ m) (xs ++ ys) := by
  induction l generalizing xs with
  | nil => cases h; exact h'
  | cons d l ih => cases h with | cons h r => exact .cons h (ih r)
theorem IsPs.drop : ∀ {l : List Dt} {xs : List V} (n : Nat), IsPs K H l xs → IsPs K H (l.drop n) (xs.drop n)
  | _, _, 0, h => h
  | _, _, _ + 1, .nil => .nil
  | _, _, n + 1, .cons _ r => IsPs.drop n r
theorem IsPs.take : ∀ {l : List Dt} {xs : List V} (n : Nat), IsPs K H l xs → IsPs K H (l.take n) (xs.take n)
  | _, _, 0, _ => .nil
  | _, _, _ + 1, .nil => .nil
  | _, _, n + 1, .cons h r => .cons h (IsPs.take n r)
theorem IsP.unref {l : List Dt} {v : V} (h : IsP K H (.tup l) v) : ∃ a xs, v = .ref a ∧ SqT K H a xs ∧ Pl H a ∧ IsPs K H l xs := by
  cases h with
  | tup h p r => exact ⟨_, _, rfl, h, p, r⟩
end
/-- what a new plain tuple is -/
noncomputable def plO (xs : List V) (us : List Value) : HO := .frz { cls := .type "tuple", data := .seq us.toArray } (.tup xs)
section
variable {X : Cx} {pins : List (Addr × Obj)} {σ : St} {H : Hp} {s : Shared}
/-- a tuple just laid, plain -/
theorem Inv.plain {xs : List V} {us : List Value} {t' : Nat} (I : Inv X pins σ H s) (r : Vals xs us) (z : xs.length ≤ sizeLine) :
    Inv X pins σ (upd H s.heap.objs.size (plO xs us)) { s with heap := s.heap.push { cls := .type "tuple", data := .seq us.toArray }, toks := t' } ∧ H s.heap.objs.size = none :=
  ⟨I.laid (t' := t') (fun b ob q => Heap.get?_push_of_some _ q) (Nat.le_refl _) ⟨Heap.get?_push_size _ rfl, z, us, r, IsTup.new _ _⟩, I.hok.fresh (Nat.le_refl _)⟩
theorem plain_is {p : Addr} {l : List Dt} {xs : List V} {us : List Value} (hf : H p = none) (d : IsPs X.K H l xs) : Same H (upd H p (plO xs us)) ∧ IsP X.K (upd H p (plO xs us)) (.tup l) (.ref p) :=
  ⟨same_new hf _, .tup (.inl (.inr ⟨_, upd_same⟩)) ⟨_, _, upd_same, rfl⟩ (d.same (same_new hf _))⟩
variable {e : Expr} {es : List Expr} {t : TA} {pos : Pos}
/-- (a, b, ..) -/
noncomputable def tTupP (K : PySem.W.Frag) (t : TA) : TE := fun σ H Q => t σ H fun xs H1 => ∃ l, IsPs K H1 l xs ∧ xs.length ≤ sizeLine ∧ ∀ v H', Same H1 H' → IsP K H' (.tup l) v → Q v H'
theorem pe_tupP {x1} (h : PA X es t) : PE X (.Tuple es x1 pos) (tTupP X.K t) := by
  intro pins s σ H Q I hq
  refine wpAny_Tuple_spliced (thn (h pos pins s σ H _ I hq) fun us s1 ⟨xs, H1, I1, r, l, d, z, q⟩ => ⟨by rw [← r.length]; exact z, ?_⟩)
  obtain ⟨I2, hf⟩ := I1.plain (t' := s1.toks) r z
  obtain ⟨g, dp⟩ := plain_is (X := X) (us := us) hf d
  exact ⟨.ref s1.heap.objs.size, _, I2, rfl, q _ _ g dp⟩
/-- tuple(xs) -/
theorem call_tupleP : CallR X (.type "tuple") (fun xs H Q => ∃ p ys l, xs = [.ref p] ∧ SqL X.K H p ys ∧ IsPs X.K H l ys ∧ ∀ v H', Same H H' → IsP X.K H' (.tup l) v → Q v H') := by
  intro pins s σ H xs us Q I r h
  obtain ⟨p, ys, l, rfl, hq, d, q⟩ := h
  obtain ⟨u, rfl, rx⟩ := vals1 r
  cases rx
  obtain ⟨its, r', pl, hz⟩ := I.list hq
  have hlen := r'.length
  refine call_tuple_list pl.isList (fun h' kp => ?_) (by simp only [List.size_toArray] <;> omega)
  have I1 : Inv X pins σ H { s with heap := h' } := I.kept (t' := s.toks) kp
  obtain ⟨I2, hf⟩ := I1.plain (t' := s.toks) r' hz
  obtain ⟨g, dp⟩ := plain_is (X := X) (us := its) hf d
  exact ⟨.ref h'.objs.size, _, I2, rfl, q _ _ g dp⟩
/-- t[i] -/
theorem ix_tupP : IxR X (fun x y H Q => ∃ l i d, IsP X.K H (.tup l) x ∧ y = .int i ∧ atI l i = some d ∧ ∀ v, IsP X.K H d v → Q v H) := by
  intro value slice pins s σ H x y v u Q I rx ry h hs
  obtain ⟨l, i, d, dx, rfl, ha, q⟩ := h
  obtain ⟨a, xs, rfl, hx, pa, ra⟩ := id dx.unref
  obtain ⟨j, hj, hd, _⟩ := atI_get ha
  have e1 := ra.length
  obtain ⟨w', hw, dw⟩ := ra.get hd
  have hat : atI xs i = some w' := by
    unfold atI at ha ⊢
    rw [← e1]
    cases z : ixN l.length i with
    | none => rw [z] at ha; cases ha
    | some j' =>
      rw [z] at ha
      have ha' : l[j']? = some d := ha
      obtain ⟨w2, hw2, dw2⟩ := ra.get ha'
      have z2 := ixN_seq z
      rw [hj] at z2
      have : j = j' := Option.some.inj z2.1
      subst this
      exact hw
  exact ix_tup value slice pins s σ H (.ref a) (.int i) v u Q I rx ry ⟨a, xs, i, w', rfl, rfl, hx, hat, q w' dw⟩ hs
/-- i * j of any size that the model takes -/
theorem op_mulB : OpR X (binaryOp .Mult) (rI IntMulOk fun i j => .int (i * j)) := opI fun _ _ _ _ _ _ _ hc q => mul_int q hc
end
end L2

set_option Elab.async false
set_option linter.all false
set_option maxRecDepth 100000
set_option maxHeartbeats 4000000
namespace L2
open PySem PySem.Spec PyProof.Rows
noncomputable def lookS (fs : List (Str × Dt)) (z : Str) : Option Dt := (fs.find? fun p => decide (p.1 = z)).map (·.2)
noncomputable abbrev prD (p : Str × Dt) : Dt := .tup [.str p.1, p.2]
/-- the dict at p has these values by these names -/
noncomputable def DicP (K : PySem.W.Frag) (H : Hp) (p : Addr) (fs : List (Str × Dt)) : Prop :=
  ∃ kvs, H p = some (.dK kvs) ∧ ∀ z, (lookS fs z = none → valV kvs (Sum.inr z : Key) = none) ∧ ∀ d, lookS fs z = some d → ∃ v, valV kvs (Sum.inr z : Key) = some v ∧ IsP K H d v
section
variable {X : Cx} {pins : List (Addr × Obj)} {σ : St} {H : Hp} {s : Shared}
theorem DicP.get {K : PySem.W.Frag} {p : Addr} {fs : List (Str × Dt)} {z : Str} {d : Dt} (h : DicP K H p fs) (l : lookS fs z = some d) : ∃ v, DGet H p (.str z) (some v) ∧ IsP K H d v := by
  obtain ⟨kvs, e, k⟩ := h
  obtain ⟨v, l1, l2⟩ := (k z).2 d l
  exact ⟨v, by rw [← l1]; exact DGet.k (k := Sum.inr z) e, l2⟩
theorem DicP.has {K : PySem.W.Frag} {p : Addr} {fs : List (Str × Dt)} (h : DicP K H p fs) (z : Str) : ∃ o, DGet H p (.str z) o ∧ o.isSome = (lookS fs z).isSome := by
  obtain ⟨kvs, e, k⟩ := h
  refine ⟨_, DGet.k (k := Sum.inr z) e, ?_⟩
  cases l : lookS fs z with
  | none => rw [(k z).1 l]; rfl
  | some d =>
    obtain ⟨v, l1, _⟩ := (k z).2 d l
    rw [l1]
    rfl
end
end L2

set_option Elab.async false
set_option linter.all false
set_option maxRecDepth 100000
set_option maxHeartbeats 4000000
namespace PySem
open Sem (wp)
open Builtin
section
variable {prog : Program} {w : World} {A : Around} {E : Value → Shared → Prop} {s : Shared}
end
end PySem
namespace L2
open PySem PySem.Spec PyProof.Rows
section
variable {X : Cx}
/-! ### range(a, b, c), c above 0 -/
variable {tg : Expr}
end
end L2

set_option Elab.async false
set_option linter.all false
set_option maxRecDepth 100000
set_option maxHeartbeats 4000000
namespace L2
open PySem PySem.Spec PyProof.Rows
/-- a call of a def that may raise, where it doesn't -/
theorem passF {P : Program} {w : World} {X : Cx} : Passes (CXE P w) X (fun _ _ _ => False) := by
  intro pins σ H s e s' I h
  obtain ⟨_, _, _, _, _, _, _, _, _, _, _, _, _, q⟩ := h
  exact q.elim
theorem u1 {A : Around} (h : A.units + 64 < cLine) : A.units + 1 < cLine := by omega
theorem fn_none {P : Program} {w : World} {K : PySem.W.Frag} {mg : Str → Option Value} {base : Heap} {CX : CXT} {k : Nat} {f : Addr} {fd : FuncData} {ps : List Str} {sp : Sp} (h : ∀ vs H Q E, ¬ sp vs H Q E) : FnOk P w K mg base CX k f fd ps sp :=
  ⟨fun vs H Q E z => (h vs H Q E z).elim, fun A outer s H args us vs Q E hr e0 hb r z => (h vs H Q E z).elim⟩
end L2

set_option Elab.async false
set_option linter.all false
set_option maxRecDepth 100000
namespace L2
open PySem PySem.Spec PyProof.Rows
/-- isinstance of an exception, within an except: said of the program's K -/
theorem call_isxH {X : Cx} {K : PySem.W.Frag} (hK : X.K = K) : CallR X (.builtin "isinstance") (fun xs H Q => ∃ a C D b, xs = [.ref a, .ref D] ∧ H a = some (xO a C) ∧ PySem.W.ExcK K C ∧ PySem.W.kitOne K (.ref C) (.ref D) = some b ∧ Q (.bl b) H) := by
  subst hK
  exact call_isx
theorem call_isxTH {X : Cx} {K : PySem.W.Frag} (hK : X.K = K) : CallR X (.builtin "isinstance") (fun xs H Q => ∃ a C T b, xs = [.ref a, .ty T] ∧ H a = some (xO a C) ∧ PySem.W.ExcK K C ∧ PySem.W.kitOne K (.ref C) (.type T) = some b ∧ Q (.bl b) H) := by
  subst hK
  exact call_isxT
end L2

set_option Elab.async false
set_option linter.all false
set_option maxRecDepth 100000
namespace L2
open PySem PySem.Spec PyProof.Rows
section
variable {X : Cx}
/-- // by a positive divisor of up to 61 figures -/
theorem op_fdivB : OpR X (binaryOp .FloorDiv) (rI (fun _ j => 0 < j ∧ j < 10000000000000000000000000000000000000000000000000000000000000) fun i j => .int (i / j)) := opI fun i j _ _ _ _ _ hc q => by
  have h1 : (0 : Int) < j := hc.1
  have h2 : j < 10000000000000000000000000000000000000000000000000000000000000 := hc.2
  refine floordiv_int (by omega) (by rw [Int.fdiv_eq_ediv_of_nonneg i (by omega)]; exact q) (.inl (PyProof.noPylong_of_log2 ?_))
  have h3 : j.natAbs < 2 ^ 9000 := Nat.lt_of_lt_of_le (show j.natAbs < 10000000000000000000000000000000000000000000000000000000000000 by omega) (by decide +kernel)
  exact (Nat.log2_lt (by omega)).mpr h3
end
/-! ### the figures of a number -/
open PySem.NumText
noncomputable def dg (m : Nat) : List Nat := (Nat.toDigits 10 m).map Char.toNat
/-- the signs of a number's text -/
noncomputable def strI (n : Int) : List Nat := if n < 0 then 45 :: dg n.natAbs else dg n.natAbs
theorem str_int (n : Int) : (Str.ofString (toString n)).cps.toList = strI n := by
  rw [signs_ofString]
  cases n with
  | ofNat m =>
    have : ¬ (Int.ofNat m < 0) := by simp
    unfold strI
    rw [if_neg this]
    show (Nat.repr m).toList.map Char.toNat = _
    rw [Nat.toList_repr]
    rfl
  | negSucc m =>
    have : Int.negSucc m < 0 := Int.negSucc_lt_zero m
    unfold strI
    rw [if_pos this]
    show ("-" ++ Nat.repr (m + 1)).toList.map Char.toNat = _
    rw [String.toList_append, List.map_append, Nat.toList_repr]
    rfl
/-! ### signs of a text -/
end L2

set_option Elab.async false
set_option linter.all false
set_option maxRecDepth 100000
namespace L2
open PySem PySem.Spec PyProof.Rows
section
variable {X : Cx} {pins : List (Addr × Obj)} {σ : St} {H : Hp} {s : Shared} {h' : Heap}
/-- some untracked records of ours have turned, and one new thing is tracked -/
theorem Inv.turnedT {t' : Nat} {wr : List Addr} {T : Addr} {o : HO} (I : Inv X pins σ H s) (k : ∀ b u, b ∉ wr → s.heap.get? b = some u → h'.get? b = some u) (f : ∀ b ∈ wr, FpOk X pins H b)
    (hT : s.heap.objs.size ≤ T) (new : ObjOk X.prog X.w (upd H T o) h' T o) : Inv X pins σ (upd H T o) { s with heap := h', toks := t' } := by
  have nT : ∀ b u, s.heap.get? b = some u → b ≠ T := fun b u e z => absurd (Nat.lt_of_lt_of_le (Heap.lt_size e) (z ▸ hT)) (Nat.lt_irrefl _)
  have nH : ∀ b u, H b = some u → b ≠ T := fun b u e z => absurd (Nat.lt_of_lt_of_le (I.hok.lt e) (z ▸ hT)) (Nat.lt_irrefl _)
  have nw : ∀ b u, H b = some u → b ∉ wr := fun b u e z => by rw [(f b z).1] at e; cases e
  refine I.step (g' := s.gens) (d' := s.drawn) (ch := wr) (fun b hb => ?_) (fun b u _ _ hc e _ => k b u hc e) (fun b u _ _ hc e _ => ⟨u.slots, k b u hc e⟩) (fun b u _ e n => by rw [upd_ne (nT b u e)]; exact n)
    (fun b u hc e => ⟨u, k b u hc e⟩) (fun b xs e => by rw [upd_ne (nH b _ e)]; exact e) (fun b u v e => by rw [upd_ne (nH b _ e)]; exact e) (fun b ps e => ⟨#[], by rw [upd_ne (nH b _ e), e]; simp⟩) (fun m hm => ?_) (fun b u e => ?_) I.bare
  · obtain ⟨f0, f1, f2, f3, f4, f5⟩ := f b hb
    exact ⟨f3, f1, f4, f5⟩
  · obtain ⟨u, es, ep, ho, r⟩ := hm
    exact ⟨u, es, ep, k _ u (fun z => (f _ z).2.1 rfl) ho, r⟩
  · by_cases hb : b = T
    · subst hb
      rw [upd_same] at e
      cases e
      exact new
    · rw [upd_ne hb] at e
      refine (I.hok b u e).stay (fun c v hc q => k c v ?_ q) (fun c q => ?_) fun c xs q => by rw [upd_ne (nH c _ q)]; exact q
      · rcases hc with z | z
        · rw [z]; exact nw b u e
        · exact nw c _ z
      · rw [upd_ne (nH c _ q)]; exact q
/-- .. and nothing new -/
theorem Inv.turnedL {t' : Nat} {wr : List Addr} (I : Inv X pins σ H s) (k : ∀ b u, b ∉ wr → s.heap.get? b = some u → h'.get? b = some u) (f : ∀ b ∈ wr, FpOk X pins H b) : Inv X pins σ H { s with heap := h', toks := t' } := by
  have nw : ∀ b u, H b = some u → b ∉ wr := fun b u e z => by rw [(f b z).1] at e; cases e
  refine I.step (g' := s.gens) (d' := s.drawn) (ch := wr) (fun b hb => ?_) (fun b u _ _ hc e _ => k b u hc e) (fun b u _ _ hc e _ => ⟨u.slots, k b u hc e⟩) (fun _ _ _ _ n => n)
    (fun b u hc e => ⟨u, k b u hc e⟩) (fun _ _ e => e) (fun _ _ _ e => e) (fun b ps e => ⟨#[], by rw [e]; simp⟩) (fun m hm => ?_) (fun b u e => ?_) I.bare
  · obtain ⟨f0, f1, f2, f3, f4, f5⟩ := f b hb
    exact ⟨f3, f1, f4, f5⟩
  · obtain ⟨u, es, ep, ho, r⟩ := hm
    exact ⟨u, es, ep, k _ u (fun z => (f _ z).2.1 rfl) ho, r⟩
  · refine (I.hok b u e).stay (fun c v hc q => k c v ?_ q) (fun _ q => q) fun _ _ q => q
    rcases hc with z | z
    · rw [z]; exact nw b u e
    · exact nw c _ z
end
/-- two lists walked side by side: each turn lays a new pair -/
noncomputable def Itz (K : PySem.W.Frag) (a b : Addr) : It :=
  ⟨fun i H => ∃ xs ys x y, SqL K H a xs ∧ SqL K H b ys ∧ xs[i]? = some x ∧ ys[i]? = some y,
   fun i H v H' => ∃ T x y, v = .ref T ∧ H T = none ∧ H' = upd H T (.tup [x, y]) ∧ (∀ xs, SqL K H a xs → xs[i]? = some x) ∧ (∀ ys, SqL K H b ys → ys[i]? = some y),
   fun i H => ∃ xs ys, SqL K H a xs ∧ SqL K H b ys ∧ min xs.length ys.length = i⟩
noncomputable def zipTn (z TI TO i1 i2 l1 l2 : Addr) (i : Nat) (h : Heap) : Prop := IsZip h z TI TO .none ∧ IsPair h TI (.ref i1) (.ref i2) ∧ (∃ a b, IsPair h TO a b) ∧ h.IsListIter i1 l1 i ∧ h.IsListIter i2 l2 i
theorem turn_zip {P : Program} {w : World} {K : PySem.W.Frag} {elts : List Expr} {k : Nat} {pos : Pos} (z TI TO i1 i2 l1 l2 : Addr) (D : ZipApart z TI TO i1 i2 l1 l2) :
    Turn P w K (.Tuple elts k pos) (Itz K l1 l2) [z, TI, TO, i1, i2] z (zipTn z TI TO i1 i2 l1 l2) where
  mem := by simp
  obj := fun i h st b hb => by
    obtain ⟨hz, hTI, ⟨a, c, hTO⟩, ⟨o1, e1, c1, d1⟩, ⟨o2, e2, c2, d2⟩⟩ := st
    simp only [List.mem_cons, List.not_mem_nil, or_false] at hb
    rcases hb with rfl | rfl | rfl | rfl | rfl
    · exact ⟨_, hz, fun v q => by cases q⟩
    · exact ⟨_, hTI, fun v q => by cases q⟩
    · exact ⟨_, hTO, fun v q => by cases q⟩
    · exact ⟨o1, e1, fun v q => by rw [d1] at q; cases q⟩
    · exact ⟨o2, e2, fun v q => by rw [d2] at q; cases q⟩
  keep := fun i h h' st kk => by
    obtain ⟨hz, hTI, ⟨a, c, hTO⟩, h1, h2⟩ := st
    exact ⟨kk z (by simp) _ hz, kk TI (by simp) _ hTI, ⟨a, c, kk TO (by simp) _ hTO⟩, h1.at fun o e => kk i1 (by simp) o e, h2.at fun o e => kk i2 (by simp) o e⟩
  item := by
    intro X hP hw hK hc i pins s σ H E I hf st hg
    subst hP hw hK
    obtain ⟨xs, ys, x, y, hx, hy, ex, ey⟩ := hg
    obtain ⟨its, rv, p, hz⟩ := I.list hx
    obtain ⟨its2, rv2, p2, hz2⟩ := I.list hy
    obtain ⟨s1, s2, s3, s4, s5⟩ := st
    have W := WalksT.zip2 (prog := X.prog) (w := X.w) (I.ok.hd hc) z TI TO i1 i2 l1 l2 D its.toArray its2.toArray
    have li : i < xs.length := (List.getElem?_eq_some_iff.mp ex).1
    have li2 : i < ys.length := (List.getElem?_eq_some_iff.mp ey).1
    have el := rv.length
    have el2 := rv2.length
    have wsub : ∀ b ∈ [z, TO, i1, i2], b ∈ [z, TI, TO, i1, i2] := fun b hb => by
      simp only [List.mem_cons, List.not_mem_nil, or_false] at hb ⊢
      rcases hb with rfl | rfl | rfl | rfl <;> simp
    refine W.item i s _ _ (by simp only [List.size_toArray]; omega) ⟨s1, s2, s3, s4, s5, p.isList, p2.isList⟩ fun T vals h' tk hv hT hTup hm hk => ?_
    obtain ⟨u, v, eu, ev, rfl⟩ := hv
    obtain ⟨u', eu', ru⟩ := rv.get ex
    obtain ⟨v', ev', rv'⟩ := rv2.get ey
    have e1 : u = u' := by
      have : its[i]? = some u := by simpa using eu
      rw [eu'] at this
      exact (Option.some.inj this).symm
    have e2 : v = v' := by
      have : its2[i]? = some v := by simpa using ev
      rw [ev'] at this
      exact (Option.some.inj this).symm
    subst e1 e2
    have hTn : H T = none := I.hok.fresh hT
    have I1 : Inv X pins σ (upd H T (.tup [x, y])) { s with heap := h', toks := tk } := I.turnedT hk (fun b hb => hf b (wsub b hb)) hT ⟨by show 2 ≤ sizeLine; decide, [u, v], .cons ru (.cons rv' .nil), hTup⟩
    have ap := W.apart i T h' hm
    have f1 : ∀ b ∈ [z, TO, i1, i2], FpOk X pins (upd H T (.tup [x, y])) b := fun b hb => by
      obtain ⟨f0, f1⟩ := hf b (wsub b hb)
      exact ⟨by rw [upd_ne (fun e : b = T => ap (by rw [← e]; exact hb))]; exact f0, f1⟩
    refine ⟨_, rfl, W.go elts k pos i T _ _ _ hm fun h'' st2 hk2 => ?_⟩
    obtain ⟨t1, t2, t3, t4, t5, _, _⟩ := st2
    refine ⟨.ref T, _, Inv.turnedL (s := { s with heap := h', toks := tk }) (t' := tk) I1 hk2 f1, rfl, ⟨T, x, y, rfl, hTn, rfl, fun zs q => by rw [I.list_inj q hx]; exact ex, fun zs q => by rw [I.list_inj q hy]; exact ey⟩, ⟨t1, t2, t3, t4, t5⟩, fun b hb => ?_⟩
    have fb := (hf b hb).1
    by_cases e : b = T
    · subst e
      have lti : s.heap.objs.size > TI := Heap.lt_size s2
      simp only [List.mem_cons, List.not_mem_nil, or_false] at hb
      rcases hb with rfl | rfl | rfl | rfl | rfl
      · exact absurd (by simp) ap
      · exact absurd lti (Nat.not_lt.mpr hT)
      · exact absurd (by simp) ap
      · exact absurd (by simp) ap
      · exact absurd (by simp) ap
    · rw [upd_ne e]; exact fb
  done := by
    intro X hP hw hK hc i pins s σ H E I hf st hg
    subst hP hw hK
    obtain ⟨xs, ys, hx, hy, hi⟩ := hg
    obtain ⟨its, rv, p, hz⟩ := I.list hx
    obtain ⟨its2, rv2, p2, hz2⟩ := I.list hy
    obtain ⟨s1, s2, s3, s4, s5⟩ := st
    have W := WalksT.zip2 (prog := X.prog) (w := X.w) (I.ok.hd hc) z TI TO i1 i2 l1 l2 D its.toArray its2.toArray
    have el := rv.length
    have el2 := rv2.length
    have en : min its.toArray.size its2.toArray.size = i := by simp only [List.size_toArray]; omega
    have wsub : ∀ b ∈ [z, TO, i1, i2], b ∈ [z, TI, TO, i1, i2] := fun b hb => by
      simp only [List.mem_cons, List.not_mem_nil, or_false] at hb ⊢
      rcases hb with rfl | rfl | rfl | rfl <;> simp
    refine W.done s _ _ ?_ fun h' tk hk => ⟨rfl, I.turnedL hk fun b hb => hf b (wsub b hb)⟩
    rw [en]
    exact ⟨s1, s2, s3, s4, s5, p.isList, p2.isList⟩
  self := fun _ _ _ _ _ st h => wpAny_pyIter_zip st.1 h
section
variable {X : Cx} {elts : List Expr} {k : Nat} {tpos : Pos}
noncomputable def iZip (K : PySem.W.Frag) (ta : TA) : TI := fun σ H R => ta σ H fun vs H1 => ∃ a b, vs = [.ref a, .ref b] ∧ (∃ xs, SqL K H1 a xs) ∧ (∃ ys, SqL K H1 b ys) ∧ R (Itz K a b) H1
theorem pi_zip {a b : Expr} {ta : TA} {p pos : Pos} (hg : Gl X "zip") (hm : X.mg "zip" = none) (ha : PA X [a, b] ta) (hs : starEach [a, b] X.env = [(false, eval a X.env), (false, eval b X.env)] := by rfl) (hs2 : starEach [b] X.env = [(false, eval b X.env)] := by rfl) :
    PI X (.Tuple elts k tpos) (.Call (.Name "zip" p) [a, b] [] pos) (iZip X.K ta) := by
  intro pins s σ H R I h
  refine Call_ (ld_blt I hg hm boot_zip (PyProof.Rows.callWith_type1 (thn (ha pos pins s σ H _ I h) fun us s1 ⟨vs, H1, I1, r1, q1⟩ => ?_) (by rw [hs, hs2]) (by rw [hs2]; rfl)))
  obtain ⟨l1, l2, e, ⟨xs, hx⟩, ⟨ys, hy⟩, q⟩ := q1
  subst e
  obtain ⟨u, v, rfl, ru, rv⟩ := r1.two
  cases ru
  cases rv
  obtain ⟨its, rr, pl, hz⟩ := I1.list hx
  obtain ⟨its2, rr2, pl2, hz2⟩ := I1.list hy
  have lt1 : l1 < s1.heap.objs.size := by obtain ⟨o, e, _⟩ := pl.isList; exact Heap.lt_size e
  have lt2 : l2 < s1.heap.objs.size := by obtain ⟨o, e, _⟩ := pl2.isList; exact Heap.lt_size e
  refine call_zip_2 pl.isList pl2.isList fun h' z1 z2 z3 z4 z5 zs kk => ?_
  have I2 : Inv X pins σ H1 { s1 with heap := h' } := I1.kept (t' := s1.toks) kk
  refine wpAny_pyIter_zip z1 ?_
  refine ⟨_, _, _, _, H1, rfl, I2, turn_zip _ _ _ _ _ l1 l2 ?_, ⟨z1, z2, ⟨_, _, z3⟩, z4, z5⟩, fun b hb => ?_, q⟩
  · have lt1' : s1.heap.objs.size > l1 := lt1
    have lt2' : s1.heap.objs.size > l2 := lt2
    constructor <;> (show ¬ (@Eq Nat _ _)) <;> omega
  · have : s1.heap.objs.size ≤ b := by
      simp only [List.mem_cons, List.not_mem_nil, or_false] at hb
      rcases hb with rfl | rfl | rfl | rfl | rfl <;> omega
    exact I1.fpOk this (I1.hok.fresh this)
end
/-- a comprehension over two lists -/
theorem comp_zip {K : PySem.W.Frag} {a b l : Addr} {xs ys : List V} {g : TG} {tb : List V → Addr → St → Hp → (List V → St → Hp → Prop) → Prop} {Q : VK} {σ0 : St} {H0 : Hp} (Pv : Nat → List V → St → Hp → Prop) (h0 : Pv 0 [] σ0 H0)
    (hla : ∀ i us σ H, Pv i us σ H → SqL K H a xs ∧ SqL K H b ys)
    (hs : ∀ i x y T us σ H (N : List V → St → Hp → Prop), xs[i]? = some x → ys[i]? = some y → H T = none → Pv i us σ H → (∀ us' σ' H', Pv (i + 1) us' σ' H' → N us' σ' H') → g (.ref T) σ (upd H T (.tup [x, y])) fun σ2 H2 => tb us l σ2 H2 N)
    (hd : ∀ us σ H, Pv (min xs.length ys.length) us σ H → Q (.ref l) H) :
    ∃ W : Nat → Nat → List V → St → Hp → Prop, (∃ m, W 0 m [] σ0 H0) ∧ ∀ i m us σ' H', W i m us σ' H' → ((Itz K a b).stop i H' ∧ Q (.ref l) H') ∨
      ((Itz K a b).go i H' ∧ ∀ x H'', (Itz K a b).yld i H' x H'' → g x σ' H'' fun σ2 H2 => tb us l σ2 H2 fun us' σ3 H3 => ∃ m', m' < m ∧ W (i + 1) m' us' σ3 H3) := by
  refine ⟨fun i m us σ H => m = min xs.length ys.length - i ∧ i ≤ min xs.length ys.length ∧ Pv i us σ H, ⟨_, rfl, Nat.zero_le _, h0⟩, ?_⟩
  rintro i m us σ H ⟨rfl, hi, p⟩
  obtain ⟨sa, sb⟩ := hla i us σ H p
  by_cases hlt : i < min xs.length ys.length
  · obtain ⟨x, ex⟩ : ∃ x, xs[i]? = some x := ⟨_, List.getElem?_eq_getElem (by omega)⟩
    obtain ⟨y, ey⟩ : ∃ y, ys[i]? = some y := ⟨_, List.getElem?_eq_getElem (by omega)⟩
    refine .inr ⟨⟨xs, ys, x, y, sa, sb, ex, ey⟩, fun v H' q => ?_⟩
    obtain ⟨T, x', y', rfl, hT, rfl, q1, q2⟩ := q
    have e1 := q1 xs sa
    have e2 := q2 ys sb
    exact hs i x' y' T us σ H _ e1 e2 hT p fun us' σ' H' w => ⟨_, by omega, rfl, hlt, w⟩
  · have e : i = min xs.length ys.length := by omega
    subst e
    exact .inl ⟨⟨xs, ys, sa, sb, rfl⟩, hd us σ H p⟩
end L2

set_option Elab.async false
set_option linter.all false
set_option maxRecDepth 100000
namespace L2
open PySem PySem.Spec PyProof.Rows
/-! ### a set out of a tuple of ints and texts -/
/-- the keys met so far, each once -/
noncomputable def met : List Key → List Key
  | [] => []
  | k :: r => if r.any (fun j => decide (j = k)) then met r else k :: met r
theorem met_any (k : Key) : ∀ l : List Key, (met l).any (fun j => decide (j = k)) = l.any (fun j => decide (j = k))
  | [] => rfl
  | a :: r => by
    unfold met
    split
    · rename_i h
      rw [met_any k r, List.any_cons]
      by_cases e : a = k
      · subst e; rw [h]; simp
      · simp [e]
    · rw [List.any_cons, List.any_cons, met_any k r]
theorem met_le : ∀ l : List Key, (met l).length ≤ l.length
  | [] => Nat.le_refl _
  | a :: r => by
    unfold met
    have := met_le r
    split
    · rw [List.length_cons]; omega
    · rw [List.length_cons, List.length_cons]; omega
theorem met_all : ∀ {l : List Key}, l.Nodup → (met l).length = l.length
  | [], _ => rfl
  | a :: r, h => by
    obtain ⟨h1, h2⟩ := List.nodup_cons.mp h
    unfold met
    rw [if_neg, List.length_cons, List.length_cons, met_all h2]
    intro z
    obtain ⟨b, hb, e⟩ := List.any_eq_true.mp z
    exact h1 (of_decide_eq_true e ▸ hb)
/-- the last i of a row, told from behind: what the walk has met -/
noncomputable abbrev seen (ks : List Key) (i : Nat) : List Key := met (ks.take i).reverse
theorem seen_next {ks : List Key} {i : Nat} {k : Key} (h : ks[i]? = some k) : seen ks (i + 1) = if (seen ks i).any (fun j => decide (j = k)) then seen ks i else k :: seen ks i := by
  have e : (ks.take (i + 1)).reverse = k :: (ks.take i).reverse := by rw [List.take_add_one, h]; simp
  show met (ks.take (i + 1)).reverse = _
  rw [e]
  show (if (ks.take i).reverse.any (fun j => decide (j = k)) then met (ks.take i).reverse else k :: met (ks.take i).reverse) = _
  rw [← met_any k (ks.take i).reverse]
theorem seen_le (ks : List Key) (i : Nat) : (seen ks i).length ≤ i := by
  have h := met_le (ks.take i).reverse
  rw [List.length_reverse, List.length_take] at h
  show (met (ks.take i).reverse).length ≤ i
  omega
section
variable {P : Program} {w : World} {A : Around} {R : Result → Shared → Prop} {it : Addr} {fp wr : List Addr} {G : Array GenState → Array GenState → Prop} {n : Nat} {Pt : Nat → Value → Prop} {St : Nat → Shared → Prop}
noncomputable abbrev SetK (P : Program) (w : World) (h : Heap) (a : Addr) (l : List Key) : Prop := h.SetOf (mixKind P w) a (fun k => l.any fun j => decide (j = k)) l.length
theorem SetK.kept {h h' : Heap} {a : Addr} {l : List Key} (x : SetK P w h a l) (k : ∀ o, h.get? a = some o → h'.get? a = some o) : SetK P w h' a l := by
  obtain ⟨o, es, ep, tb, ho, rest⟩ := x
  exact ⟨o, es, ep, tb, k o ho, rest⟩
theorem setOf_eq {h : Heap} {a : Addr} {S S' : Key → Bool} {n n' : Nat} (x : h.SetOf (mixKind P w) a S n) (e : ∀ k, S k = S' k) (en : n = n') : h.SetOf (mixKind P w) a S' n' := by
  cases en
  cases (funext e : S = S')
  exact x
/-- the loop that puts what a walk yields into the set at S -/
theorem set_loop (W : WalksS P w A.in1 it fp wr G n Pt St) (S : Addr) (hS0 : S ∉ fp) (ks : List Key) (hks : ks.length = n) (hv : ∀ i v, Pt i v → ∃ k, ks[i]? = some k ∧ (mixKind P w).is k v = true ∧ v.scannable = true) (hn : n + 1 < scanBound) :
    ∀ (d i : Nat) (s : Shared), n - i = d → i ≤ n → St i s → SetK P w s.heap S (seen ks i) →
      (∀ s', Moved (S :: wr) G s s' → SetK P w s'.heap S (seen ks n) → R (.ok (.ret .none)) s') → codeAny (model P w) A (.builtin "set.update.loop" ⟨[.ref S, .ref it], []⟩) R s := by
  have nw : S ∉ wr := fun z => hS0 (W.sub _ z)
  have up : ∀ b ∈ wr, b ∈ S :: wr := fun b z => List.mem_cons_of_mem _ z
  intro d
  induction d with
  | zero =>
    intro i s e1 e2 st hS hR
    obtain rfl : i = n := by omega
    refine codeAny_builtin PyProof.Rows.F.entry_set_update_loop (by
      rw [Around.under_plainId PyProof.Rows.F.plain_set_update_loop _]
      show wpAny _ A.in1 (pyNext (.ref it) >>= _) _ _ s
      refine wpAny_bind (W.done s _ _ st fun s' mv => ?_)
      exact wpAny_pure (hR s' (mv.mono up) (hS.kept fun o q => mv.heap S o nw q)))
  | succ d ih =>
    intro i s e1 e2 st hS hR
    have lt : i < n := by omega
    refine codeAny_builtin PyProof.Rows.F.entry_set_update_loop (by
      rw [Around.under_plainId PyProof.Rows.F.plain_set_update_loop _]
      show wpAny _ A.in1 (pyNext (.ref it) >>= _) _ _ s
      refine wpAny_bind (W.item i s _ _ lt st fun v s' pv st' mv => ?_)
      obtain ⟨k, ek, kv, sc⟩ := hv i v pv
      have hS' := hS.kept (h' := s'.heap) fun o q => mv.heap S o nw q
      show wpAny _ A.in1 (holding [v] (setAdd S v) >>= _) _ _ s'
      refine wpAny_bind (wpAny_holding (by
        unfold setAdd
        refine wpAny_holding (wpAny_bind ((mixKind P w).pyHash kv ?_))
        have room : (seen ks i).length + 1 < scanBound := by have := seen_le ks i; omega
        refine wpAny_setAddHashed_of (knd := mixKind P w) (s := { s' with toks := s'.toks + 1 }) kv sc hS' room fun h2 sb hS2 => ?_
        have hS3 : SetK P w h2 S (seen ks (i + 1)) := by
          refine setOf_eq hS2 (fun j => ?_) ?_
          · rw [seen_next ek]
            split
            · rename_i c
              by_cases z : j = k
              · subst z; rw [c]; simp
              · simp [z]
            · rw [List.any_cons, Bool.or_comm]
              congr 1
              exact decide_eq_decide.mpr eq_comm
          · rw [seen_next ek]
            split <;> rfl
        refine wpAny_pure ⟨plainId_quiet PyProof.Rows.F.plain_set_update_loop _, ih (i + 1) _ (by omega) lt (W.frame _ s' _ _ st' (Nat.le_succ _) fun b hb o q => ?_) hS3 fun s3 mv3 hS4 => ?_⟩
        · rw [sb.2 b (fun z : b = S => hS0 (by rw [← z]; exact hb))]; exact q
        · refine hR s3 (Moved.trans W.gtrans ((mv.mono up).then_heap (Nat.le_succ _) fun b o hb q => ?_) mv3) hS4
          rw [sb.2 b (fun z : b = S => hb (by rw [z]; exact List.mem_cons_self))]; exact q)))
theorem sub_tuple_set : isSubtype (.type "tuple") (.type "set") = pure false := nsub _ _
theorem sub_tuple_frozenset : isSubtype (.type "tuple") (.type "frozenset") = pure false := nsub _ _
end
section
variable {P : Program} {w : World} {A : Around} {E : Value → Shared → Prop} {s : Shared}
noncomputable def setN (b : Bool) : Obj := { cls := .type "set", dict := none, data := .set #[] 0 (.fresh 0 0 b) }
set_option maxHeartbeats 3200000 in
/-- set(t) of a tuple t -/
theorem set_of_tuple {t : Addr} {its : Array Value} {ks : List Key} {Q : Value → Shared → Prop} (hh : A.handled = none) (ht : s.heap.IsTuple t its) (hl : ks.length = its.size) (hv : ∀ (i : Nat) v, its[i]? = some v → ∃ k, ks[i]? = some k ∧ (mixKind P w).is k v = true ∧ v.scannable = true)
    (hn : its.size + 1 < scanBound) (h : ∀ (h' : Heap) (tk : Nat), SetK P w h' s.heap.objs.size (seen ks its.size) → (∀ b o, s.heap.get? b = some o → h'.get? b = some o) → Q (.ref s.heap.objs.size) { s with heap := h', toks := tk }) :
    wpAny (model P w) A (call (.type "set") [.ref t]) Q E s := by
  obtain ⟨c0, tl, hmro⟩ := PySem.F.called_set.mro
  have k1 := PySem.F.called_set.made
  have k2 := PySem.F.called_set.sub
  refine wpAny_call (codeAny_of_tree (by
    show wpAny _ _ (callAny (.type "set") _) _ _ _
    refine wpAny_pure ⟨Code.quiet_builtin _ (by decide +kernel), codeAny_builtin PySem.F.entry_type_call ?_⟩
    rw [Around.under_plain (weight_type_call_type "set" [.ref t] []) rfl]
    have k3 := PySem.F.called_set.notType
    have k4 := PySem.F.called_set.canCreate
    have k5 := PySem.F.typeCall_set_1 (.ref t)
    repeat (any_goals (first | assumption | wp_step))
    refine codeAny_mono (code_set_new_1 (.ref t) (E := E) (Q₁ := fun ob s1 => ∃ b : Bool, ob = .ref s.heap.objs.size ∧ s1 = { s with heap := s.heap.push (setN b) }) fun b => ⟨b, rfl, rfl⟩) fun r s1 hr => ?_
    cases r with
    | error e => exact hr
    | ok fl =>
      cases fl with
      | ret ob =>
        obtain ⟨b, rfl, rfl⟩ := hr
        have g1 : (s.heap.push (setN b)).get? s.heap.objs.size = some (setN b) := Heap.get?_push_size _ rfl
        have tS : Shared.TypeIs { s with heap := s.heap.push (setN b) } (.ref s.heap.objs.size) "set" := ⟨_, g1, rfl⟩
        have k6 := PySem.F.called_set.init.lookup
        have k7 := PySem.F.called_set.init.bind (.ref s.heap.objs.size)
        repeat (any_goals (first | assumption | wp_step))
        refine codeAny_mono (codeAny_call_builtin (R := wants (fun r s2 => r = .none ∧ ∃ h' tk, s2 = { s with heap := h', toks := tk } ∧ SetK P w h' s.heap.objs.size (seen ks its.size) ∧ (∀ b o, s.heap.get? b = some o → h'.get? b = some o)) E)
          PySem.F.called_set.init.plain PySem.F.entry_set_init (check_set_init_1 tS ?_)) fun r2 s2 hr2 => ?_
        · obtain ⟨⟨oc, od, oa, osl⟩, ho, hcl, nl, hdt⟩ := id ht
          simp only at hcl hdt
          subst hcl hdt
          have ht1 : (s.heap.push (setN b)).IsTuple t its := ⟨_, Heap.get?_push_of_some _ ho, rfl, nl, rfl⟩
          have ho1 : (s.heap.push (setN b)).get? t = some { cls := .type "tuple", dict := od, data := .seq its nl, slots := osl } := Heap.get?_push_of_some _ ho
          have k8 := sub_tuple_set
          have k9 := sub_tuple_frozenset
          have ka : (Value.type "tuple" == Value.type "dict") = false := by decide
          unfold Builtin.«set.__init__» noKeywords Builtin.Frozenset.updateFrom
          generalize hPI : pyIter = PI
          wp_walk
          subst hPI
          refine wpAny_pyIter_tuple ht1 ?_
          refine wpAny_bind (wpAny_runValue ?_)
          have lt : s.heap.objs.size > t := Heap.lt_size ho
          have hh3 : A.in1.in1.in1.handled = none := by simp [hh]
          have sz : (s.heap.push (setN b)).objs.size = s.heap.objs.size + 1 := Heap.size_push ..
          have ne1 : t ≠ (s.heap.push (setN b)).objs.size := by rw [sz]; exact Nat.ne_of_lt (Nat.lt_succ_of_lt lt)
          have nS : s.heap.objs.size ∉ [(s.heap.push (setN b)).objs.size, t] := by
            rw [sz]
            intro z
            rcases List.mem_cons.mp z with z | z
            · exact absurd z (Nat.ne_of_lt (Nat.lt_succ_self _))
            · exact absurd (List.mem_singleton.mp z) (Nat.ne_of_gt lt)
          refine set_loop ((Walks.tuple hh3 _ t ne1 its).toS) s.heap.objs.size nS ks hl hv hn (its.size - 0) 0 _ rfl (Nat.zero_le _) ⟨⟨_, Heap.get?_push_size _ rfl, rfl, rfl⟩, ht1.push _⟩ ?_ ?_
          · exact ⟨_, #[], 0, _, Heap.get?_push_of_some _ g1, ⟨rfl, rfl, rfl⟩, rfl, (fun e he => by simp at he), (fun k => ⟨fun z => Bool.noConfusion (show false = true from z), fun ⟨e, he, _⟩ => (List.not_mem_nil he).elim⟩), by decide, rfl, rfl⟩
          · intro s3 mv hS3
            obtain ⟨h3, g3, d3, t3, o3⟩ := s3
            cases (mv.gens : g3 = s.gens)
            cases (mv.drawn : d3 = s.drawn)
            cases (mv.os : o3 = s.os)
            refine wpAny_pure (wpAny_pure ⟨rfl, h3, t3, rfl, hS3, fun c o q => ?_⟩)
            have lc : s.heap.objs.size > c := Heap.lt_size q
            refine mv.heap c o ?_ (Heap.get?_push_of_some _ (Heap.get?_push_of_some _ q))
            intro z
            rcases List.mem_cons.mp z with z | z
            · exact absurd z (Nat.ne_of_lt lc)
            · exact absurd ((List.mem_singleton.mp z).trans sz) (Nat.ne_of_lt (Nat.lt_succ_of_lt lc))
        · cases r2 with
          | error e => exact hr2
          | ok fl2 =>
            cases fl2 with
            | ret r =>
              obtain ⟨rfl, h', tk, rfl, q1, q2⟩ := hr2
              repeat (any_goals (first | assumption | wp_step))
              exact h _ _ q1 q2
            | _ => exact hr2.elim
      | _ => exact hr.elim))
end
end L2

set_option Elab.async false
set_option linter.all false
set_option maxRecDepth 100000
namespace L2
open PySem PySem.Spec PyProof.Rows
/-- a set of n ints and texts -/
noncomputable def setO (P : Program) (w : World) (p : Addr) (n : Nat) : HO := .ext fun h => ∃ l, SetK P w h p l ∧ l.length = n
section
variable {X : Cx}
theorem kV_scan {k : Key} {u : Value} (r : RelV (kV k) u) : u.scannable = true := by
  cases k with
  | inl i => obtain ⟨t, rfl⟩ := r; rfl
  | inr z => obtain ⟨t, rfl⟩ := r; rfl
theorem call_setP (hc : X.calm = true) : CallR X (.type "set") (fun xs H Q => ∃ a ks, xs = [.ref a] ∧ SqT X.K H a (ks.map kV) ∧ ks.length ≤ 1000 ∧ ∀ p, H p = none → Q (.ref p) (upd H p (setO X.prog X.w p (seen ks ks.length).length))) := by
  intro pins s σ H xs us Q I r h
  obtain ⟨a, ks, rfl, ha, hl, q⟩ := h
  obtain ⟨u, rfl, rx⟩ := vals1 r
  cases rx
  obtain ⟨its, rv, ht, hz⟩ := I.tuple ha
  have el := rv.length
  rw [List.length_map] at el
  have ez : its.toArray.size = ks.length := by rw [List.size_toArray, el]
  refine set_of_tuple (ks := ks) (I.ok.hd hc) (show s.heap.IsTuple a its.toArray from ht) ez.symm (fun i v e => ?_) (by rw [ez]; unfold scanBound; omega) fun h' tk hS kk => ?_
  · have e' : its[i]? = some v := by simpa using e
    have hi : i < ks.length := by rw [el]; exact (List.getElem?_eq_some_iff.mp e').1
    obtain ⟨v', ev, rk⟩ := rv.get (i := i) (x := kV ks[i]) (by rw [List.getElem?_map, List.getElem?_eq_getElem hi]; rfl)
    rw [e'] at ev
    cases ev
    exact ⟨ks[i], List.getElem?_eq_getElem hi, kV_is rk, kV_scan rk⟩
  · rw [ez] at hS
    refine ⟨.ref s.heap.objs.size, _, I.laid (a := s.heap.objs.size) (o := setO X.prog X.w s.heap.objs.size (seen ks ks.length).length) kk (Nat.le_refl _) ?_, rfl, q _ (I.hok.fresh (Nat.le_refl _))⟩
    obtain ⟨o, _, _, _, ho, _⟩ := id hS
    exact ⟨⟨_, hS, rfl⟩, ⟨o, ho⟩, fun h1 h2 ⟨l, hl, e⟩ k => ⟨l, hl.kept k, e⟩⟩
theorem call_lenS : CallR X (.builtin "len") (fun xs H Q => ∃ p n, xs = [.ref p] ∧ H p = some (setO X.prog X.w p n) ∧ Q (.int n) H) := by
  intro pins s σ H xs us Q I r h
  obtain ⟨p, n, rfl, e, q⟩ := h
  obtain ⟨u, rfl, rx⟩ := vals1 r
  cases rx
  obtain ⟨⟨l, hS, en⟩, _, _⟩ := I.hok p _ e
  obtain ⟨o, es, ep, tb, ho, hex, hd, _, _, hb, hf, hn⟩ := hS
  have e2 : es.size = n := hn.trans en
  have hb' : es.size < 4096 := hb
  exact call_len_set ho hex hd hf (by omega) ⟨.int n, H, I.tok _, ⟨_, by rw [e2]⟩, q⟩
end
end L2

set_option Elab.async false
set_option linter.all false
set_option maxRecDepth 100000
namespace L2
open PySem PySem.Spec PyProof.Rows
/-! ### comprehensions, said so that what comes behind is found -/
section
variable {K : PySem.W.Frag} {a b l : Addr} {xs ys : List V} {g : TG} {tb : List V → Addr → St → Hp → (List V → St → Hp → Prop) → Prop} {R : Hp → Prop} {σ0 : St} {H0 : Hp}
theorem comp_tupR (Pv : Nat → List V → St → Hp → Prop) (h0 : Pv 0 [] σ0 H0) (hl : ∀ i ys σ H, i ≤ xs.length → Pv i ys σ H → SqT K H a xs)
    (hs : ∀ i x ys σ H (N : List V → St → Hp → Prop), xs[i]? = some x → Pv i ys σ H → (∀ ys' σ' H', Pv (i + 1) ys' σ' H' → N ys' σ' H') → g x σ H fun σ2 H2 => tb ys l σ2 H2 N)
    (hd : ∀ ys σ H, Pv xs.length ys σ H → R H) :
    ∃ W : Nat → Nat → List V → St → Hp → Prop, (∃ m, W 0 m [] σ0 H0) ∧ ∀ i m ys σ' H', W i m ys σ' H' → ((Itt K a).stop i H' ∧ R H') ∨
      ((Itt K a).go i H' ∧ ∀ x H'', (Itt K a).yld i H' x H'' → g x σ' H'' fun σ2 H2 => tb ys l σ2 H2 fun ys' σ3 H3 => ∃ m', m' < m ∧ W (i + 1) m' ys' σ3 H3) := comp_tup (Q := fun _ H => R H) Pv h0 hl hs hd
theorem comp_listR (Pv : Nat → List V → St → Hp → Prop) (h0 : Pv 0 [] σ0 H0) (hl : ∀ i ys σ H, i ≤ xs.length → Pv i ys σ H → SqL K H a xs)
    (hs : ∀ i x ys σ H (N : List V → St → Hp → Prop), xs[i]? = some x → Pv i ys σ H → (∀ ys' σ' H', Pv (i + 1) ys' σ' H' → N ys' σ' H') → g x σ H fun σ2 H2 => tb ys l σ2 H2 N)
    (hd : ∀ ys σ H, Pv xs.length ys σ H → R H) :
    ∃ W : Nat → Nat → List V → St → Hp → Prop, (∃ m, W 0 m [] σ0 H0) ∧ ∀ i m ys σ' H', W i m ys σ' H' → ((Itl K a).stop i H' ∧ R H') ∨
      ((Itl K a).go i H' ∧ ∀ x H'', (Itl K a).yld i H' x H'' → g x σ' H'' fun σ2 H2 => tb ys l σ2 H2 fun ys' σ3 H3 => ∃ m', m' < m ∧ W (i + 1) m' ys' σ3 H3) := comp_list (Q := fun _ H => R H) Pv h0 hl hs hd
theorem comp_zipR (Pv : Nat → List V → St → Hp → Prop) (h0 : Pv 0 [] σ0 H0) (hla : ∀ i us σ H, Pv i us σ H → SqL K H a xs ∧ SqL K H b ys)
    (hs : ∀ i x y T us σ H (N : List V → St → Hp → Prop), xs[i]? = some x → ys[i]? = some y → H T = none → Pv i us σ H → (∀ us' σ' H', Pv (i + 1) us' σ' H' → N us' σ' H') → g (.ref T) σ (upd H T (.tup [x, y])) fun σ2 H2 => tb us l σ2 H2 N)
    (hd : ∀ us σ H, Pv (min xs.length ys.length) us σ H → R H) :
    ∃ W : Nat → Nat → List V → St → Hp → Prop, (∃ m, W 0 m [] σ0 H0) ∧ ∀ i m us σ' H', W i m us σ' H' → ((Itz K a b).stop i H' ∧ R H') ∨
      ((Itz K a b).go i H' ∧ ∀ x H'', (Itz K a b).yld i H' x H'' → g x σ' H'' fun σ2 H2 => tb us l σ2 H2 fun us' σ3 H3 => ∃ m', m' < m ∧ W (i + 1) m' us' σ3 H3) := comp_zip (Q := fun _ H => R H) Pv h0 hla hs hd
end
/-- a tuple of names, in a comprehension: said of the program's K -/
theorem pg_tupK {X : Cx} {K : PySem.W.Frag} {es : List Expr} {k : Nat} {pos : Pos} {t : TGs} {n : Nat} (hK : X.K = K) (hc : X.calm = true) (h : PGs X es t)
    (hn : (assignEach es X.env).length = n := by rfl) (hst : (assignEach es X.env).findIdx? (·.1) = none := by rfl) : PG X (.Tuple es k pos) (gTup K n t) := by
  subst hK
  exact pg_tup hc h hn hst
/-- a fresh list l laid on, the rest as it was -/
theorem same_upd {H H1 : Hp} {l : Addr} {o : HO} (hl : H l = none) (g : Same H H1) : Same H (upd H1 l o) := fun b u e => by rw [upd_ne (ne_of_none e hl)]; exact g b u e
end L2

set_option Elab.async false
set_option linter.all false
set_option maxRecDepth 100000
set_option maxHeartbeats 4000000
namespace L2
open PySem PySem.Spec PyProof.Rows
/-! ### a comprehension stored under a local name of the same row: stored ahead of its names' going -/
section
variable {X : Cx}
theorem ps_compG {elt tgt iter : Expr} {ifs : List Expr} {scope : Scope} {pos spos py : Pos} {NL N' : List Str} {ρ : List Nat} {wi : TI} {g : TG} {tb : List V → Addr → St → Hp → (List V → St → Hp → Prop) → Prop} {body : Value → Env → Sem Unit} {j : Nat} {y : Str}
    (hN : X.N.Nodup) (hj : X.N[j]? = some y) (hy : Loc X.env.scope y) (hfn : X.fn y = true ∨ X.env.scope.names.lookup y = some .local)
    (hsw : swapsWith (.ListComp elt [⟨tgt, iter, ifs, 0⟩] scope pos) (some (.Name y py)) spos.line X.env = pure true)
    (hc : X.calm = true) (S : CScope X scope NL ρ N') (hi : PI X tgt iter wi)
    (hg : ∀ C s₀ H₀ fp, PG (ccx X scope C N' s₀ H₀ fp) tgt g) (hb : ∀ C s₀ H₀ fp, PB (ccx X scope C N' s₀ H₀ fp) (fun acc => body acc (ccx X scope C N' s₀ H₀ fp).env) tb)
    (he : ∀ (it acc : Value) (env : Env), compTurn (.ListComp elt [⟨tgt, iter, ifs, 0⟩] scope pos) 0 it acc env = (standAt iter.pos >>= fun _ => pyNext it >>= fun r => match r with
      | none => pure (.done .next)
      | some v => letOwnedTupleGo tgt it v >>= fun _ => assign tgt env v >>= fun _ => body acc env >>= fun _ => again (.compLoop (.ListComp elt [⟨tgt, iter, ifs, 0⟩] scope pos) 0 it acc env)))
    (hs : ∀ x, foldedSetIterable iter X.env x = pure x := by intro _; rfl) : PS X (.Assign [.Name y py] (.ListComp elt [⟨tgt, iter, ifs, 0⟩] scope pos) spos) (tAsg (tComp NL.length ρ wi g tb) (gName j)) := by
  intro pins s σ H D0 I h
  have free_in : ∀ x ∈ scope.names, x.2 = .free → ∃ c, X.env.cells.lookup x.1 = some c := fun x hx hk => I.ok.has x.1 (S.frees x hx hk)
  rw [exec_Assign_Name_used _ _ _ _ hsw]
  refine wpAny_bind (wpAny_standAt (wpAny_bind ?_))
  rw [arm_evalThenUse_ListComp]
  refine wpAny_bind (thn (Q := fun _ s' => SP X pins D0 .next s') ?_ fun _ s' q0 => wpAny_pure (wpAny_pure q0))
  refine wpAny_comprehension_free (use := some (assign (.Name y py) X.env)) (Q := fun _ s' => SP X pins D0 .next s') rfl hs (closure_is free_in) S.kind S.locs ?_
  refine thn (hi pins s σ H _ I h) fun v s1 h1 => thn h1 fun itv s2 h2 => ?_
  obtain ⟨it, fp, tn, J, H2, e, I2, T, st2, f2, w⟩ := h2
  subst e
  refine wpAny_newObj_type (wpAny_newFunctionEnv S.nocell (by intro y hy; simp at hy) (fun h₁ hns₁ hsb₁ => ?_) S.kind)
  dsimp only at hns₁ hsb₁ ⊢
  generalize hH2 : s2.heap.push { cls := .type "list", dict := none, data := .seq ([] : List Value).toArray } = h2' at hns₁ hsb₁ ⊢
  have hCs : h2'.objs.size = s2.heap.objs.size + 1 := by rw [← hH2, Heap.size_push]
  have hDC : s2.heap.objs.size ≠ h2'.objs.size := by rw [hCs]; exact Nat.ne_of_lt (Nat.lt_succ_self _)
  have hC : s2.heap.objs.size ≤ h2'.objs.size := by rw [hCs]; exact Nat.le_succ _
  have old : ∀ b o, s2.heap.get? b = some o → h₁.get? b = some o := fun b o e => hsb₁.extBut b o (Nat.ne_of_lt (Nat.lt_of_lt_of_le (Heap.lt_size e) hC)) (Heap.get?_push_of_some _ (hH2 ▸ Heap.get?_push_of_some _ e))
  have hd : h₁.get? s2.heap.objs.size = some { cls := .type "list", data := .seq #[] 0 } := hsb₁.extBut _ _ hDC (Heap.get?_push_of_some _ (hH2 ▸ Heap.get?_push_size _ rfl))
  have hfo : ∀ b ∈ fp, ∃ o, s2.heap.get? b = some o := fun b hb => let ⟨o, e, _⟩ := T.obj _ _ st2 b hb; ⟨o, e⟩
  have I4 : Inv (ccx X scope h2'.objs.size N' s2 H2 fp) (X.pn ++ pins) (cst NL.length ρ σ) (upd H2 s2.heap.objs.size (.lst [])) { s2 with heap := h₁, toks := s2.toks + ([] : List (Str × Value)).length } :=
    Inv.comp S I2 f2 hfo hC (Nat.le_refl _) hDC old hd (by simpa using hns₁)
  have hD0 : H2 s2.heap.objs.size = none := I2.hok.fresh (Nat.le_refl _)
  have nfp : s2.heap.objs.size ∉ fp := fun z => by
    obtain ⟨o, e⟩ := hfo _ z
    exact absurd (Heap.lt_size e) (Nat.lt_irrefl _)
  obtain ⟨W, ⟨m0, w0⟩, turn⟩ := w s2.heap.objs.size hD0
  -- the iterator's objects
  have stat : ∀ {H' : Hp}, (∀ b ∈ fp, H' b = none) → ∀ b ∈ fp, FpOk (ccx X scope h2'.objs.size N' s2 H2 fp) (X.pn ++ pins) H' b := fun {H'} hn b hb => by
    obtain ⟨f0, f1, f2', f3, f4, f5⟩ := f2 b hb
    have ok := I4.ok
    refine ⟨hn b hb, (ok.exf b hb).1, ok.exfs b hb, .inl hb, (ok.exf b hb).2, fun p hp => f5 p hp⟩
  have loop : ∀ s₃ : Shared, s₃ = { s2 with heap := h₁, toks := s2.toks + ([] : List (Str × Value)).length } →
      codeAny (model X.prog X.w) X.A (.compLoop (.ListComp elt [⟨tgt, iter, ifs, 0⟩] scope pos) 0 (.ref it) (.ref s2.heap.objs.size) (compEnvC scope (cloOf X.env scope.names []) h2'.objs.size X.env))
        (compPost (model X.prog X.w) X.A X.xe (some (assign (.Name y py) X.env)) (fun _ s' => SP X pins D0 .next s') (.ref s2.heap.objs.size) h2'.objs.size) s₃ := by
    rintro s₃ rfl
    refine codeAny_loop rfl (fun n s' => ∃ i ys σ' H', Inv (ccx X scope h2'.objs.size N' s2 H2 fp) (X.pn ++ pins) σ' H' s' ∧ tn i s'.heap ∧ (∀ b ∈ fp, H' b = none) ∧ W i n ys σ' H') (fun n s3 hI => ?_) m0
      ⟨0, [], _, _, I4, T.keep _ _ _ st2 (fun b _ o e => old b o e), fun b hb => ?_, w0⟩
    · obtain ⟨i, ys, σ3, H3, I3, st3, fr3, w3⟩ := hI
      show wpAny _ _ ((compTurn (.ListComp elt [⟨tgt, iter, ifs, 0⟩] scope pos) 0 (.ref it) (.ref s2.heap.objs.size) (compEnvC scope (cloOf X.env scope.names []) h2'.objs.size X.env)).onRaise (fun x => do noteFrame x _; theTreesLotGoes x)) _ _ s3
      refine wpAny_noted ?_
      rw [he]
      refine wpAny_bind (wpAny_standAt (wpAny_bind ?_))
      rcases turn i n ys σ3 H3 w3 with ⟨stop, qn⟩ | ⟨go, step⟩
      · refine thn (T.done (ccx X scope h2'.objs.size N' s2 H2 fp) rfl rfl rfl hc i _ s3 σ3 H3 _ I3 (stat fr3) st3 stop) fun r s4 ⟨hr, I5⟩ => ?_
        subst hr
        refine wpAny_pure ?_
        obtain ⟨m, hm, _⟩ := id I5.loc
        have IX : Inv X pins σ H3 { s4 with heap := s4.heap } := Inv.compEnd I2 f2 hC I5 (Heap.SameBut.refl _ _)
        have cne : ∀ x c, X.env.cells.lookup x = some c → c ≠ h2'.objs.size := fun x c ec z => by
          obtain ⟨v0, oc, hoc, _⟩ := I2.cell x c ec
          exact absurd (Nat.lt_of_lt_of_le (Heap.lt_size hoc) hC) (by rw [z]; exact Nat.lt_irrefl _)
        have lne : h2'.objs.size ≠ X.env.locals := Nat.ne_of_gt (Nat.lt_of_lt_of_le I2.lt hC)
        refine wpAny_assign_Name (store_ok2 IX hN hj hy (v := .ref s2.heap.objs.size) rfl (fun s5 I6 ⟨a, sb, ha⟩ => ?_) hfn)
        have na : h2'.objs.size ≠ a := fun z => by
          rcases ha with e | e
          · exact lne (z.trans e)
          · exact cne _ _ e z.symm
        refine ⟨m, hm.at' fun o e => (sb.2 _ na).trans e, fun h' hs' => ⟨_, H3, ?_, qn⟩⟩
        exact I6.turned (t' := s5.toks) (fun b o hb' e => (hs'.2 b hb').trans e) I5.free lne (.inr (Nat.le_trans I2.sz hC)) cne fun q hq z => by
          obtain ⟨e, _⟩ := I2.pin q hq
          exact absurd (Nat.lt_of_lt_of_le (Heap.lt_size e) hC) (by rw [z]; exact Nat.lt_irrefl _)
      · refine thn (T.item (ccx X scope h2'.objs.size N' s2 H2 fp) rfl rfl rfl hc i _ s3 σ3 H3 _ I3 (stat fr3) st3 go) fun r s4 ⟨u, hr, h4⟩ => ?_
        subst hr
        refine wpAny_bind (thn h4 fun _ s5 ⟨x, H5, I5, r5, y5, st5, fr5⟩ => ?_)
        have I5' := I5.pinned (stat fr5) (T.obj _ _ st5)
        refine wpAny_bind (wpAny_mono (hg h2'.objs.size s2 H2 fp _ s5 σ3 H5 x u _ I5' r5 (step x H5 y5)) (fun _ s6 ⟨σ6, H6, I6, q6⟩ => ?_) fun _ _ z => z.elim)
        refine wpAny_bind (wpAny_mono (hb h2'.objs.size s2 H2 fp _ s6 σ6 H6 s2.heap.objs.size ys _ I6 q6) (fun _ s7 ⟨ys7, σ7, H7, I7, m', hm, w7⟩ => ?_) fun _ _ z => z.elim)
        refine wpAny_pure ⟨rfl, m', hm, i + 1, ys7, σ7, H7, I7.unpinned, T.keep _ _ _ st5 fun b hb o e => (I7.pin (b, o) (List.mem_append_right _ (List.mem_append_right _ (mem_pinsAt hb e)))).1, fun b hb => ?_, w7⟩
        obtain ⟨o, e, d⟩ := T.obj _ _ st5 b hb
        exact (I7.pin (b, o) (List.mem_append_right _ (List.mem_append_right _ (mem_pinsAt hb e)))).2.1
    · rw [upd_ne (show b ≠ s2.heap.objs.size from fun z => nfp (by rw [← z]; exact hb))]
      exact (f2 b hb).1
  refine codeAny_compStart_list (loop _ rfl) (T.self _ 0 _ _ _ ?_ (loop _ rfl))
  exact T.keep _ _ _ st2 fun b _ o e => old b o e
theorem ps_setC {elt tgt iter : Expr} {scope : Scope} {pos spos py : Pos} {NL N' : List Str} {ρ : List Nat} {wi : TI} {g : TG} {te : TE} {j : Nat} {y : Str} (hN : X.N.Nodup) (hj : X.N[j]? = some y) (hy : Loc X.env.scope y)
    (hc : X.calm = true) (S : CScope X scope NL ρ N') (hi : PI X tgt iter wi) (hg : ∀ C s₀ H₀ fp, PG (ccx X scope C N' s₀ H₀ fp) tgt g) (he : ∀ C s₀ H₀ fp, PE (ccx X scope C N' s₀ H₀ fp) elt te)
    (hsw : swapsWith (.ListComp elt [⟨tgt, iter, [], 0⟩] scope pos) (some (.Name y py)) spos.line X.env = pure true := by rfl) (hfn : X.fn y = true ∨ X.env.scope.names.lookup y = some .local := by first | exact .inl rfl | exact .inr rfl | assumption)
    (hs : ∀ x, foldedSetIterable iter X.env x = pure x := by intro _; rfl) : PS X (.Assign [.Name y py] (.ListComp elt [⟨tgt, iter, [], 0⟩] scope pos) spos) (tAsg (tComp NL.length ρ wi g (cEl te)) (gName j)) :=
  ps_compG (body := fun acc env => do let x ← eval elt env; let _ ← call (.builtin "list.append") [acc, x]; pure ()) hN hj hy hfn hsw hc S hi hg (fun C s₀ H₀ fp => pb_el (he C s₀ H₀ fp)) (fun it acc env => turn_eq0 elt tgt iter scope pos it acc env) hs
end
end L2

set_option Elab.async false
set_option linter.all false
set_option maxRecDepth 100000
namespace L2
open PySem PySem.Spec PyProof.Rows
section
variable {X : Cx}
/-! ### rules said of the program's K, for comprehensions -/
variable {K : PySem.W.Frag}
theorem pe_tupPK {es : List Expr} {x1 : Nat} {pos : Pos} {t : TA} (hK : X.K = K) (h : PA X es t) : PE X (.Tuple es x1 pos) (tTupP K t) := by subst hK; exact pe_tupP h
theorem ix_listK (hK : X.K = K) : IxR X (rIxL K) := by subst hK; exact ix_list
theorem op_eqDK (hK : X.K = K) (hu : X.A.units + 64 < cLine) : OpR X (compareOp .Eq) (rEqD K) := by subst hK; exact op_eqD hu
theorem op_in_seqK (hK : X.K = K) : OpR X (compareOp .In) (rIn K false) := by subst hK; exact op_in_seq
end
end L2

set_option Elab.async false
set_option linter.all false
set_option maxRecDepth 100000
set_option maxHeartbeats 4000000
namespace L2
open PySem PySem.Spec PyProof.Rows
/-! ### try: y = e except C as n: suite -/
section
variable {X : Cx}
end
end L2

set_option Elab.async false
set_option linter.all false
set_option maxRecDepth 100000
namespace L2
open PySem PySem.Spec PyProof.Rows
section
variable {X : Cx}
theorem strs_vals : ∀ {ss : List Str} {us : List Value}, Vals (ss.map V.str) us → StrsAre us ss
  | [], us, h => by cases h; exact .nil
  | z :: ss, us, h => by
    cases h with
    | cons r rr =>
      obtain ⟨t, rfl⟩ := r
      exact .cons z t (strs_vals rr)
theorem vals_strs : ∀ {ss : List Str} {us : List Value}, StrsAre us ss → Vals (ss.map V.str) us
  | _, _, .nil => .nil
  | _, _, .cons z t r => .cons ⟨t, rfl⟩ (vals_strs r)
/-- sorted of a list of texts: a new list of the same texts, rising -/
theorem call_sortS : CallR X (.builtin "sorted") (fun xs H Q => ∃ (p : Addr) (ss : List Str), xs = [.ref p] ∧ SqL X.K H p (ss.map V.str) ∧ ss.length < 64 ∧ ∀ a ss', H a = none → ss'.Perm ss → sortedS ss' = true → Q (.ref a) (upd H a (.lst (ss'.map V.str)))) := by
  intro pins s σ H xs us Q I r h
  obtain ⟨p, ss, rfl, hp, hl, q⟩ := h
  obtain ⟨u, rfl, rx⟩ := vals1 r
  cases rx
  obtain ⟨its, rv, pl, hz⟩ := I.list hp
  have el := rv.length
  rw [List.length_map] at el
  refine sorted_strs pl.isList (strs_vals rv) (by omega) fun out ss' h1 h2 h3 => ?_
  obtain ⟨e, he⟩ := sortedAll_at s.heap its out
  have hn : H (s.heap.objs.size + 1) = none := I.hok.fresh (Nat.le_succ _)
  refine ⟨.ref (s.heap.objs.size + 1), _, I.laid (t' := s.toks) (o := .lst (ss'.map V.str)) (fun b o => sortedAll_old) (Nat.le_succ _) ?_, rfl, q _ _ hn h2 h3⟩
  have e2 : seqObj "list" out e = seqObj "list" out.toList.toArray e := by rw [Array.toArray_toList]
  refine ⟨?_, out.toList, e, vals_strs h1, ?_⟩
  · rw [List.length_map, h2.length_eq]
    exact Nat.le_of_lt (Nat.lt_trans hl (by decide))
  · rw [he, e2]
end
end L2

set_option Elab.async false
set_option linter.all false
set_option maxRecDepth 100000
namespace L2
open PySem PySem.Spec PyProof.Rows
noncomputable abbrev two (v : Value) (c : Nat) : Obj := { cls := .type "list", dict := none, data := .seq #[v, v] c, slots := #[] }
section
variable {prog : Program} {w : World} {A : Around} {R : Result → Shared → Prop} {it : Addr} {fp wr : List Addr} {n : Nat} {P : Nat → Value → Prop} {St : Nat → Heap → Prop}
end
section
variable {prog : Program} {w : World} {A : Around} {E : Value → Shared → Prop} {s : Shared} {l : Addr} {zs : Array (Int × Tok)} {d : Value} {Q : Value → Shared → Prop}
end
section
variable {X : Cx}
end
end L2
namespace L2
open PySem PySem.Spec PyProof.Rows
section
variable {X : Cx} {K : PySem.W.Frag}
end
end L2
namespace L2
open PySem PySem.Spec PyProof.Rows
section
variable {l : Addr} {g : TG} {tb : List V → Addr → St → Hp → (List V → St → Hp → Prop) → Prop} {R : Hp → Prop} {σ0 : St} {H0 : Hp} {lo : Int} {n : Nat} {z : Str}
theorem comp_rangeR (Pv : Nat → List V → St → Hp → Prop) (h0 : Pv 0 [] σ0 H0) (hs : ∀ i ys σ H (N : List V → St → Hp → Prop), i < n → Pv i ys σ H → (∀ ys' σ' H', Pv (i + 1) ys' σ' H' → N ys' σ' H') → g (.int (lo + i)) σ H fun σ2 H2 => tb ys l σ2 H2 N) (hd : ∀ ys σ H, Pv n ys σ H → R H) :
    ∃ W : Nat → Nat → List V → St → Hp → Prop, (∃ m, W 0 m [] σ0 H0) ∧ ∀ i m ys σ' H', W i m ys σ' H' → ((Itr lo n).stop i H' ∧ R H') ∨ ((Itr lo n).go i H' ∧ ∀ x H'', (Itr lo n).yld i H' x H'' → g x σ' H'' fun σ2 H2 => tb ys l σ2 H2 fun ys' σ3 H3 => ∃ m', m' < m ∧ W (i + 1) m' ys' σ3 H3) := comp_range (Q := fun _ H => R H) Pv h0 hs hd
theorem comp_strR (Pv : Nat → List V → St → Hp → Prop) (h0 : Pv 0 [] σ0 H0) (hs : ∀ i c ys σ H (N : List V → St → Hp → Prop), z.cps[i]? = some c → Pv i ys σ H → (∀ ys' σ' H', Pv (i + 1) ys' σ' H' → N ys' σ' H') → g (.str ⟨#[c]⟩) σ H fun σ2 H2 => tb ys l σ2 H2 N) (hd : ∀ ys σ H, Pv z.cps.size ys σ H → R H) :
    ∃ W : Nat → Nat → List V → St → Hp → Prop, (∃ m, W 0 m [] σ0 H0) ∧ ∀ i m ys σ' H', W i m ys σ' H' → ((Its z).stop i H' ∧ R H') ∨ ((Its z).go i H' ∧ ∀ x H'', (Its z).yld i H' x H'' → g x σ' H'' fun σ2 H2 => tb ys l σ2 H2 fun ys' σ3 H3 => ∃ m', m' < m ∧ W (i + 1) m' ys' σ3 H3) := comp_str (Q := fun _ H => R H) Pv h0 hs hd
end
end L2

set_option Elab.async false
set_option linter.all false
set_option maxRecDepth 100000
namespace L2
open PySem PySem.Spec PyProof.Rows
/-! ### rules with named relations, said of the program's K: a proof over them is smaller when compiled -/
section
variable {X : Cx} {K : PySem.W.Frag}
noncomputable def nIxP (K : PySem.W.Frag) : R2 := fun x y H Q => ∃ l i d, IsP K H (.tup l) x ∧ y = .int i ∧ atI l i = some d ∧ ∀ v, IsP K H d v → Q v H
noncomputable def nLenD (K : PySem.W.Frag) : List V → Hp → VK → Prop := fun xs H Q => ∃ x l, xs = [x] ∧ IsD K H (.tup l) x ∧ Q (.int l.length) H
noncomputable def nIsi (K : PySem.W.Frag) : List V → Hp → VK → Prop := fun xs H Q => ∃ x T b, xs = [x, .ty T] ∧ IsiB K H x T b ∧ Q (.bl b) H
noncomputable def nTupP (K : PySem.W.Frag) : List V → Hp → VK → Prop := fun xs H Q => ∃ p ys l, xs = [.ref p] ∧ SqL K H p ys ∧ IsPs K H l ys ∧ ∀ v H', Same H H' → IsP K H' (.tup l) v → Q v H'
theorem ix_tupPN (hK : X.K = K) : IxR X (nIxP K) := by subst hK; exact ix_tupP
theorem op_neDN (hK : X.K = K) (hu : X.A.units + 64 < cLine) : OpR X (compareOp .NotEq) (rNeD K) := by subst hK; exact op_neD hu
theorem call_lenDN (hK : X.K = K) : CallR X (.builtin "len") (nLenD K) := by subst hK; exact call_lenD
theorem call_isiN' (hK : X.K = K) : CallR X (.builtin "isinstance") (nIsi K) := by subst hK; exact call_isi
theorem call_tuplePN (hK : X.K = K) : CallR X (.type "tuple") (nTupP K) := by subst hK; exact call_tupleP
theorem pi_tupN {tg l : Expr} {tl : TE} (hK : X.K = K) (hl : PE X l tl) : PI X tg l (iTup K tl) := by subst hK; exact pi_tup hl
theorem pi_listN {tg l : Expr} {tl : TE} (hK : X.K = K) (hl : PE X l tl) : PI X tg l (iList K tl) := by subst hK; exact pi_list hl
end
end L2

set_option Elab.async false
set_option linter.all false
set_option maxRecDepth 100000
namespace L2
open PySem PySem.Spec PyProof.Rows
/-! ### tuple(text) -/
theorem vals_signs : ∀ {cs : List Nat} {us : List Value}, us.length = cs.length → (∀ (j : Nat) (v : Value), us[j]? = some v → ∃ (c : Nat) (u : Tok), cs[j]? = some c ∧ v = Value.str ⟨#[c]⟩ u) → Vals (cs.map fun c => V.str ⟨#[c]⟩) us
  | [], us, hl, _ => by
    cases us with
    | nil => exact .nil
    | cons u us => cases hl
  | c :: cs, us, hl, h => by
    cases us with
    | nil => cases hl
    | cons u us =>
      obtain ⟨c', t, e, rfl⟩ := h 0 u rfl
      obtain rfl : c = c' := Option.some.inj e
      exact .cons ⟨t, rfl⟩ (vals_signs (Nat.succ.inj hl) fun j v hj => by simpa using h (j + 1) v (by simpa using hj))
theorem signs_data {K : PySem.W.Frag} {H : Hp} : ∀ cs : List Nat, IsPs K H (cs.map fun c => Dt.str ⟨#[c]⟩) (cs.map fun c => V.str ⟨#[c]⟩)
  | [] => .nil
  | c :: cs => .cons .str (signs_data cs)
noncomputable def nTupS (K : PySem.W.Frag) : List V → Hp → VK → Prop := fun xs H Q => ∃ z : Str, xs = [.str z] ∧ z.cps.size ≤ sizeLine ∧ ∀ v H', Same H H' → IsP K H' (.tup (z.cps.toList.map fun c => .str ⟨#[c]⟩)) v → Q v H'
theorem call_tupS {X : Cx} {K : PySem.W.Frag} (hK : X.K = K) (hc : X.calm = true) : CallR X (.type "tuple") (nTupS K) := by
  subst hK
  intro pins s σ H xs us Q I r h
  obtain ⟨z, rfl, hz, q⟩ := h
  obtain ⟨u, rfl, rx⟩ := vals1 r
  obtain ⟨t, rfl⟩ := rx
  refine call_tuple_str (I.ok.hd hc) z t (fun h' tk acc kp items => ?_) hz
  have I1 : Inv X pins σ H { s with heap := h' } := I.kept (t' := s.toks) kp
  have vs : Vals (z.cps.toList.map fun c => V.str ⟨#[c]⟩) acc.toList := vals_signs (by simpa using items.1) fun j v hj => by
    obtain ⟨c, u, e, rfl⟩ := items.2 j v (by simpa using hj)
    exact ⟨c, u, by simpa using e, rfl⟩
  obtain ⟨I2, hf⟩ := I1.plain (t' := tk) vs (by simpa using hz)
  obtain ⟨g, dp⟩ := plain_is (X := X) (us := acc.toList) hf (signs_data z.cps.toList)
  exact ⟨.ref h'.objs.size, _, by simpa using I2, rfl, q _ _ g dp⟩
end L2

set_option Elab.async false
set_option linter.all false
set_option maxRecDepth 100000
set_option maxHeartbeats 4000000
namespace K03
open PySem L2 PyProof.Rows
noncomputable def top (i : Nat) : Stmt := PySem.Challenge.pw_oldhands_k03_no_kinds.main.body.getD i (.Pass ⟨0, 0, 0, 0⟩)
noncomputable abbrev s_is_name : Stmt := top 15
noncomputable abbrev s_is_whole : Stmt := top 16
noncomputable abbrev s_is_whole_within : Stmt := top 17
noncomputable abbrev s_made_kind : Stmt := top 18
noncomputable abbrev s_is_formed : Stmt := top 19
noncomputable abbrev s_has_parts : Stmt := top 20
noncomputable abbrev s_are_bounds : Stmt := top 21
noncomputable abbrev s_are_words : Stmt := top 22
noncomputable abbrev s_are_fields : Stmt := top 23
noncomputable abbrev s_is_field : Stmt := top 24
noncomputable abbrev s_are_rows : Stmt := top 25
noncomputable abbrev s_field_kind : Stmt := top 26
noncomputable abbrev s_item_kind : Stmt := top 27
noncomputable abbrev s_kinds_within : Stmt := top 28
noncomputable abbrev s_kind_many : Stmt := top 29
noncomputable abbrev s_law_cell_at : Stmt := top 31
noncomputable abbrev s_law_mixed : Stmt := top 32
noncomputable abbrev s_law_own : Stmt := top 33
noncomputable abbrev s_law_digit : Stmt := top 34
noncomputable abbrev s_law_names : Stmt := top 35
noncomputable abbrev s_law_number_kind : Stmt := top 36
noncomputable abbrev s_law_leaf_kind : Stmt := top 37
noncomputable abbrev s_law_record_kind : Stmt := top 38
noncomputable abbrev s_law_rows_kind : Stmt := top 39
noncomputable abbrev s_law_kind : Stmt := top 40
noncomputable abbrev s_law_odd : Stmt := top 41
noncomputable abbrev s_law_spoilt : Stmt := top 42
noncomputable abbrev s_law_refused : Stmt := top 43
noncomputable abbrev s_law_great : Stmt := top 44
noncomputable abbrev s_law : Stmt := top 45
theorem sc_is_name : FnScope ["text"] ["text"] (defScope s_is_name) := ⟨rfl, rfl, rfl, by decide +kernel, rfl, by decide +kernel, by decide +kernel⟩
theorem sc_is_whole : FnScope ["thing"] ["thing"] (defScope s_is_whole) := ⟨rfl, rfl, rfl, by decide +kernel, rfl, by decide +kernel, by decide +kernel⟩
theorem sc_is_whole_within : FnScope ["thing", "low", "high"] ["thing", "low", "high"] (defScope s_is_whole_within) := ⟨rfl, rfl, rfl, by decide +kernel, rfl, by decide +kernel, by decide +kernel⟩
theorem sc_made_kind : FnScope ["kind"] ["kind"] (defScope s_made_kind) := ⟨rfl, rfl, rfl, by decide +kernel, rfl, by decide +kernel, by decide +kernel⟩
theorem sc_is_formed : FnScope ["thing", "room", "word"] ["thing", "room"] (defScope s_is_formed) := ⟨rfl, rfl, rfl, by decide +kernel, rfl, by decide +kernel, by decide +kernel⟩
theorem sc_has_parts : FnScope ["thing"] ["thing"] (defScope s_has_parts) := ⟨rfl, rfl, rfl, by decide +kernel, rfl, by decide +kernel, by decide +kernel⟩
theorem sc_are_bounds : FnScope ["low", "high"] ["low", "high"] (defScope s_are_bounds) := ⟨rfl, rfl, rfl, by decide +kernel, rfl, by decide +kernel, by decide +kernel⟩
theorem sc_are_words : FnScope ["words"] ["words"] (defScope s_are_words) := ⟨rfl, rfl, rfl, by decide +kernel, rfl, by decide +kernel, by decide +kernel⟩
theorem sc_are_fields : FnScope ["fields", "room", "names"] ["fields", "room"] (defScope s_are_fields) := ⟨rfl, rfl, rfl, by decide +kernel, rfl, by decide +kernel, by decide +kernel⟩
theorem sc_is_field : FnScope ["field", "room"] ["field", "room"] (defScope s_is_field) := ⟨rfl, rfl, rfl, by decide +kernel, rfl, by decide +kernel, by decide +kernel⟩
theorem sc_are_rows : FnScope ["key", "items", "room", "key_kind"] ["key", "items", "room"] (defScope s_are_rows) := ⟨rfl, rfl, rfl, by decide +kernel, rfl, by decide +kernel, by decide +kernel⟩
theorem sc_field_kind : FnScope ["kind", "name", "own", "inner"] ["kind", "name"] (defScope s_field_kind) := ⟨rfl, rfl, rfl, by decide +kernel, rfl, by decide +kernel, by decide +kernel⟩
theorem sc_item_kind : FnScope ["kind"] ["kind"] (defScope s_item_kind) := ⟨rfl, rfl, rfl, by decide +kernel, rfl, by decide +kernel, by decide +kernel⟩
theorem sc_kinds_within : FnScope ["kind", "inner"] ["kind"] (defScope s_kinds_within) := ⟨rfl, rfl, rfl, by decide +kernel, rfl, by decide +kernel, by decide +kernel⟩
theorem sc_kind_many : FnScope ["kind"] ["kind"] (defScope s_kind_many) := ⟨rfl, rfl, rfl, by decide +kernel, rfl, by decide +kernel, by decide +kernel⟩
theorem sc_law_cell_at : FnScope ["script", "k"] ["script", "k"] (defScope s_law_cell_at) := ⟨rfl, rfl, rfl, by decide +kernel, rfl, by decide +kernel, by decide +kernel⟩
theorem sc_law_mixed : FnScope ["cell", "k", "stir"] ["cell", "k"] (defScope s_law_mixed) := ⟨rfl, rfl, rfl, by decide +kernel, rfl, by decide +kernel, by decide +kernel⟩
theorem sc_law_own : FnScope ["script", "k", "cell", "found", "j"] ["script", "k"] (defScope s_law_own) := ⟨rfl, rfl, rfl, by decide +kernel, rfl, by decide +kernel, by decide +kernel⟩
theorem sc_law_digit : FnScope ["row", "many", "digit"] ["row", "many"] (defScope s_law_digit) := ⟨rfl, rfl, rfl, by decide +kernel, rfl, by decide +kernel, by decide +kernel⟩
theorem sc_law_names : FnScope ["row", "many", "base", "tail", "way", "words"] ["row", "many"] (defScope s_law_names) := ⟨rfl, rfl, rfl, by decide +kernel, rfl, by decide +kernel, by decide +kernel⟩
theorem sc_law_number_kind : FnScope ["row", "low", "high"] ["row"] (defScope s_law_number_kind) := ⟨rfl, rfl, rfl, by decide +kernel, rfl, by decide +kernel, by decide +kernel⟩
theorem sc_law_leaf_kind : FnScope ["row", "way", "words"] ["row"] (defScope s_law_leaf_kind) := ⟨rfl, rfl, rfl, by decide +kernel, rfl, by decide +kernel, by decide +kernel⟩
theorem sc_law_record_kind : FnScope ["row", "deep", "room", "many", "fields", "name"] ["row", "deep", "room"] (defScope s_law_record_kind) := ⟨rfl, rfl, rfl, by decide +kernel, rfl, by decide +kernel, by decide +kernel⟩
theorem sc_law_rows_kind : FnScope ["row", "deep", "room", "names", "key", "fields", "name", "inner"] ["row", "deep", "room"] (defScope s_law_rows_kind) := ⟨rfl, rfl, rfl, by decide +kernel, rfl, by decide +kernel, by decide +kernel⟩
theorem sc_law_kind : FnScope ["row", "deep", "room", "way"] ["row", "deep", "room"] (defScope s_law_kind) := ⟨rfl, rfl, rfl, by decide +kernel, rfl, by decide +kernel, by decide +kernel⟩
theorem sc_law_odd : FnScope ["row", "t", "odd", "own"] ["row"] (defScope s_law_odd) := ⟨rfl, rfl, rfl, by decide +kernel, rfl, by decide +kernel, by decide +kernel⟩
theorem sc_law_spoilt : FnScope ["kind", "row", "odd", "fields", "at"] ["kind", "row", "odd"] (defScope s_law_spoilt) := ⟨rfl, rfl, rfl, by decide +kernel, rfl, by decide +kernel, by decide +kernel⟩
theorem sc_law_refused : FnScope ["kind", "told", "e"] ["kind"] (defScope s_law_refused) := ⟨rfl, rfl, rfl, by decide +kernel, rfl, by decide +kernel, by decide +kernel⟩
theorem sc_law_great : FnScope ["row", "leaf", "deep", "k", "names", "inner", "fields"] ["row"] (defScope s_law_great) := ⟨rfl, rfl, rfl, by decide +kernel, rfl, by decide +kernel, by decide +kernel⟩
theorem sc_law : FnScope ["script", "k", "row", "turn", "kind"] ["script"] (defScope s_law) := ⟨rfl, rfl, rfl, by decide +kernel, rfl, by decide +kernel, by decide +kernel⟩
/-- where the classes stand -/
structure Ads where
  HandError : Addr
  BadKind : Addr
  BadValue : Addr
/-- what the top has written -/
structure Tx (K : PySem.W.Frag) (mg : Str → Option Value) (ad : Ads) : Prop where
  is_name : ∃ f fd, Gn K mg "is_name" s_is_name ["text"] f fd
  is_whole : ∃ f fd, Gn K mg "is_whole" s_is_whole ["thing"] f fd
  is_whole_within : ∃ f fd, Gn K mg "is_whole_within" s_is_whole_within ["thing", "low", "high"] f fd
  made_kind : ∃ f fd, Gn K mg "made_kind" s_made_kind ["kind"] f fd
  is_formed : ∃ f fd, Gn K mg "is_formed" s_is_formed ["thing", "room"] f fd
  has_parts : ∃ f fd, Gn K mg "has_parts" s_has_parts ["thing"] f fd
  are_bounds : ∃ f fd, Gn K mg "are_bounds" s_are_bounds ["low", "high"] f fd
  are_words : ∃ f fd, Gn K mg "are_words" s_are_words ["words"] f fd
  are_fields : ∃ f fd, Gn K mg "are_fields" s_are_fields ["fields", "room"] f fd
  is_field : ∃ f fd, Gn K mg "is_field" s_is_field ["field", "room"] f fd
  are_rows : ∃ f fd, Gn K mg "are_rows" s_are_rows ["key", "items", "room"] f fd
  field_kind : ∃ f fd, Gn K mg "field_kind" s_field_kind ["kind", "name"] f fd
  item_kind : ∃ f fd, Gn K mg "item_kind" s_item_kind ["kind"] f fd
  kinds_within : ∃ f fd, Gn K mg "kinds_within" s_kinds_within ["kind"] f fd
  kind_many : ∃ f fd, Gn K mg "kind_many" s_kind_many ["kind"] f fd
  law_cell_at : ∃ f fd, Gn K mg "_law_cell_at" s_law_cell_at ["script", "k"] f fd
  law_mixed : ∃ f fd, Gn K mg "_law_mixed" s_law_mixed ["cell", "k"] f fd
  law_own : ∃ f fd, Gn K mg "_law_own" s_law_own ["script", "k"] f fd
  law_digit : ∃ f fd, Gn K mg "_law_digit" s_law_digit ["row", "many"] f fd
  law_names : ∃ f fd, Gn K mg "_law_names" s_law_names ["row", "many"] f fd
  law_number_kind : ∃ f fd, Gn K mg "_law_number_kind" s_law_number_kind ["row"] f fd
  law_leaf_kind : ∃ f fd, Gn K mg "_law_leaf_kind" s_law_leaf_kind ["row"] f fd
  law_record_kind : ∃ f fd, Gn K mg "_law_record_kind" s_law_record_kind ["row", "deep", "room"] f fd
  law_rows_kind : ∃ f fd, Gn K mg "_law_rows_kind" s_law_rows_kind ["row", "deep", "room"] f fd
  law_kind : ∃ f fd, Gn K mg "_law_kind" s_law_kind ["row", "deep", "room"] f fd
  law_odd : ∃ f fd, Gn K mg "_law_odd" s_law_odd ["row"] f fd
  law_spoilt : ∃ f fd, Gn K mg "_law_spoilt" s_law_spoilt ["kind", "row", "odd"] f fd
  law_refused : ∃ f fd, Gn K mg "_law_refused" s_law_refused ["kind"] f fd
  law_great : ∃ f fd, Gn K mg "_law_great" s_law_great ["row"] f fd
  law : ∃ f fd, Gn K mg "law" s_law ["script"] f fd
  x_HandError : ExC K mg "HandError" ad.HandError
  x_BadKind : ExC K mg "BadKind" ad.BadKind
  x_BadValue : ExC K mg "BadValue" ad.BadValue
  LETTERS : ∃ t, mg "LETTERS" = some (.str "abcdefghijklmnopqrstuvwxyz" t)
  LONGEST_NAME : ∃ t, mg "LONGEST_NAME" = some (.int 8 t)
  EACH : ∃ t, mg "EACH" = some (.str "each" t)
  MOST_SIGNS : ∃ t, mg "MOST_SIGNS" = some (.int 60 t)
  MOST_WORDS : ∃ t, mg "MOST_WORDS" = some (.int 8 t)
  MOST_FIELDS : ∃ t, mg "MOST_FIELDS" = some (.int 8 t)
  MOST_ITEMS : ∃ t, mg "MOST_ITEMS" = some (.int 8 t)
  MOST_KINDS : ∃ t, mg "MOST_KINDS" = some (.int 40 t)
  DEEPEST : ∃ t, mg "DEEPEST" = some (.int 5 t)
  PART_COUNTS : ∃ a, mg "PART_COUNTS" = some (.ref a) ∧ KDict K a [("number", 3), ("text", 2), ("choice", 2), ("list", 3), ("record", 2), ("rows", 4)]
  z_ValueError : mg "ValueError" = none
  z_all : mg "all" = none
  z_bool : mg "bool" = none
  z_int : mg "int" = none
  z_isinstance : mg "isinstance" = none
  z_len : mg "len" = none
  z_list : mg "list" = none
  z_min : mg "min" = none
  z_range : mg "range" = none
  z_set : mg "set" = none
  z_sorted : mg "sorted" = none
  z_str : mg "str" = none
  z_sum : mg "sum" = none
  z_tuple : mg "tuple" = none
  z_zip : mg "zip" = none
  kits : (PySem.W.kitOne K (.ref ad.BadKind) (.ref ad.BadKind) == some true && PySem.W.kitOne K (.ref ad.BadKind) (.type "ValueError") == some true && PySem.W.kitOne K (.ref ad.BadKind) (.ref ad.BadValue) == some false) = true
  exk : PySem.W.exmOne K (.ref ad.BadKind) (.ref ad.HandError) = some true
noncomputable abbrev depth : Nat := 60
noncomputable abbrev letters : Str := "abcdefghijklmnopqrstuvwxyz"
noncomputable def inB (c : Nat) : Bool := !(Builtin.Str.occurrences letters ⟨#[c]⟩ 0 letters.length 1).isEmpty
/-- what is_name tells -/
noncomputable def nameB (z : Str) : Bool := decide (1 ≤ z.length) && decide (z.length ≤ 8) && !decide (z = "each") && z.cps.toList.all inB
noncomputable def ltS (a b : Str) : Prop := a.cps.toList < b.cps.toList
noncomputable instance (a b : Str) : Decidable (ltS a b) := inferInstanceAs (Decidable (a.cps.toList < b.cps.toList))
noncomputable def wordsB (ws : List Str) : Bool := decide (1 ≤ ws.length) && decide (ws.length ≤ 8) && ws.all nameB && decide ws.Nodup
/-- a field: its name, its kind, how deep it is, how many it is -/
noncomputable abbrev G4 := Str × Dt × Nat × Nat
noncomputable abbrev prG (g : G4) : Dt := .tup [.str g.1, g.2.1]
noncomputable def sumN : List Nat → Nat
  | [] => 0
  | n :: r => n + sumN r
noncomputable def maxN : List Nat → Nat
  | [] => 0
  | n :: r => max n (maxN r)
noncomputable def keyL (l : List Dt) (z : Str) : Prop := ∃ w r, Dt.tup [.str z, .tup (.str w :: r)] ∈ l ∧ (w = "number" ∨ w = "text")
/-- a kind: how deep, how many -/
inductive FK : Nat → Nat → Dt → Prop
  | text (i : Int) : 0 ≤ i → i ≤ 60 → FK 1 1 (.tup [.str "text", .int i])
  | choice (ws : List Str) : wordsB ws = true → FK 1 1 (.tup [.str "choice", .tup (ws.map Dt.str)])
  | number (i j : Int) : -1000000000000000000000000000000 ≤ i → i ≤ j → j ≤ 1000000000000000000000000000000 → FK 1 1 (.tup [.str "number", .int i, .int j])
  | list {a c : Nat} {k : Dt} {i : Int} : FK a c k → 0 ≤ i → i ≤ 8 → FK (a + 1) (c + 1) (.tup [.str "list", k, .int i])
  | rows {a c : Nat} {z : Str} {l : List Dt} {i : Int} : FK a c (.tup [.str "record", .tup l]) → keyL l z → 0 ≤ i → i ≤ 8 → FK (a + 1) (c + 1) (.tup [.str "rows", .str z, .tup [.str "record", .tup l], .int i])
  | rcd {gs : List G4} : (∀ g ∈ gs, FK g.2.2.1 g.2.2.2 g.2.1) → (gs.map (·.1)).Pairwise ltS → (∀ g ∈ gs, nameB g.1 = true ∧ g.1 ≠ "noneone") → gs.length ≤ 8 → FK (maxN (gs.map (·.2.2.1)) + 1) (sumN (gs.map (·.2.2.2)) + 1) (.tup [.str "record", .tup (gs.map prG)])
theorem FK.pos {a c : Nat} {d : Dt} (h : FK a c d) : 1 ≤ a := by cases h <;> omega
theorem le_max {n : Nat} : ∀ {l : List Nat}, n ∈ l → n ≤ maxN l
  | m :: l, h => by
    show n ≤ max m (maxN l)
    rcases List.mem_cons.mp h with rfl | h
    · exact Nat.le_max_left _ _
    · exact Nat.le_trans (le_max h) (Nat.le_max_right _ _)
theorem max_le {b : Nat} : ∀ {l : List Nat}, (∀ n ∈ l, n ≤ b) → maxN l ≤ b
  | [], _ => Nat.zero_le _
  | m :: l, h => by
    show max m (maxN l) ≤ b
    exact Nat.max_le.mpr ⟨h m List.mem_cons_self, max_le fun n hn => h n (List.mem_cons_of_mem _ hn)⟩
noncomputable def itemD (d : Dt) : Option Dt := match d with
  | .tup [.str w, k, _] => if w = "list" then some k else none
  | .tup [.str w, _, k, _] => if w = "rows" then some k else none
  | _ => none
/-- a kind or None -/
noncomputable def RetO (K : PySem.W.Frag) (H : Hp) (r : Option Dt) (Q : VK) : Prop := match r with
  | none => Q .non H
  | some e => ∀ v, IsP K H e v → Q v H
/-! ### what the defs of kinds tell of any thing -/
mutual
noncomputable def okD : Dt → Bool
  | .int _ => true
  | .str z => decide (z.length ≤ 1000)
  | .tup l => okDs l
  | _ => false
noncomputable def okDs : List Dt → Bool
  | [] => true
  | d :: l => okD d && okDs l
end
theorem ok_mem : ∀ {l : List Dt}, okDs l = true → ∀ d ∈ l, okD d = true
  | e :: l, h, d, hd => by
    rw [okDs, Bool.and_eq_true] at h
    rcases List.mem_cons.mp hd with rfl | hd
    · exact h.1
    · exact ok_mem h.2 d hd
theorem ok_all : ∀ {l : List Dt}, (∀ d ∈ l, okD d = true) → okDs l = true
  | [], _ => rfl
  | e :: l, h => by rw [okDs, h e List.mem_cons_self, ok_all fun d hd => h d (List.mem_cons_of_mem _ hd)]; rfl
noncomputable def nameD : Dt → Bool
  | .str z => nameB z
  | _ => false
noncomputable def wholeD : Dt → Bool
  | .int _ => true
  | _ => false
noncomputable def withinD (d : Dt) (j k : Int) : Bool := match d with
  | .int i => decide (j ≤ i) && decide (i ≤ k)
  | _ => false
noncomputable def boundsD (d e : Dt) : Bool := match d, e with
  | .int i, .int j => decide (-1000000000000000000000000000000 ≤ i) && decide (i ≤ j) && decide (j ≤ 1000000000000000000000000000000)
  | _, _ => false
noncomputable abbrev counts6 : List (Str × Int) := [("number", 3), ("text", 2), ("choice", 2), ("list", 3), ("record", 2), ("rows", 4)]
noncomputable def partsD : Dt → Bool
  | .tup (.str u :: l) => decide (lookI u counts6 = .int ((l.length + 1 : Nat) : Int))
  | _ => false
noncomputable def strD : Dt → Str
  | .str z => z
  | _ => ""
noncomputable def seenN (ws : List Str) : Nat := (L2.seen (ws.map (Sum.inr : Str → Key)) (ws.map (Sum.inr : Str → Key)).length).length
noncomputable def wordsD : Dt → Bool
  | .tup ws => decide (1 ≤ ws.length) && decide (ws.length ≤ 8) && ws.all nameD && decide (seenN (ws.map strD) = ws.length)
  | _ => false
noncomputable def fieldD (f : Dt → Bool) : Dt → Bool
  | .tup [a, b] => nameD a && f b
  | _ => false
noncomputable def nmD : Dt → Str
  | .tup [.str z, _] => z
  | _ => ""
noncomputable def adjB (ns : List Str) : Bool := (ns.zip (ns.drop 1)).all fun p => decide (ltS p.1 p.2)
noncomputable def fieldsD (f : Dt → Bool) : Dt → Bool
  | .tup fs => decide (fs.length ≤ 8) && fs.all (fieldD f) && adjB (fs.map nmD)
  | _ => false
noncomputable def isKey (key : Dt) : Dt → Bool
  | .tup [o, _] => eqD o key
  | _ => false
noncomputable def lookK (fs : List Dt) (key : Dt) : Option Dt := match fs.find? (isKey key) with
  | some (.tup [_, k]) => some k
  | _ => none
noncomputable def headB : Option Dt → Bool
  | some (.tup (.str u :: _)) => decide (u = "number") || decide (u = "text")
  | _ => false
noncomputable def rowsD (f : Dt → Bool) (key items : Dt) : Bool := f items && (match items with
  | .tup [.str u, .tup fs] => decide (u = "record") && headB (lookK fs key)
  | _ => false)
noncomputable def formD : Nat → Dt → Bool
  | 0, _ => false
  | n + 1, .tup [.str u, a] => if u = "text" then withinD a 0 60 else if u = "choice" then wordsD a else if u = "record" then fieldsD (formD n) a else false
  | n + 1, .tup [.str u, a, b] => if u = "number" then boundsD a b else if u = "list" then formD n a && withinD b 0 8 else false
  | n + 1, .tup [.str u, a, b, c] => if u = "rows" then rowsD (formD n) a b && withinD c 0 8 else false
  | _, _ => false
noncomputable def sp_is_name (K : PySem.W.Frag) (_ : Ads) : Sp := fun vs H Q _ => ∃ (d : Dt) (x : V), vs = [x] ∧ IsP K H d x ∧ okD d = true ∧ ∀ H', Same H H' → Q (.bl (nameD d)) H'
noncomputable def sp_is_whole (K : PySem.W.Frag) (_ : Ads) : Sp := fun vs H Q _ => ∃ (d : Dt) (x : V), vs = [x] ∧ IsP K H d x ∧ okD d = true ∧ Q (.bl (wholeD d)) H
noncomputable def sp_is_whole_within (K : PySem.W.Frag) (_ : Ads) : Sp := fun vs H Q _ => ∃ (d : Dt) (x : V) (j k : Int), vs = [x, .int j, .int k] ∧ IsP K H d x ∧ okD d = true ∧ Q (.bl (withinD d j k)) H
noncomputable def sp_are_bounds (K : PySem.W.Frag) (_ : Ads) : Sp := fun vs H Q _ => ∃ (d e : Dt) (x y : V), vs = [x, y] ∧ IsP K H d x ∧ IsP K H e y ∧ okD d = true ∧ okD e = true ∧ Q (.bl (boundsD d e)) H
noncomputable def sp_has_parts (K : PySem.W.Frag) (_ : Ads) : Sp := fun vs H Q _ => ∃ (d : Dt) (x : V), vs = [x] ∧ IsP K H d x ∧ okD d = true ∧ Q (.bl (partsD d)) H
noncomputable def sp_are_words (K : PySem.W.Frag) (_ : Ads) : Sp := fun vs H Q _ => ∃ (d : Dt) (x : V), vs = [x] ∧ IsP K H d x ∧ okD d = true ∧ ∀ H', Same H H' → Q (.bl (wordsD d)) H'
noncomputable def sp_item_kind (K : PySem.W.Frag) (_ : Ads) : Sp := fun vs H Q _ => ∃ (a c : Nat) (d : Dt) (x : V), vs = [x] ∧ IsP K H d x ∧ FK a c d ∧ RetO K H (itemD d) Q
noncomputable def sp_law_mixed (_ : PySem.W.Frag) (_ : Ads) : Sp := fun vs H Q _ => ∃ i k : Int, vs = [.int i, .int k] ∧ ∀ c, Q (.int c) H
noncomputable def sp_law_digit (_ : PySem.W.Frag) (_ : Ads) : Sp := fun vs H Q _ => ∃ (r : Addr) (n m : Int), vs = [.ref r, .int m] ∧ H r = some (.lst [.int n]) ∧ 0 < m ∧ m < 10000000000000000000000000000000000000000000000000000000000000 ∧ Q (.int (n % m)) (upd H r (.lst [.int (n / m)]))
noncomputable def sp_law_cell_at (K : PySem.W.Frag) (_ : Ads) : Sp := fun vs H Q _ => ∃ (a : Addr) (ns : List Int) (k : Nat), vs = [.ref a, .int k] ∧ SqL K H a (ns.map V.int) ∧ ns.length ≤ 63 ∧ ∀ c, Q (.int c) H
noncomputable def sp_law_own (K : PySem.W.Frag) (_ : Ads) : Sp := fun vs H Q _ => ∃ (a : Addr) (ns : List Int) (k : Nat), vs = [.ref a, .int k] ∧ SqL K H a (ns.map V.int) ∧ ns.length ≤ 63 ∧ k < 1000 ∧
  ∀ r n H', H r = none → Same H H' → H' r = some (.lst [.int n]) → Q (.ref r) H'
noncomputable def spLaw (K : PySem.W.Frag) : Sp := fun vs H Q _ => ∃ (a : Addr) (ns : List Int), vs = [.ref a] ∧ SqL K H a (ns.map V.int) ∧ ns.length ≤ 63 ∧ ∀ H', Q (.bl true) H'
noncomputable abbrev sp_law (K : PySem.W.Frag) (_ : Ads) : Sp := spLaw K
theorem small {n : Nat} (h : n ≤ 1000) : n ≤ sizeLine := Nat.le_of_lt (small1000 h)
theorem take_next {α β : Type} {xs : List α} {i : Nat} {x : α} (f : α → β) (h : xs[i]? = some x) : (xs.take i).map f ++ [f x] = (xs.take (i + 1)).map f := by
  rw [List.take_add_one, h, List.map_append]; rfl
theorem lt_nodup {l : List Str} (h : l.Pairwise ltS) : l.Nodup := List.Pairwise.imp (fun {a b} hab e => by
  subst e
  exact absurd hab (List.lt_irrefl _)) h
section
variable {P : Program} {w : World} {K : PySem.W.Frag} {mg : Str → Option Value} {base : Heap} {ad : Ads}
/-- the block [sign in letters for sign in text] and all(..) of it: the same for both defs -/
theorem all_in {K : PySem.W.Frag} {H : Hp} {l : Addr} {z : Str} {Q : VK} {nm : L2.St} (hl : H l = none) (hz : z.length ≤ sizeLine) (q : ∀ H', Same H H' → Q (.bl (z.cps.toList.all inB)) H')
    (hn : nm = [none]) : ∃ W : Nat → Nat → List V → L2.St → Hp → Prop, (∃ m, W 0 m [] nm (upd H l (.lst []))) ∧ ∀ i m ys σ' H', W i m ys σ' H' → ((Its z).stop i H' ∧ (fun (v : V) (H' : Hp) => ∃ p ys, [v] = [V.ref p] ∧ true = true ∧ SqL K H' p (bls ys) ∧ Q (.bl (ys.all id)) H') (.ref l) H') ∨
      ((Its z).go i H' ∧ ∀ x H'', (Its z).yld i H' x H'' → gName 0 x σ' H'' fun σ2 H2 => cEl (tOp (fun x y H Q => ∃ i j, x = .str i ∧ y = .str j ∧ Q (.bl (!(Builtin.Str.occurrences j i 0 j.length 1).isEmpty)) H) (tVar 0) (tC (.str letters))) ys l σ2 H2 fun ys' σ3 H3 => ∃ m', m' < m ∧ W (i + 1) m' ys' σ3 H3) := by
  subst hn
  refine comp_str (Q := fun (v : V) (H' : Hp) => ∃ p ys, [v] = [V.ref p] ∧ true = true ∧ SqL K H' p (bls ys) ∧ Q (.bl (ys.all id)) H') (fun i ys σ H' => ys = bls ((z.cps.toList.take i).map inB) ∧ H' = upd H l (.lst ys) ∧ σ.length = 1) ⟨rfl, rfl, rfl⟩ ?_ ?_
  · rintro i c ys σ H1 N hc ⟨rfl, rfl, hσ⟩ next
    have hc' : z.cps.toList[i]? = some c := by rw [Array.getElem?_toList]; exact hc
    have hi : i < z.cps.toList.length := (List.getElem?_eq_some_iff.mp hc').1
    have hlen : (bls ((z.cps.toList.take i).map inB)).length < sizeLine := by
      have : z.length = z.cps.toList.length := by simp [Str.length]
      simp only [bls, List.length_map, List.length_take]
      omega
    match σ, hσ with
    | [_], _ =>
      refine ⟨.str ⟨#[c]⟩, rfl, _, _, rfl, rfl, upd_same, hlen, next _ _ _ ⟨?_, upd_upd, rfl⟩⟩
      show bls ((z.cps.toList.take i).map inB) ++ [V.bl (inB c)] = bls ((z.cps.toList.take (i + 1)).map inB)
      unfold bls
      rw [List.map_map, List.map_map]
      exact take_next (V.bl ∘ inB) hc'
  · rintro ys σ H1 ⟨rfl, rfl, hσ⟩
    refine ⟨l, (z.cps.toList).map inB, rfl, rfl, SqL.of ?_, ?_⟩
    · rw [upd_same]
      have : z.cps.toList.take z.cps.size = z.cps.toList := List.take_of_length_le (by simp)
      rw [this]
    · rw [List.all_map]
      exact q _ (same_new hl _)
theorem ok_is_name (T : Tx K mg ad) {f : Addr} {fd : FuncData} (F : Gn K mg "is_name" s_is_name ["text"] f fd) : FnOk P w K mg base CX0 1 f fd ["text"] (sp_is_name K ad) := by
  obtain ⟨t_LONGEST_NAME, c_LONGEST_NAME⟩ := T.LONGEST_NAME
  obtain ⟨t_EACH, c_EACH⟩ := T.EACH
  obtain ⟨t_LETTERS, c_LETTERS⟩ := T.LETTERS
  refine F.F.ok sc_is_name (fun vs H Q E h => ?_) (fun cdv A outer s H vs Q E hr h => ?_)
  · obtain ⟨d, x, rfl, _⟩ := h
    rfl
  obtain ⟨d, x, rfl, hd, ok, q⟩ := h
  refine ⟨_, (@pss_cons _ _ _ _ _ (@ps_if _ _ _ _ _ _ _ _ (PW.pt (@pw_or _ _ _ _ _ _ _ (@pt_not _ _ _ _ (@pt_val _ _ _ (pe_callB (call_isiN' (K := K) rfl) rfl T.z_isinstance boot_isinstance (@pa_cons _ _ _ _ _ (pv 0) (@pa_cons _ _ _ _ _ (pe_gty rfl T.z_str boot_str) pa_nil (by rfl)) (by rfl))) (by intro _; rfl))) (@pw_or1 _ _ _ _ (@pt_not _ _ _ _ (pt_chain op_le op_le pe_int (pe_callB call_len_str rfl T.z_len PySem.boot_len (@pa_cons _ _ _ _ _ (pv 0) pa_nil (by rfl))) (pe_gint rfl c_LONGEST_NAME)))))) (@pss_one _ _ _ (@ps_ret _ _ _ _ pe_bl)) pss_nil) (@pss_one _ _ _ (@ps_ret _ _ _ _ (pe_and (pe_cmpR op_ne (pv 0) (pe_gstr rfl c_EACH) (nomark _)) (pe_one (pe_callB call_all rfl T.z_all boot_all (@pa_cons _ _ _ _ _ (pe_comp rfl (cs0 (NL := ["letter"]) rfl (by decide +kernel) (by decide +kernel)) (pi_str (pv 0)) (fun _ _ _ _ => (pg_name (i := 0) (show List.Nodup (α := Str) ["letter"] by decide +kernel) rfl (Or.inl rfl))) (fun _ _ _ _ => (pe_cmpR op_in_str (pv 0) (pe_gstr rfl c_LETTERS) rfl))) pa_nil (by rfl)))))))), ?_⟩
  cases hd with
  | non => cases ok
  | bl => cases ok
  | int => exact ⟨_, rfl, _, _, _, rfl, .int_str, _, rfl, iteT (iteT (q H (Same.refl H)))⟩
  | tup ht _ _ => exact ⟨_, rfl, _, _, _, rfl, .tup_str ht, _, rfl, iteT (iteT (q H (Same.refl H)))⟩
  | @str z =>
    have hz : z.length ≤ sizeLine := small (of_decide_eq_true ok)
    replace q : ∀ H', Same H H' → Q (.bl (nameB z)) H' := q
    refine ⟨_, rfl, _, _, _, rfl, .str_str, _, rfl, iteF ?_⟩
    refine ⟨_, rfl, z, rfl, hz, _, _, rfl, rfl, _, rfl, ?_⟩
    refine ite2 (fun c1 => ?_) (fun c1 => ?_)
    · refine ⟨_, _, rfl, rfl, _, rfl, ?_⟩
      refine ite2 (fun c2 => ?_) (fun c2 => ?_)
      · have e : nameB z = false := by
          have c2' : ¬ ((z.length : Int) ≤ 8) := by simpa using c2
          have : ¬ z.length ≤ 8 := by omega
          simp [nameB, this]
        rw [← e]
        exact q H (Same.refl H)
      · have l1 : 1 ≤ z.length := by
          have : (1 : Int) ≤ z.length := of_decide_eq_true c1
          omega
        have l2 : z.length ≤ 8 := by
          have : ((z.length : Int) ≤ 8) := by simpa using c2
          omega
        refine ⟨_, rfl, rfl, _, rfl, ?_⟩
        refine ite2 (fun c3 => ?_) (fun c3 => ?_)
        · refine ⟨_, rfl, z, rfl, fun l hl => all_in (K := K) hl hz (fun H' g => ?_) rfl⟩
          have n3 : ¬ (z = "each") := by simpa using c3
          have e : nameB z = z.cps.toList.all inB := by simp [nameB, l1, l2, n3]
          rw [← e]
          exact q H' g
        · have n3 : z = "each" := by simpa using c3
          have e : nameB z = false := by simp [nameB, n3]
          rw [← e]
          exact q H (Same.refl H)
    · refine ⟨_, rfl, iteT ?_⟩
      have e : nameB z = false := by
        have : ¬ (1 : Int) ≤ z.length := by simpa using c1
        have : ¬ 1 ≤ z.length := by omega
        simp [nameB, this]
      rw [← e]
      exact q H (Same.refl H)
theorem isStrV {K : PySem.W.Frag} {H : Hp} {w : Str} {v : V} (h : IsP K H (.str w) v) : v = .str w := by cases h; rfl
theorem iteY {A B : Prop} {x : V} (h : A) : if decide (x = x) = true then A else B := by rw [if_pos (decide_eq_true rfl)]; exact h
theorem iteN {A B : Prop} {x y : V} (n : x ≠ y) (h : B) : if decide (x = y) = true then A else B := by rw [if_neg (fun c => n (of_decide_eq_true c))]; exact h
theorem iteY' {A B : Prop} {x y : V} (n : x ≠ y) (h : A) : if (!decide (x = y)) = true then A else B := by rw [if_pos (by rw [decide_eq_false n]; rfl)]; exact h
theorem iteN' {A B : Prop} {x : V} (h : B) : if (!decide (x = x)) = true then A else B := by rw [if_neg (by rw [decide_eq_true rfl]; decide)]; exact h
theorem strNe {a b : Str} (h : a ≠ b) : V.str a ≠ V.str b := fun e => h (V.str.inj e)
theorem ok_item_kind (T : Tx K mg ad) {f : Addr} {fd : FuncData} (F : Gn K mg "item_kind" s_item_kind ["kind"] f fd) : FnOk P w K mg base CX0 1 f fd ["kind"] (sp_item_kind K ad) := by
  refine F.F.ok sc_item_kind (fun vs H Q E h => ?_) (fun cdv A outer s H vs Q E hr h => ?_)
  · obtain ⟨a, c, d, x, rfl, _⟩ := h
    rfl
  obtain ⟨a, c, d, x, rfl, hd, gk, q⟩ := h
  refine ⟨_, (@pss_cons _ _ _ _ _ (@ps_if _ _ _ _ _ _ _ _ (pt_cmpR op_eq (@pe_ix _ _ _ _ _ _ _ (ix_tupPN (K := K) rfl) (pv 0) pe_int (fun _ _ => rfl)) pe_str (nomark _)) (@pss_one _ _ _ (@ps_ret _ _ _ _ (@pe_ix _ _ _ _ _ _ _ (ix_tupPN (K := K) rfl) (pv 0) pe_int (fun _ _ => rfl)))) pss_nil) (@pss_cons _ _ _ _ _ (@ps_if _ _ _ _ _ _ _ _ (pt_cmpR op_eq (@pe_ix _ _ _ _ _ _ _ (ix_tupPN (K := K) rfl) (pv 0) pe_int (fun _ _ => rfl)) pe_str (nomark _)) (@pss_one _ _ _ (@ps_ret _ _ _ _ (@pe_ix _ _ _ _ _ _ _ (ix_tupPN (K := K) rfl) (pv 0) pe_int (fun _ _ => rfl)))) pss_nil) (@pss_one _ _ _ (@ps_ret _ _ _ _ pe_non)))), ?_⟩
  cases gk with
  | list g =>
    refine ⟨_, rfl, _, _, _, hd, rfl, rfl, fun v hv => ?_⟩
    obtain rfl := isStrV hv
    refine ⟨rfl, _, rfl, iteY ⟨_, rfl, _, _, _, hd, rfl, rfl, fun v hv => ?_⟩⟩
    exact q v hv
  | rows g =>
    refine ⟨_, rfl, _, _, _, hd, rfl, rfl, fun v hv => ?_⟩
    obtain rfl := isStrV hv
    refine ⟨rfl, _, rfl, iteN (strNe (by decide)) ⟨_, rfl, _, _, _, hd, rfl, rfl, fun v hv => ?_⟩⟩
    obtain rfl := isStrV hv
    refine ⟨rfl, _, rfl, iteY ⟨_, rfl, _, _, _, hd, rfl, rfl, fun v hv => ?_⟩⟩
    exact q v hv
  | _ =>
    refine ⟨_, rfl, _, _, _, hd, rfl, rfl, fun v hv => ?_⟩
    obtain rfl := isStrV hv
    refine ⟨rfl, _, rfl, iteN (strNe (by decide)) ⟨_, rfl, _, _, _, hd, rfl, rfl, fun v hv => ?_⟩⟩
    obtain rfl := isStrV hv
    exact ⟨rfl, _, rfl, iteN (strNe (by decide)) q⟩
theorem ok_is_whole (T : Tx K mg ad) {f : Addr} {fd : FuncData} (F : Gn K mg "is_whole" s_is_whole ["thing"] f fd) : FnOk P w K mg base CX0 1 f fd ["thing"] (sp_is_whole K ad) := by
  refine F.F.ok sc_is_whole (fun vs H Q E h => ?_) (fun cdv A outer s H vs Q E hr h => ?_)
  · obtain ⟨d, x, rfl, _⟩ := h
    rfl
  obtain ⟨d, x, rfl, hd, ok, q⟩ := h
  refine ⟨_, (@pss_one _ _ _ (@ps_ret _ _ _ _ (pe_and (pe_callB (call_isiN' (K := K) rfl) rfl T.z_isinstance boot_isinstance (@pa_cons _ _ _ _ _ (pv 0) (@pa_cons _ _ _ _ _ (pe_gty rfl T.z_int boot_int) pa_nil (by rfl)) (by rfl))) (pe_one (pe_not (pe_callB (call_isiN' (K := K) rfl) rfl T.z_isinstance boot_isinstance (@pa_cons _ _ _ _ _ (pv 0) (@pa_cons _ _ _ _ _ (pe_gty rfl T.z_bool boot_bool) pa_nil (by rfl)) (by rfl)))))))), ?_⟩
  cases hd with
  | non => cases ok
  | bl => cases ok
  | int => exact ⟨_, rfl, _, _, _, rfl, .int_int, _, rfl, iteT ⟨_, rfl, _, _, _, rfl, .int_bool, _, rfl, q⟩⟩
  | str => exact ⟨_, rfl, _, _, _, rfl, .str_int, _, rfl, iteF q⟩
  | tup ht _ _ => exact ⟨_, rfl, _, _, _, rfl, .tup_int ht, _, rfl, iteF q⟩
theorem ok_is_whole_within (T : Tx K mg ad) {f : Addr} {fd : FuncData} (F : Gn K mg "is_whole_within" s_is_whole_within ["thing", "low", "high"] f fd) : FnOk P w K mg base CX0 2 f fd ["thing", "low", "high"] (sp_is_whole_within K ad) := by
  obtain ⟨f_is_whole, fd_is_whole, D_is_whole⟩ := T.is_whole
  have G_is_whole := ok_is_whole (P := P) (w := w) (base := base) T D_is_whole
  refine F.F.ok sc_is_whole_within (fun vs H Q E h => ?_) (fun cdv A outer s H vs Q E hr h => ?_)
  · obtain ⟨d, x, j, k, rfl, _⟩ := h
    rfl
  obtain ⟨d, x, j, k, rfl, hd, ok, q⟩ := h
  refine ⟨_, (@pss_one _ _ _ (@ps_ret _ _ _ _ (pe_and (pe_call G_is_whole (hr.mono (by first | decide | omega)) rfl D_is_whole.m D_is_whole.F.kp D_is_whole.b .nil pass0 (@pa_cons _ _ _ _ _ (pv 0) pa_nil (by rfl))) (pe_one (pe_chain op_le op_le (pv 1) (pv 0) (pv 2)))))), ?_⟩
  refine ⟨_, rfl, d, x, rfl, hd, ok, ?_⟩
  cases hd with
  | non => cases ok
  | bl => cases ok
  | str => exact ⟨_, rfl, iteF q⟩
  | tup ht _ _ => exact ⟨_, rfl, iteF q⟩
  | @int i =>
    replace q : Q (.bl (decide (j ≤ i) && decide (i ≤ k))) H := q
    refine ⟨_, rfl, iteT ?_⟩
    refine ⟨_, rfl, _, rfl, _, _, rfl, rfl, _, rfl, ?_⟩
    refine ite2 (fun c => ⟨_, rfl, _, _, rfl, rfl, ?_⟩) (fun c => ?_)
    · show Q (.bl (decide (i ≤ k))) H
      rw [c, Bool.true_and] at q
      exact q
    · rw [Bool.eq_false_iff.mpr c, Bool.false_and] at q
      exact q
theorem at0 {α : Type} (c : α) (r : List α) : atI (c :: r) 0 = some c := by
  have e : atI (c :: r) ((0 : Nat) : Int) = some c := atI_nat (by rfl)
  exact e
theorem pow30 : (10 : Int) ^ (30 : Int).toNat = 1000000000000000000000000000000 := by decide +kernel
theorem ok_are_bounds (T : Tx K mg ad) {f : Addr} {fd : FuncData} (F : Gn K mg "are_bounds" s_are_bounds ["low", "high"] f fd) : FnOk P w K mg base CX0 2 f fd ["low", "high"] (sp_are_bounds K ad) := by
  obtain ⟨f_is_whole, fd_is_whole, D_is_whole⟩ := T.is_whole
  have G_is_whole := ok_is_whole (P := P) (w := w) (base := base) T D_is_whole
  refine F.F.ok sc_are_bounds (fun vs H Q E h => ?_) (fun cdv A outer s H vs Q E hr h => ?_)
  · obtain ⟨d, e, x, y, rfl, _⟩ := h
    rfl
  obtain ⟨d, e, x, y, rfl, hd, he, ok, ok', q⟩ := h
  refine ⟨_, (@pss_cons _ _ _ _ _ (@ps_if _ _ _ _ _ _ _ _ (PW.pt (@pw_or _ _ _ _ _ _ _ (@pt_not _ _ _ _ (@pt_val _ _ _ (pe_call G_is_whole (hr.mono (by first | decide | omega)) rfl D_is_whole.m D_is_whole.F.kp D_is_whole.b .nil pass0 (@pa_cons _ _ _ _ _ (pv 0) pa_nil (by rfl))) (by intro _; rfl))) (@pw_or1 _ _ _ _ (@pt_not _ _ _ _ (@pt_val _ _ _ (pe_call G_is_whole (hr.mono (by first | decide | omega)) rfl D_is_whole.m D_is_whole.F.kp D_is_whole.b .nil pass0 (@pa_cons _ _ _ _ _ (pv 1) pa_nil (by rfl))) (by intro _; rfl)))))) (@pss_one _ _ _ (@ps_ret _ _ _ _ pe_bl)) pss_nil) (@pss_one _ _ _ (@ps_ret _ _ _ _ (pe_chain3 op_le op_le op_le (@pe_un _ _ _ _ _ _ un_neg (@pe_op _ _ _ _ _ _ _ _ op_pow pe_int pe_int)) (pv 0) (pv 1) (@pe_op _ _ _ _ _ _ _ _ op_pow pe_int pe_int))))), ?_⟩
  refine ⟨_, rfl, d, x, rfl, hd, ok, _, rfl, ?_⟩
  cases hd with
  | non => cases ok
  | bl => cases ok
  | str => exact iteT (iteT q)
  | tup ht _ _ => exact iteT (iteT q)
  | @int i =>
    refine iteF ⟨_, rfl, e, y, rfl, he, ok', _, rfl, ?_⟩
    cases he with
    | non => cases ok'
    | bl => cases ok'
    | str => exact iteT q
    | tup ht _ _ => exact iteT q
    | @int j =>
      replace q : Q (.bl (decide (-1000000000000000000000000000000 ≤ i) && decide (i ≤ j) && decide (j ≤ 1000000000000000000000000000000))) H := q
      refine iteF ?_
      refine ⟨_, _, rfl, rfl, ⟨by decide, by decide, by decide⟩, _, rfl, _, rfl, _, _, rfl, rfl, _, rfl, ?_⟩
      rw [pow30]
      refine ite2 (fun c => ⟨_, rfl, _, _, rfl, rfl, _, rfl, ?_⟩) (fun c => ?_)
      · replace c : decide (-1000000000000000000000000000000 ≤ i) = true := c
        rw [c, Bool.true_and] at q
        refine ite2 (fun c => ?_) (fun c => ?_)
        · refine ⟨_, _, rfl, rfl, ⟨by decide, by decide, by decide⟩, _, _, rfl, rfl, ?_⟩
          rw [pow30]
          replace c : decide (i ≤ j) = true := c
          rw [c, Bool.true_and] at q
          exact q
        · replace c : ¬ decide (i ≤ j) = true := c
          rw [Bool.eq_false_iff.mpr c, Bool.false_and] at q
          exact q
      · replace c : ¬ decide (-1000000000000000000000000000000 ≤ i) = true := c
        rw [Bool.eq_false_iff.mpr c, Bool.false_and, Bool.false_and] at q
        exact q
theorem scal_look (u : Str) (n : Int) : ∀ l : List (Str × Int), scal (lookI u l) (.int n) = true
  | [] => rfl
  | (x, i) :: D => by
    unfold lookI
    split
    · rfl
    · exact scal_look u n D
theorem ok_has_parts (T : Tx K mg ad) {f : Addr} {fd : FuncData} (F : Gn K mg "has_parts" s_has_parts ["thing"] f fd) : FnOk P w K mg base CX0 1 f fd ["thing"] (sp_has_parts K ad) := by
  obtain ⟨t_PART_COUNTS, c_PART_COUNTS, d_PART_COUNTS⟩ := T.PART_COUNTS
  refine F.F.ok sc_has_parts (fun vs H Q E h => ?_) (fun cdv A outer s H vs Q E hr h => ?_)
  · obtain ⟨d, x, rfl, _⟩ := h
    rfl
  obtain ⟨d, x, rfl, hd, ok, q⟩ := h
  refine ⟨_, (@pss_cons _ _ _ _ _ (@ps_if _ _ _ _ _ _ _ _ (PW.pt (@pw_or _ _ _ _ _ _ _ (@pt_not _ _ _ _ (@pt_val _ _ _ (pe_callB (call_isiN' (K := K) rfl) rfl T.z_isinstance boot_isinstance (@pa_cons _ _ _ _ _ (pv 0) (@pa_cons _ _ _ _ _ (pe_gty rfl T.z_tuple boot_tuple) pa_nil (by rfl)) (by rfl))) (by intro _; rfl))) (@pw_or _ _ _ _ _ _ _ (pt_cmpR op_eq (pe_callB (call_lenDN (K := K) rfl) rfl T.z_len PySem.boot_len (@pa_cons _ _ _ _ _ (pv 0) pa_nil (by rfl))) pe_int (nomark _)) (@pw_or1 _ _ _ _ (@pt_not _ _ _ _ (@pt_val _ _ _ (pe_callB (call_isiN' (K := K) rfl) rfl T.z_isinstance boot_isinstance (@pa_cons _ _ _ _ _ (@pe_ix _ _ _ _ _ _ _ (ix_tupPN (K := K) rfl) (pv 0) pe_int (fun _ _ => rfl)) (@pa_cons _ _ _ _ _ (pe_gty rfl T.z_str boot_str) pa_nil (by rfl)) (by rfl))) (by intro _; rfl))))))) (@pss_one _ _ _ (@ps_ret _ _ _ _ pe_bl)) pss_nil) (@pss_one _ _ _ (@ps_ret _ _ _ _ (pe_cmpR op_eq (pe_kget d_PART_COUNTS rfl c_PART_COUNTS (@pa_cons _ _ _ _ _ (@pe_ix _ _ _ _ _ _ _ (ix_tupPN (K := K) rfl) (pv 0) pe_int (fun _ _ => rfl)) pa_nil (by rfl))) (pe_callB (call_lenDN (K := K) rfl) rfl T.z_len PySem.boot_len (@pa_cons _ _ _ _ _ (pv 0) pa_nil (by rfl))) (nomark _))))), ?_⟩
  cases d with
  | non => cases ok
  | bl => cases ok
  | int i =>
    cases hd
    exact ⟨_, rfl, _, _, _, rfl, .int_tuple, _, rfl, iteT (iteT q)⟩
  | str z =>
    cases hd
    exact ⟨_, rfl, _, _, _, rfl, .str_tuple, _, rfl, iteT (iteT q)⟩
  | tup l =>
    obtain ⟨a, xs, rfl, ha, pa, ra⟩ := id hd.unref
    refine ⟨_, rfl, _, _, _, rfl, .tup_tuple ha, _, rfl, iteF ?_⟩
    refine ⟨_, rfl, _, _, rfl, hd.d, rfl, _, rfl, ?_⟩
    cases l with
    | nil => exact iteY (iteT q)
    | cons e l =>
      refine iteN (fun z => ?_) ?_
      · injection z with z
        rw [List.length_cons] at z
        omega
      have oke := ok_mem ok e List.mem_cons_self
      refine ⟨_, rfl, _, _, _, hd, rfl, at0 _ _, fun v hv => ?_⟩
      cases e with
      | non => cases oke
      | bl => cases oke
      | int i =>
        cases hv
        exact ⟨_, _, _, rfl, .int_str, _, rfl, iteT q⟩
      | tup l =>
        obtain ⟨a1, xs1, rfl, ha1, _, _⟩ := id hv.unref
        exact ⟨_, _, _, rfl, .tup_str ha1, _, rfl, iteT q⟩
      | str u =>
        obtain rfl := isStrV hv
        refine ⟨_, _, _, rfl, .str_str, _, rfl, iteF ?_⟩
        refine ⟨_, rfl, _, _, _, hd, rfl, at0 _ _, fun v hv => ?_⟩
        obtain rfl := isStrV hv
        refine ⟨_, rfl, _, rfl, _, _, rfl, hd.d, scal_look u _ _, q⟩
theorem names_strs : ∀ {l : List Dt}, l.all nameD = true → l = (l.map strD).map Dt.str
  | [], _ => rfl
  | d :: l, h => by
    rw [List.all_cons, Bool.and_eq_true] at h
    rw [List.map_cons, List.map_cons, ← names_strs h.2]
    cases d with
    | str z => rfl
    | _ => exact absurd h.1 Bool.false_ne_true
theorem strs_valsP {K : PySem.W.Frag} {H : Hp} : ∀ {ws : List Str} {xs : List V}, IsPs K H (ws.map Dt.str) xs → xs = ws.map V.str
  | [], xs, h => by cases h; rfl
  | w :: ws, xs, h => by
    cases h with
    | cons h1 h2 => rw [isStrV h1, strs_valsP h2]; rfl
theorem dec_nat (m n : Nat) : decide (V.int (m : Int) = V.int (n : Int)) = decide (m = n) := by
  rw [Bool.eq_iff_iff]
  simp
  omega
theorem ok_are_words (T : Tx K mg ad) {f : Addr} {fd : FuncData} (F : Gn K mg "are_words" s_are_words ["words"] f fd) : FnOk P w K mg base CX0 2 f fd ["words"] (sp_are_words K ad) := by
  obtain ⟨f_is_name, fd_is_name, D_is_name⟩ := T.is_name
  have G_is_name := ok_is_name (P := P) (w := w) (base := base) T D_is_name
  obtain ⟨t_MOST_WORDS, c_MOST_WORDS⟩ := T.MOST_WORDS
  refine F.F.ok sc_are_words (fun vs H Q E h => ?_) (fun cdv A outer s H vs Q E hr h => ?_)
  · obtain ⟨d, x, rfl, _⟩ := h
    rfl
  obtain ⟨d, x, rfl, hd, ok, q⟩ := h
  refine ⟨_, (@pss_cons _ _ _ _ _ (@ps_if _ _ _ _ _ _ _ _ (PW.pt (@pw_or _ _ _ _ _ _ _ (@pt_not _ _ _ _ (@pt_val _ _ _ (pe_callB (call_isiN' (K := K) rfl) rfl T.z_isinstance boot_isinstance (@pa_cons _ _ _ _ _ (pv 0) (@pa_cons _ _ _ _ _ (pe_gty rfl T.z_tuple boot_tuple) pa_nil (by rfl)) (by rfl))) (by intro _; rfl))) (@pw_or1 _ _ _ _ (@pt_not _ _ _ _ (pt_chain op_le op_le pe_int (pe_callB (call_lenDN (K := K) rfl) rfl T.z_len PySem.boot_len (@pa_cons _ _ _ _ _ (pv 0) pa_nil (by rfl))) (pe_gint rfl c_MOST_WORDS)))))) (@pss_one _ _ _ (@ps_ret _ _ _ _ pe_bl)) pss_nil) (@pss_one _ _ _ (@ps_ret _ _ _ _ (pe_and (pe_callB call_all rfl T.z_all boot_all (@pa_cons _ _ _ _ _ (pe_comp rfl (cs0 (NL := ["word"]) rfl (by decide +kernel) (by decide +kernel)) (pi_tupN (K := K) rfl (pv 0)) (fun _ _ _ _ => (pg_name (i := 0) (show List.Nodup (α := Str) ["word"] by decide +kernel) rfl (Or.inl rfl))) (fun _ _ _ _ => (pe_call G_is_name (hr.mono (by first | decide | omega)) rfl D_is_name.m D_is_name.F.kp D_is_name.b .nil pass0 (@pa_cons _ _ _ _ _ (pv 0) pa_nil (by rfl))))) pa_nil (by rfl))) (pe_one (pe_cmpR op_eq (pe_callB call_lenS rfl T.z_len PySem.boot_len (@pa_cons _ _ _ _ _ (pe_callTy (call_setP rfl) rfl T.z_set boot_set (@pa_cons _ _ _ _ _ (pv 0) pa_nil (by rfl))) pa_nil (by rfl))) (pe_callB (call_lenDN (K := K) rfl) rfl T.z_len PySem.boot_len (@pa_cons _ _ _ _ _ (pv 0) pa_nil (by rfl))) (nomark _))))))), ?_⟩
  cases d with
  | non => cases ok
  | bl => cases ok
  | int i =>
    cases hd
    exact ⟨_, rfl, _, _, _, rfl, .int_tuple, _, rfl, iteT (iteT (q H (Same.refl H)))⟩
  | str z =>
    cases hd
    exact ⟨_, rfl, _, _, _, rfl, .str_tuple, _, rfl, iteT (iteT (q H (Same.refl H)))⟩
  | tup ds =>
    obtain ⟨a, xs, rfl, hT, pa, ra⟩ := id hd.unref
    have el := ra.length
    replace q : ∀ H', Same H H' → Q (.bl (decide (1 ≤ ds.length) && decide (ds.length ≤ 8) && ds.all nameD && decide (seenN (ds.map strD) = ds.length))) H' := q
    refine ⟨_, rfl, _, _, _, rfl, .tup_tuple hT, _, rfl, iteF ?_⟩
    refine ⟨_, rfl, _, _, rfl, hd.d, _, _, rfl, rfl, _, rfl, ite2 (fun c1 => ?_) (fun c1 => ?_)⟩
    · have l1 : 1 ≤ ds.length := by
        have : (1 : Int) ≤ ds.length := of_decide_eq_true c1
        omega
      refine ⟨_, _, rfl, rfl, _, rfl, ite2 (fun c2 => ?_) (fun c2 => ?_)⟩
      · have l2 : ¬ ds.length ≤ 8 := by
          have c2' : ¬ ((ds.length : Int) ≤ 8) := by simpa using c2
          omega
        rw [decide_eq_false l2, Bool.and_false, Bool.false_and, Bool.false_and] at q
        exact q H (Same.refl H)
      · have l2 : ds.length ≤ 8 := by
          have : ((ds.length : Int) ≤ 8) := by simpa using c2
          omega
        rw [decide_eq_true l1, decide_eq_true l2, Bool.true_and, Bool.true_and] at q
        refine ⟨_, rfl, a, rfl, ⟨_, hT⟩, fun l hln => ?_⟩
        refine comp_tupR (K := K) (xs := xs) (fun i ys σ H' => ys = bls ((ds.take i).map nameD) ∧ Same H H' ∧ H' l = some (.lst ys) ∧ σ.length = 1) ⟨rfl, same_new hln _, upd_same, rfl⟩ (fun i ys σ H' _ r => r.2.1.tup hT) ?_ ?_
        · rintro i y ys σ H1 N hy ⟨rfl, g, e1, hσ⟩ next
          obtain ⟨d, hdi, hp⟩ := ra.get' hy
          have nx : bls ((ds.take i).map nameD) ++ [V.bl (nameD d)] = bls ((ds.take (i + 1)).map nameD) := by
            show List.map V.bl _ ++ [V.bl (nameD d)] = List.map V.bl _
            rw [List.map_map, List.map_map]
            exact take_next (V.bl ∘ nameD) hdi
          have hlen : (bls ((ds.take i).map nameD)).length < sizeLine := by
            simp only [bls, List.length_map, List.length_take]
            exact small1000 (by omega)
          match σ, hσ with
          | [_], _ => exact ⟨_, rfl, d, y, rfl, hp.same g, ok_mem ok d (List.mem_of_getElem? hdi), fun H2 g2 => ⟨g2 _ _ e1, hlen, next _ _ _ ⟨nx, same_upd hln (g.trans g2), upd_same, rfl⟩⟩⟩
        · rintro ys σ H1 ⟨rfl, g, e1, _⟩
          rw [← el, List.take_length] at e1
          refine ⟨l, ds.map nameD, rfl, rfl, SqL.of e1, _, rfl, ?_⟩
          have ea : (ds.map nameD).all id = ds.all nameD := by rw [List.all_map]; rfl
          rw [ea]
          cases hb : ds.all nameD with
          | false =>
            rw [hb, Bool.false_and] at q
            exact iteF (q H1 g)
          | true =>
            rw [hb, Bool.true_and] at q
            have es := names_strs hb
            rw [es] at ra
            have ex := strs_valsP ra
            subst ex
            refine iteT ?_
            refine ⟨_, rfl, a, (ds.map strD).map Sum.inr, rfl, by rw [List.map_map]; exact g.tup hT, by rw [List.length_map, List.length_map]; omega, fun p hp => ?_⟩
            refine ⟨p, _, rfl, upd_same, ?_⟩
            refine ⟨_, rfl, _, _, rfl, ((hd.same g).same (same_new hp _)).d, rfl, ?_⟩
            rw [dec_nat]
            exact q _ (g.trans (same_new hp _))
    · have l1 : ¬ 1 ≤ ds.length := by
        have : ¬ (1 : Int) ≤ ds.length := by simpa using c1
        omega
      refine ⟨_, rfl, iteT ?_⟩
      rw [decide_eq_false l1, Bool.false_and, Bool.false_and, Bool.false_and] at q
      exact q H (Same.refl H)
noncomputable def sform (K : PySem.W.Frag) (n : Nat) : Sp := fun vs H Q _ => ∃ (r : Nat) (d : Dt) (x : V), r < n ∧ vs = [x, .int r] ∧ IsP K H d x ∧ okD d = true ∧ ∀ H', Same H H' → Q (.bl (formD r d)) H'
noncomputable def sfield (K : PySem.W.Frag) (n : Nat) : Sp := fun vs H Q _ => ∃ (r : Nat) (d : Dt) (x : V), r < n ∧ vs = [x, .int r] ∧ IsP K H d x ∧ okD d = true ∧ ∀ H', Same H H' → Q (.bl (fieldD (formD r) d)) H'
noncomputable def sfields (K : PySem.W.Frag) (n : Nat) : Sp := fun vs H Q _ => ∃ (r : Nat) (d : Dt) (x : V), r < n ∧ vs = [x, .int r] ∧ IsP K H d x ∧ okD d = true ∧ ∀ H', Same H H' → Q (.bl (fieldsD (formD r) d)) H'
noncomputable def srowsP (K : PySem.W.Frag) (n : Nat) : Sp := fun vs H Q _ => ∃ (r : Nat) (d e : Dt) (x y : V), r < n ∧ vs = [x, y, .int r] ∧ IsP K H d x ∧ IsP K H e y ∧ okD d = true ∧ okD e = true ∧ ∀ H', Same H H' → Q (.bl (rowsD (formD r) d e)) H'
theorem ok_is_field (T : Tx K mg ad) {f ff : Addr} {fd fdf : FuncData} (n : Nat) (F : Gn K mg "is_field" s_is_field ["field", "room"] f fd) (D_is_formed : Gn K mg "is_formed" s_is_formed ["thing", "room"] ff fdf)
    (G_is_formed : FnOk P w K mg base CX0 (3 * n + 3) ff fdf ["thing", "room"] (sform K n)) : FnOk P w K mg base CX0 (3 * n + 3 + 1) f fd ["field", "room"] (sfield K n) := by
  obtain ⟨f_is_name, fd_is_name, D_is_name⟩ := T.is_name
  have G_is_name := ok_is_name (P := P) (w := w) (base := base) T D_is_name
  refine F.F.ok sc_is_field (fun vs H Q E h => ?_) (fun cdv A outer s H vs Q E hr h => ?_)
  · obtain ⟨r, d, x, _, rfl, _⟩ := h
    rfl
  obtain ⟨r, d, x, hrn, rfl, hd, ok, q⟩ := h
  refine ⟨_, (@pss_cons _ _ _ _ _ (@ps_if _ _ _ _ _ _ _ _ (PW.pt (@pw_or _ _ _ _ _ _ _ (@pt_not _ _ _ _ (@pt_val _ _ _ (pe_callB (call_isiN' (K := K) rfl) rfl T.z_isinstance boot_isinstance (@pa_cons _ _ _ _ _ (pv 0) (@pa_cons _ _ _ _ _ (pe_gty rfl T.z_tuple boot_tuple) pa_nil (by rfl)) (by rfl))) (by intro _; rfl))) (@pw_or1 _ _ _ _ (pt_cmpR op_ne (pe_callB (call_lenDN (K := K) rfl) rfl T.z_len PySem.boot_len (@pa_cons _ _ _ _ _ (pv 0) pa_nil (by rfl))) pe_int (nomark _))))) (@pss_one _ _ _ (@ps_ret _ _ _ _ pe_bl)) pss_nil) (@pss_one _ _ _ (@ps_ret _ _ _ _ (pe_and (pe_call G_is_name (hr.mono (by first | decide | omega)) rfl D_is_name.m D_is_name.F.kp D_is_name.b .nil pass0 (@pa_cons _ _ _ _ _ (@pe_ix _ _ _ _ _ _ _ (ix_tupPN (K := K) rfl) (pv 0) pe_int (fun _ _ => rfl)) pa_nil (by rfl))) (pe_one (pe_call G_is_formed (hr.mono (by first | decide | omega)) rfl D_is_formed.m D_is_formed.F.kp D_is_formed.b .nil pass0 (@pa_cons _ _ _ _ _ (@pe_ix _ _ _ _ _ _ _ (ix_tupPN (K := K) rfl) (pv 0) pe_int (fun _ _ => rfl)) (@pa_cons _ _ _ _ _ (pv 1) pa_nil (by rfl)) (by rfl)))))))), ?_⟩
  cases d with
  | non => cases ok
  | bl => cases ok
  | int i =>
    cases hd
    exact ⟨_, rfl, _, _, _, rfl, .int_tuple, _, rfl, iteT (iteT (q H (Same.refl H)))⟩
  | str z =>
    cases hd
    exact ⟨_, rfl, _, _, _, rfl, .str_tuple, _, rfl, iteT (iteT (q H (Same.refl H)))⟩
  | tup l =>
    obtain ⟨a, xs, rfl, ha, pa, ra⟩ := id hd.unref
    refine ⟨_, rfl, _, _, _, rfl, .tup_tuple ha, _, rfl, iteF ?_⟩
    refine ⟨_, rfl, _, _, rfl, hd.d, rfl, _, rfl, ?_⟩
    by_cases h2 : l.length = 2
    · match l, h2 with
      | [e, e'], _ =>
        refine iteN' ?_
        refine ⟨_, rfl, _, _, _, hd, rfl, rfl, fun v hv => ?_⟩
        refine ⟨e, v, rfl, hv, ok_mem ok e List.mem_cons_self, fun H1 g1 => ?_⟩
        replace q : ∀ H', Same H H' → Q (.bl (nameD e && formD r e')) H' := q
        refine ⟨_, rfl, ?_⟩
        cases hb : nameD e with
        | false =>
          rw [hb, Bool.false_and] at q
          exact iteF (q H1 g1)
        | true =>
          rw [hb, Bool.true_and] at q
          refine iteT ?_
          refine ⟨_, rfl, _, _, _, hd.same g1, rfl, rfl, fun v hv => ?_⟩
          exact ⟨_, rfl, r, e', v, hrn, rfl, hv, ok_mem ok e' (List.mem_cons_of_mem _ List.mem_cons_self), fun H2 g2 => q H2 (g1.trans g2)⟩
    · have e0 : fieldD (formD r) (.tup l) = false := by
        unfold fieldD
        split
        · rename_i h; injection h with h; subst h; exact absurd rfl h2
        · rfl
      rw [e0] at q
      refine iteY' (fun z => ?_) (q H (Same.refl H))
      injection z with z
      omega
theorem pr2_unref {K : PySem.W.Frag} {H : Hp} {a b : Dt} {v : V} (h : IsP K H (.tup [a, b]) v) : ∃ c x y, v = .ref c ∧ SqT K H c [x, y] ∧ IsP K H a x ∧ IsP K H b y := by
  obtain ⟨c, xs, rfl, hc, pc, rc⟩ := h.unref
  cases rc with
  | cons r1 rc =>
    cases rc with
    | cons r2 rc =>
      cases rc
      exact ⟨c, _, _, rfl, hc, r1, r2⟩
theorem field_pair {f : Dt → Bool} {d : Dt} (h : fieldD f d = true) : ∃ z k, d = .tup [.str z, k] ∧ nameB z = true ∧ f k = true := by
  unfold fieldD at h
  split at h
  · rw [Bool.and_eq_true] at h
    rename_i a b
    cases a with
    | str z => exact ⟨z, b, rfl, h.1, h.2⟩
    | _ => exact absurd h.1 Bool.false_ne_true
  · cases h
theorem cutV_tail (xs : List V) : cutV xs (some 1) none = xs.drop 1 := by
  unfold cutV
  cases xs with
  | nil => rfl
  | cons x r =>
    have e1 : HT.sIx (x :: r).length 0 (some 1) = 1 := by
      have := HT.sIx_nat (x :: r).length 0 1
      rw [List.length_cons] at this ⊢
      rw [show (1 : Int) = ((1 : Nat) : Int) from rfl, this]
      omega
    have e2 : HT.sIx (x :: r).length (x :: r).length none = (x :: r).length := rfl
    rw [e1, e2]
    apply List.take_of_length_le
    rw [List.length_drop]
    exact Nat.le_refl _
theorem ok_are_fields (T : Tx K mg ad) {f ff : Addr} {fd fdf : FuncData} (n : Nat) (F : Gn K mg "are_fields" s_are_fields ["fields", "room"] f fd) (D_is_field : Gn K mg "is_field" s_is_field ["field", "room"] ff fdf)
    (G_is_field : FnOk P w K mg base CX0 (3 * n + 4) ff fdf ["field", "room"] (sfield K n)) : FnOk P w K mg base CX0 (3 * n + 4 + 1) f fd ["fields", "room"] (sfields K n) := by
  obtain ⟨t_MOST_FIELDS, c_MOST_FIELDS⟩ := T.MOST_FIELDS
  refine F.F.ok sc_are_fields (fun vs H Q E h => ?_) (fun cdv A outer s H vs Q E hr h => ?_)
  · obtain ⟨r, d, x, _, rfl, _⟩ := h
    rfl
  obtain ⟨r, d, x, hrn, rfl, hd, ok, q⟩ := h
  refine ⟨_, (@pss_cons _ _ _ _ _ (@ps_if _ _ _ _ _ _ _ _ (PW.pt (@pw_or _ _ _ _ _ _ _ (@pt_not _ _ _ _ (@pt_val _ _ _ (pe_callB (call_isiN' (K := K) rfl) rfl T.z_isinstance boot_isinstance (@pa_cons _ _ _ _ _ (pv 0) (@pa_cons _ _ _ _ _ (pe_gty rfl T.z_tuple boot_tuple) pa_nil (by rfl)) (by rfl))) (by intro _; rfl))) (@pw_or1 _ _ _ _ (pt_cmpR op_gt (pe_callB (call_lenDN (K := K) rfl) rfl T.z_len PySem.boot_len (@pa_cons _ _ _ _ _ (pv 0) pa_nil (by rfl))) (pe_gint rfl c_MOST_FIELDS) (nomark _))))) (@pss_one _ _ _ (@ps_ret _ _ _ _ pe_bl)) pss_nil) (@pss_cons _ _ _ _ _ (@ps_if _ _ _ _ _ _ _ _ (@pt_not _ _ _ _ (@pt_val _ _ _ (pe_callB call_all rfl T.z_all boot_all (@pa_cons _ _ _ _ _ (pe_comp rfl (csR (sc := defScope s_are_fields) (NL := ["field"]) (N := ["fields", "room", "names"]) (ρ := [1]) (N' := ["field", "room"]) rfl rfl rfl (by decide +kernel) (by decide +kernel) (by decide +kernel) rfl (by decide +kernel)) (pi_tupN (K := K) rfl (pv 0)) (fun _ _ _ _ => (pg_name (i := 0) (show List.Nodup (α := Str) ["field", "room"] by decide +kernel) rfl (Or.inl rfl))) (fun _ _ _ _ => (pe_call G_is_field (hr.mono (by first | decide | omega)) rfl D_is_field.m D_is_field.F.kp D_is_field.b .nil pass0 (@pa_cons _ _ _ _ _ (pv 0) (@pa_cons _ _ _ _ _ (pv 1) pa_nil (by rfl)) (by rfl))))) pa_nil (by rfl))) (by intro _; rfl))) (@pss_one _ _ _ (@ps_ret _ _ _ _ pe_bl)) pss_nil) (@pss_cons _ _ _ _ _ (ps_setC (j := 2) sc_are_fields.nd rfl (Or.inl rfl) rfl (cs0 (NL := ["name", "kind"]) rfl (by decide +kernel) (by decide +kernel)) (pi_tupN (K := K) rfl (pv 0)) (fun _ _ _ _ => (pg_tupK (K := K) (n := 2) rfl rfl (pgs_cons (pg_name (i := 0) (show List.Nodup (α := Str) ["name", "kind"] by decide +kernel) rfl (Or.inl rfl)) (pgs_cons (pg_name (i := 1) (show List.Nodup (α := Str) ["name", "kind"] by decide +kernel) rfl (Or.inl rfl)) pgs_nil)))) (fun _ _ _ _ => (pv 0))) (@pss_one _ _ _ (@ps_ret _ _ _ _ (pe_callB call_all rfl T.z_all boot_all (@pa_cons _ _ _ _ _ (pe_comp rfl (cs0 (NL := ["ahead", "behind"]) rfl (by decide +kernel) (by decide +kernel)) (pi_zip rfl T.z_zip (@pa_cons _ _ _ _ _ (pv 2) (@pa_cons _ _ _ _ _ (pe_slice sl_list (pv 2) (po_some pe_int) po_none) pa_nil (by rfl)) (by rfl))) (fun _ _ _ _ => (pg_tupK (K := K) (n := 2) rfl rfl (pgs_cons (pg_name (i := 0) (show List.Nodup (α := Str) ["ahead", "behind"] by decide +kernel) rfl (Or.inl rfl)) (pgs_cons (pg_name (i := 1) (show List.Nodup (α := Str) ["ahead", "behind"] by decide +kernel) rfl (Or.inl rfl)) pgs_nil)))) (fun _ _ _ _ => (pe_cmpR op_lt_str (pv 0) (pv 1) (nomark _)))) pa_nil (by rfl)))))))), ?_⟩
  cases d with
  | non => cases ok
  | bl => cases ok
  | int i =>
    cases hd
    exact ⟨_, rfl, _, _, _, rfl, .int_tuple, _, rfl, iteT (iteT (q H (Same.refl H)))⟩
  | str z =>
    cases hd
    exact ⟨_, rfl, _, _, _, rfl, .str_tuple, _, rfl, iteT (iteT (q H (Same.refl H)))⟩
  | tup ds =>
    obtain ⟨a, xs, rfl, ha, pa, ra⟩ := id hd.unref
    have el := ra.length
    replace q : ∀ H', Same H H' → Q (.bl (decide (ds.length ≤ 8) && ds.all (fieldD (formD r)) && adjB (ds.map nmD))) H' := q
    refine ⟨_, rfl, _, _, _, rfl, .tup_tuple ha, _, rfl, iteF ?_⟩
    refine ⟨_, rfl, _, _, rfl, hd.d, _, _, rfl, rfl, _, rfl, ite2 (fun c1 => ?_) (fun c1 => ?_)⟩
    · have l2 : ¬ ds.length ≤ 8 := by
        have : (8 : Int) < ds.length := of_decide_eq_true c1
        omega
      rw [decide_eq_false l2, Bool.false_and, Bool.false_and] at q
      exact q H (Same.refl H)
    have l2 : ds.length ≤ 8 := by
      have : ¬ ((8 : Int) < ds.length) := by simpa using c1
      omega
    rw [decide_eq_true l2, Bool.true_and] at q
    refine ⟨_, rfl, a, rfl, ⟨_, ha⟩, fun l hln => ?_⟩
    refine comp_tupR (K := K) (xs := xs) (fun i ys σ H' => ys = bls ((ds.take i).map (fieldD (formD r))) ∧ Same H H' ∧ H' l = some (.lst ys) ∧ ∃ v, σ = [v, some (.int r)]) ⟨rfl, same_new hln _, upd_same, none, rfl⟩ (fun i ys σ H' _ r => r.2.1.tup ha) ?_ ?_
    · rintro i y ys σ H1 N hy ⟨rfl, g, e1, v, rfl⟩ next
      obtain ⟨d, hdi, hp⟩ := ra.get' hy
      have nx : bls ((ds.take i).map (fieldD (formD r))) ++ [V.bl (fieldD (formD r) d)] = bls ((ds.take (i + 1)).map (fieldD (formD r))) := by
        show List.map V.bl _ ++ [V.bl _] = List.map V.bl _
        rw [List.map_map, List.map_map]
        exact take_next (V.bl ∘ fieldD (formD r)) hdi
      have hlen : (bls ((ds.take i).map (fieldD (formD r)))).length < sizeLine := by
        simp only [bls, List.length_map, List.length_take]
        exact small1000 (by omega)
      exact ⟨_, rfl, _, rfl, r, d, y, hrn, rfl, hp.same g, ok_mem ok d (List.mem_of_getElem? hdi), fun H2 g2 => ⟨g2 _ _ e1, hlen, next _ _ _ ⟨nx, same_upd hln (g.trans g2), upd_same, _, rfl⟩⟩⟩
    · rintro ys σ H1 ⟨rfl, g, e1, v, rfl⟩
      rw [← el, List.take_length] at e1
      refine ⟨l, ds.map (fieldD (formD r)), rfl, rfl, SqL.of e1, _, rfl, ?_⟩
      have ea : (ds.map (fieldD (formD r))).all id = ds.all (fieldD (formD r)) := by rw [List.all_map]; rfl
      rw [ea]
      cases hb : ds.all (fieldD (formD r)) with
      | false =>
        rw [hb, Bool.false_and] at q
        exact iteT (q H1 g)
      | true =>
        rw [hb, Bool.true_and] at q
        refine iteF ?_
        refine ⟨_, rfl, a, rfl, ⟨_, g.tup ha⟩, fun l2 hl2 => ?_⟩
        refine comp_tupR (K := K) (xs := xs) (fun i ys σ H' => ys = (ds.take i).map (fun d => V.str (nmD d)) ∧ Same H1 H' ∧ H' l2 = some (.lst ys) ∧ σ.length = 2) ⟨rfl, same_new hl2 _, upd_same, rfl⟩ (fun i ys σ H' _ r => (g.trans r.2.1).tup ha) ?_ ?_
        · rintro i y ys σ H2 N hy ⟨rfl, g2, e2, hσ⟩ next
          obtain ⟨d, hdi, hp⟩ := ra.get' hy
          obtain ⟨z, k, rfl, _, _⟩ := field_pair (List.all_eq_true.mp hb d (List.mem_of_getElem? hdi))
          obtain ⟨b, x1, y2, rfl, hb', hp1, hp2⟩ := pr2_unref ((hp.same g).same g2)
          obtain rfl := isStrV hp1
          match σ, hσ with
          | [_, _], _ =>
            refine ⟨b, _, rfl, hb', rfl, _, _, rfl, _, _, rfl, rfl, ?_⟩
            refine ⟨_, rfl, e2, ?_, next _ _ _ ⟨take_next (fun d => V.str (nmD d)) hdi, same_upd hl2 g2, upd_same, rfl⟩⟩
            rw [List.length_map, List.length_take]
            exact small1000 (by omega)
        · rintro ys σ H2 ⟨rfl, g2, e2, hσ⟩
          rw [← el, List.take_length] at e2
          have en : ds.map (fun d => V.str (nmD d)) = (ds.map nmD).map V.str := by rw [List.map_map]; rfl
          rw [en] at e2
          have lns : (ds.map nmD).length = ds.length := List.length_map ..
          generalize ds.map nmD = ns at *
          refine ⟨_, rfl, _, rfl, _, rfl, l2, _, rfl, SqL.of e2, fun l3 hl3 => ?_⟩
          have n23 : l2 ≠ l3 := ne_of_none e2 hl3
          have ec : cutV (ns.map V.str) (some 1) none = (ns.drop 1).map V.str := by rw [cutV_tail, List.map_drop]
          rw [ec]
          have e2' : (upd H2 l3 (.lst ((ns.drop 1).map V.str))) l2 = some (.lst (ns.map V.str)) := by rw [upd_ne n23]; exact e2
          refine ⟨l2, l3, rfl, ⟨_, SqL.of e2'⟩, ⟨_, SqL.of upd_same⟩, fun l4 hl4 => ?_⟩
          have g4 := (same_new hl3 (.lst ((ns.drop 1).map V.str)))
          refine comp_zipR (K := K) (xs := ns.map V.str) (ys := (ns.drop 1).map V.str) (fun i ys σ H' => ys = bls (((ns.zip (ns.drop 1)).take i).map fun p => decide (ltS p.1 p.2)) ∧ Same (upd H2 l3 (.lst ((ns.drop 1).map V.str))) H' ∧ H' l4 = some (.lst ys) ∧ σ.length = 2) ⟨rfl, same_new hl4 _, upd_same, rfl⟩ (fun i us σ H' r => ⟨SqL.of (r.2.1 _ _ e2'), SqL.of (r.2.1 _ _ upd_same)⟩) ?_ ?_
          · rintro i x y T us σ H5 N hx hy hT ⟨rfl, g5, e5, hσ⟩ next
            rw [List.getElem?_map] at hx hy
            obtain ⟨a1, ha1, rfl⟩ := Option.map_eq_some_iff.mp hx
            obtain ⟨b1, hb1, rfl⟩ := Option.map_eq_some_iff.mp hy
            have n4 : l4 ≠ T := ne_of_none e5 hT
            have hz : (ns.zip (ns.drop 1))[i]? = some (a1, b1) := List.getElem?_zip_eq_some.mpr ⟨ha1, hb1⟩
            have li := (List.getElem?_eq_some_iff.mp hz).1
            rw [List.length_zip] at li
            match σ, hσ with
            | [_, _], _ =>
              refine ⟨T, _, rfl, .inl (.inl upd_same), rfl, _, _, rfl, _, _, rfl, rfl, ?_⟩
              refine ⟨_, rfl, _, rfl, _, _, rfl, rfl, by rw [upd_ne n4]; exact e5, ?_, next _ _ _ ⟨?_, ?_, upd_same, rfl⟩⟩
              · simp only [bls, List.length_map, List.length_take]
                exact small1000 (by omega)
              · show List.map V.bl _ ++ [V.bl (decide (ltS a1 b1))] = List.map V.bl _
                rw [List.map_map, List.map_map]
                exact take_next (V.bl ∘ fun p : Str × Str => decide (ltS p.1 p.2)) hz
              · exact same_upd hl4 (g5.trans (same_new hT _))
          · rintro us σ H5 ⟨rfl, g5, e5, hσ⟩
            rw [List.length_map, List.length_map, ← List.length_zip, List.take_length] at e5
            refine ⟨l4, _, rfl, rfl, SqL.of e5, ?_⟩
            rw [List.all_map]
            exact q H5 (((g.trans g2).trans g4).trans g5)
noncomputable def sp_field_kind (K : PySem.W.Frag) (_ : Ads) : Sp := fun vs H Q _ => ∃ (fs : List Dt) (key : Dt) (x y : V), vs = [x, y] ∧ IsP K H (.tup [.str "record", .tup fs]) x ∧ IsP K H key y ∧ (∀ d ∈ fs, ∃ z k, d = .tup [.str z, k]) ∧ RetO K H (lookK fs key) Q
theorem lookK_none {fs : List Dt} {key : Dt} (h : ∀ d ∈ fs, isKey key d = false) : lookK fs key = none := by
  unfold lookK
  rw [List.find?_eq_none.mpr (fun d hd => by rw [h d hd]; exact Bool.false_ne_true)]
theorem lookK_at {fs : List Dt} {key o k : Dt} {i : Nat} (h : fs[i]? = some (.tup [o, k])) (hk : eqD o key = true) (pre : ∀ j d, j < i → fs[j]? = some d → isKey key d = false) : lookK fs key = some k := by
  have e : fs.find? (isKey key) = some (.tup [o, k]) := by
    obtain ⟨li, ei⟩ := List.getElem?_eq_some_iff.mp h
    rw [List.find?_eq_some_iff_getElem]
    refine ⟨hk, i, li, ei, fun j hj => ?_⟩
    have := pre j _ hj (List.getElem?_eq_getElem (Nat.lt_trans hj li))
    rw [this]
    rfl
  unfold lookK
  rw [e]
theorem ok_field_kind (T : Tx K mg ad) {f : Addr} {fd : FuncData} (F : Gn K mg "field_kind" s_field_kind ["kind", "name"] f fd) : FnOk P w K mg base CX0 1 f fd ["kind", "name"] (sp_field_kind K ad) := by
  refine F.F.ok sc_field_kind (fun vs H Q E h => ?_) (fun cdv A outer s H vs Q E hr h => ?_)
  · obtain ⟨fs, key, x, y, rfl, _⟩ := h
    rfl
  obtain ⟨fs, key, x, y, rfl, hd, hk, prs, q'⟩ := h
  refine ⟨_, (@pss_cons _ _ _ _ _ (@ps_if _ _ _ _ _ _ _ _ (pt_cmpR op_ne (@pe_ix _ _ _ _ _ _ _ (ix_tupPN (K := K) rfl) (pv 0) pe_int (fun _ _ => rfl)) pe_str (nomark _)) (@pss_one _ _ _ (@ps_ret _ _ _ _ pe_non)) pss_nil) (@pss_cons _ _ _ _ _ (ps_for PassesOwn.never rfl (pi_tupN (K := K) rfl (@pe_ix _ _ _ _ _ _ _ (ix_tupPN (K := K) rfl) (pv 0) pe_int (fun _ _ => rfl))) (pg_tup rfl (pgs_cons (pg_name (i := 2) sc_field_kind.nd rfl (Or.inl rfl)) (pgs_cons (pg_name (i := 3) sc_field_kind.nd rfl (Or.inl rfl)) pgs_nil)))
        (@pss_one _ _ _ (@ps_if _ _ _ _ _ _ _ _ (pt_cmpR (op_eqDK (K := K) rfl hr.units) (pv 2) (pv 1) (nomark _)) (@pss_one _ _ _ (@ps_ret _ _ _ _ (pv 3))) pss_nil))) (@pss_one _ _ _ (@ps_ret _ _ _ _ pe_non)))), ?_⟩
  refine ⟨_, rfl, _, _, _, hd, rfl, rfl, fun v hv => ?_⟩
  obtain rfl := isStrV hv
  refine ⟨rfl, _, rfl, iteN' ⟨_, rfl, _, _, _, hd, rfl, rfl, fun v hv => ?_⟩⟩
  obtain ⟨a, xs, rfl, ha, pa, ra⟩ := hv.unref
  have el := ra.length
  refine ⟨a, rfl, ⟨xs, ha⟩, for_tup (xs := xs) (fun i σ H' => H' = H ∧ (∀ j d, j < i → fs[j]? = some d → isKey key d = false) ∧ ∃ v1 v2, σ = [some x, some y, v1, v2]) ⟨rfl, fun j f hj => absurd hj (Nat.not_lt_zero _), _, _, rfl⟩ (fun i σ H' _ p => p.1 ▸ ha) ?_ ?_⟩
  · rintro i u σ H' hu ⟨rfl, pre, v1, v2, rfl⟩
    obtain ⟨e, he, hp⟩ := ra.get' hu
    obtain ⟨z, k, rfl⟩ := prs e (List.mem_of_getElem? he)
    obtain ⟨b, x1, y2, rfl, hb, hp1, hp2⟩ := pr2_unref hp
    refine ⟨b, _, rfl, hb, rfl, _, _, rfl, _, _, rfl, rfl, ?_⟩
    refine ⟨_, rfl, _, rfl, .str z, key, hp1.d, hk.d, (by show 0 ≤ 60; decide), _, rfl, ite2 (fun c => ?_) (fun c => ?_)⟩
    · rw [lookK_at he c pre] at q'
      exact ⟨_, rfl, q' _ hp2⟩
    · refine ⟨rfl, fun j f hj hjf => ?_, _, _, rfl⟩
      rcases Nat.lt_succ_iff_lt_or_eq.mp hj with h1 | h1
      · exact pre j f h1 hjf
      · subst h1
        rw [he] at hjf
        obtain rfl := Option.some.inj hjf
        exact Bool.eq_false_iff.mpr c
  · rintro σ H' ⟨rfl, pre, v1, v2, rfl⟩
    rw [lookK_none (fun d hd => by
      obtain ⟨j, hj, e⟩ := List.mem_iff_getElem.mp hd
      exact pre j d (by omega) (by rw [List.getElem?_eq_getElem hj, e]))] at q'
    exact q'
theorem in_two (w : Str) : inV (.str w) [.str "number", .str "text"] = (decide (w = "number") || decide (w = "text")) := by
  have e : ∀ a : Str, eqV (.str a) (.str w) = decide (w = a) := fun a => by
    show (a == w) = decide (w = a)
    rw [Bool.eq_iff_iff, decide_eq_true_iff, beq_iff_eq]
    exact ⟨Eq.symm, Eq.symm⟩
  show (eqV (.str "number") (.str w) || (eqV (.str "text") (.str w) || false)) = _
  rw [e, e, Bool.or_false]
theorem form_zero (d : Dt) : formD 0 d = false := by simp [formD]
theorem form_shape {r : Nat} {d : Dt} (h : formD r d = true) : ∃ u l, d = .tup (.str u :: l) := by
  unfold formD at h
  split at h <;> first | exact ⟨_, _, rfl⟩ | cases h
theorem form_rec {r : Nat} {l : List Dt} (h : formD r (.tup (.str "record" :: l)) = true) : ∃ r' fs, r = r' + 1 ∧ l = [.tup fs] ∧ fs.all (fieldD (formD r')) = true := by
  cases r with
  | zero => rw [form_zero] at h; cases h
  | succ r =>
    match l with
    | [] => cases h
    | [a] =>
      have h' : fieldsD (formD r) a = true := h
      cases a with
      | tup fs =>
        have h2 : (decide (fs.length ≤ 8) && fs.all (fieldD (formD r)) && adjB (fs.map nmD)) = true := h'
        rw [Bool.and_eq_true, Bool.and_eq_true] at h2
        exact ⟨r, fs, rfl, rfl, h2.1.2⟩
      | _ => cases h'
    | [a, b] => cases h
    | [a, b, c] => cases h
    | a :: b :: c :: e :: l => cases h
theorem rows_no {f : Dt → Bool} {key : Dt} {u : Str} {l : List Dt} (h : u ≠ "record") : rowsD f key (.tup (.str u :: l)) = false := by
  unfold rowsD
  split
  · rename_i e
    injection e with e
    injection e with e _
    injection e with e
    subst e
    rw [decide_eq_false h, Bool.false_and, Bool.and_false]
  · exact Bool.and_false _
theorem look_mem {fs : List Dt} {key k : Dt} (h : lookK fs key = some k) : ∃ o, .tup [o, k] ∈ fs := by
  unfold lookK at h
  split at h
  · rename_i o k' e
    obtain rfl := Option.some.inj h
    exact ⟨o, List.mem_of_find?_eq_some e⟩
  · cases h
theorem ok_are_rows (T : Tx K mg ad) {f ff : Addr} {fd fdf : FuncData} (n : Nat) (F : Gn K mg "are_rows" s_are_rows ["key", "items", "room"] f fd) (D_is_formed : Gn K mg "is_formed" s_is_formed ["thing", "room"] ff fdf)
    (G_is_formed : FnOk P w K mg base CX0 (3 * n + 3) ff fdf ["thing", "room"] (sform K n)) : FnOk P w K mg base CX0 (3 * n + 3 + 1) f fd ["key", "items", "room"] (srowsP K n) := by
  obtain ⟨f_field_kind, fd_field_kind, D_field_kind⟩ := T.field_kind
  have G_field_kind := ok_field_kind (P := P) (w := w) (base := base) T D_field_kind
  refine F.F.ok sc_are_rows (fun vs H Q E h => ?_) (fun cdv A outer s H vs Q E hr h => ?_)
  · obtain ⟨r, key, items, x, y, _, rfl, _⟩ := h
    rfl
  obtain ⟨r, key, items, x, y, hrn, rfl, hx, hy, okk, oki, q⟩ := h
  refine ⟨_, (@pss_cons _ _ _ _ _ (@ps_if _ _ _ _ _ _ _ _ (PW.pt (@pw_or _ _ _ _ _ _ _ (@pt_not _ _ _ _ (@pt_val _ _ _ (pe_call G_is_formed (hr.mono (by first | decide | omega)) rfl D_is_formed.m D_is_formed.F.kp D_is_formed.b .nil pass0 (@pa_cons _ _ _ _ _ (pv 1) (@pa_cons _ _ _ _ _ (pv 2) pa_nil (by rfl)) (by rfl))) (by intro _; rfl))) (@pw_or1 _ _ _ _ (pt_cmpR op_ne (@pe_ix _ _ _ _ _ _ _ (ix_tupPN (K := K) rfl) (pv 1) pe_int (fun _ _ => rfl)) pe_str (nomark _))))) (@pss_one _ _ _ (@ps_ret _ _ _ _ pe_bl)) pss_nil) (@pss_cons _ _ _ _ _ (@ps_set _ _ 3 _ _ _ _ sc_are_rows.nd rfl (Or.inl rfl) (pe_call G_field_kind (hr.mono (by first | decide | omega)) rfl D_field_kind.m D_field_kind.F.kp D_field_kind.b .nil pass0 (@pa_cons _ _ _ _ _ (pv 1) (@pa_cons _ _ _ _ _ (pv 0) pa_nil (by rfl)) (by rfl))) (by rfl) (by first | exact .inl rfl | exact .inr rfl | assumption)) (@pss_one _ _ _ (@ps_ret _ _ _ _ (pe_and (pe_cmpR op_notN (pv 3) pe_non (nomark _)) (pe_one (pe_cmpR (op_in_seqK (K := K) rfl) (@pe_ix _ _ _ _ _ _ _ (ix_tupPN (K := K) rfl) (pv 3) pe_int (fun _ _ => rfl)) (@pe_tupPK _ K _ _ _ _ rfl (@pa_cons _ _ _ _ _ pe_str (@pa_cons _ _ _ _ _ pe_str pa_nil (by rfl)) (by rfl))) rfl))))))), ?_⟩
  refine ⟨_, rfl, _, rfl, r, items, y, hrn, rfl, hy, oki, fun H1 g1 => ⟨_, rfl, ?_⟩⟩
  cases hb : formD r items with
  | false =>
    have e : rowsD (formD r) key items = false := by unfold rowsD; rw [hb, Bool.false_and]
    rw [e] at q
    exact iteT (iteT (q H1 g1))
  | true =>
    obtain ⟨u, l, rfl⟩ := form_shape hb
    refine iteF ?_
    refine ⟨_, rfl, _, _, _, hy.same g1, rfl, at0 _ _, fun v hv => ?_⟩
    obtain rfl := isStrV hv
    refine ⟨rfl, _, rfl, ?_⟩
    by_cases hu : u = "record"
    · subst hu
      obtain ⟨r', fs, rfl, rfl, hall⟩ := form_rec hb
      have e : rowsD (formD (r' + 1)) key (.tup [.str "record", .tup fs]) = headB (lookK fs key) := by
        unfold rowsD
        rw [hb]
        rfl
      rw [e] at q
      refine iteN' ?_
      refine ⟨_, rfl, _, rfl, fs, key, y, x, rfl, hy.same g1, hx.same g1, fun d hd => ?_, ?_⟩
      · obtain ⟨z, k, rfl, _⟩ := field_pair (List.all_eq_true.mp hall d hd)
        exact ⟨z, k, rfl⟩
      cases hl : lookK fs key with
      | none =>
        rw [hl] at q
        exact ⟨_, rfl, rfl, _, rfl, iteF (q H1 g1)⟩
      | some k =>
        rw [hl] at q
        obtain ⟨o, hm⟩ := look_mem hl
        obtain ⟨z, k', e2, _, fk⟩ := field_pair (List.all_eq_true.mp hall _ hm)
        injection e2 with e2
        injection e2 with e2 e3
        injection e3 with e3 _
        subst e3
        obtain ⟨w1, l1, rfl⟩ := form_shape fk
        intro v hv
        obtain ⟨av, xv, rfl, _⟩ := id hv.unref
        refine ⟨_, rfl, rfl, _, rfl, ?_⟩
        rw [decide_eq_false (show ¬ (V.ref av = V.non) by intro z; cases z)]
        refine iteT ?_
        refine ⟨_, rfl, _, _, _, hv, rfl, at0 _ _, fun v2 hv2 => ?_⟩
        obtain rfl := isStrV hv2
        refine ⟨[.str "number", .str "text"], .cons .str (.cons .str .nil), (by show 2 ≤ sizeLine; decide), fun v3 H3 g3 hv3 => ?_⟩
        obtain ⟨a3, x3, rfl, hT3, _, r3⟩ := id hv3.unref
        obtain rfl := strs_valsP (ws := ["number", "text"]) r3
        refine ⟨a3, _, rfl, .inr hT3, rfl, rfl, ?_⟩
        show Q (.bl (inV (.str w1) [.str "number", .str "text"])) H3
        rw [in_two]
        exact q H3 (g1.trans g3)
    · rw [rows_no hu] at q
      exact iteY' (strNe hu) (q H1 g1)
theorem parts_cases {d : Dt} (h : partsD d = true) : (∃ a b, d = .tup [.str "number", a, b]) ∨ (∃ a, d = .tup [.str "text", a]) ∨ (∃ a, d = .tup [.str "choice", a]) ∨ (∃ a b, d = .tup [.str "list", a, b]) ∨ (∃ a, d = .tup [.str "record", a]) ∨ (∃ a b c, d = .tup [.str "rows", a, b, c]) := by
  unfold partsD at h
  split at h
  · rename_i u l
    have h := of_decide_eq_true h
    have l1 : ∀ {l : List Dt}, (2 : Int) = ((l.length + 1 : Nat) : Int) → ∃ a, l = [a] := fun {l} e => by
      match l with
      | [] => exact absurd e (by decide)
      | [a] => exact ⟨a, rfl⟩
      | a :: b :: l => exact absurd e (by simp only [List.length_cons]; omega)
    have l2 : ∀ {l : List Dt}, (3 : Int) = ((l.length + 1 : Nat) : Int) → ∃ a b, l = [a, b] := fun {l} e => by
      match l with
      | [] => exact absurd e (by decide)
      | [a] => exact absurd e (by simp only [List.length_cons, List.length_nil]; omega)
      | [a, b] => exact ⟨a, b, rfl⟩
      | a :: b :: c :: l => exact absurd e (by simp only [List.length_cons]; omega)
    have l3 : ∀ {l : List Dt}, (4 : Int) = ((l.length + 1 : Nat) : Int) → ∃ a b c, l = [a, b, c] := fun {l} e => by
      match l with
      | [] => exact absurd e (by decide)
      | [a] => exact absurd e (by simp only [List.length_cons, List.length_nil]; omega)
      | [a, b] => exact absurd e (by simp only [List.length_cons, List.length_nil]; omega)
      | [a, b, c] => exact ⟨a, b, c, rfl⟩
      | a :: b :: c :: d :: l => exact absurd e (by simp only [List.length_cons]; omega)
    by_cases e1 : u = "number"
    · subst e1
      obtain ⟨a, b, rfl⟩ := l2 (V.int.inj h)
      exact .inl ⟨a, b, rfl⟩
    by_cases e2 : u = "text"
    · subst e2
      obtain ⟨a, rfl⟩ := l1 (V.int.inj h)
      exact .inr (.inl ⟨a, rfl⟩)
    by_cases e3 : u = "choice"
    · subst e3
      obtain ⟨a, rfl⟩ := l1 (V.int.inj h)
      exact .inr (.inr (.inl ⟨a, rfl⟩))
    by_cases e4 : u = "list"
    · subst e4
      obtain ⟨a, b, rfl⟩ := l2 (V.int.inj h)
      exact .inr (.inr (.inr (.inl ⟨a, b, rfl⟩)))
    by_cases e5 : u = "record"
    · subst e5
      obtain ⟨a, rfl⟩ := l1 (V.int.inj h)
      exact .inr (.inr (.inr (.inr (.inl ⟨a, rfl⟩))))
    by_cases e6 : u = "rows"
    · subst e6
      obtain ⟨a, b, c, rfl⟩ := l3 (V.int.inj h)
      exact .inr (.inr (.inr (.inr (.inr ⟨a, b, c, rfl⟩))))
    exfalso
    simp only [counts6, lookI, e1, e2, e3, e4, e5, e6, if_false] at h
    cases h
  · cases h
theorem look_n : lookI "number" [("number", 3), ("text", 2), ("choice", 2), ("list", 3), ("record", 2), ("rows", 4)] = .int 3 := by decide +kernel
theorem look_t : lookI "text" [("number", 3), ("text", 2), ("choice", 2), ("list", 3), ("record", 2), ("rows", 4)] = .int 2 := by decide +kernel
theorem look_c : lookI "choice" [("number", 3), ("text", 2), ("choice", 2), ("list", 3), ("record", 2), ("rows", 4)] = .int 2 := by decide +kernel
theorem look_l : lookI "list" [("number", 3), ("text", 2), ("choice", 2), ("list", 3), ("record", 2), ("rows", 4)] = .int 3 := by decide +kernel
theorem look_r : lookI "record" [("number", 3), ("text", 2), ("choice", 2), ("list", 3), ("record", 2), ("rows", 4)] = .int 2 := by decide +kernel
theorem look_w : lookI "rows" [("number", 3), ("text", 2), ("choice", 2), ("list", 3), ("record", 2), ("rows", 4)] = .int 4 := by decide +kernel
theorem form_parts {r : Nat} {d : Dt} (h : partsD d = false) : formD r d = false := by
  cases hb : formD r d with
  | false => rfl
  | true =>
    exfalso
    unfold formD at hb
    split at hb
    · cases hb
    · rename_i u a
      split at hb
      · subst_vars
        rw [show partsD (.tup [.str "text", a]) = true from decide_eq_true look_t] at h
        cases h
      · split at hb
        · subst_vars
          rw [show partsD (.tup [.str "choice", a]) = true from decide_eq_true look_c] at h
          cases h
        · split at hb
          · subst_vars
            rw [show partsD (.tup [.str "record", a]) = true from decide_eq_true look_r] at h
            cases h
          · cases hb
    · rename_i u a b
      split at hb
      · subst_vars
        rw [show partsD (.tup [.str "number", a, b]) = true from decide_eq_true look_n] at h
        cases h
      · split at hb
        · subst_vars
          rw [show partsD (.tup [.str "list", a, b]) = true from decide_eq_true look_l] at h
          cases h
        · cases hb
    · rename_i u a b c
      split at hb
      · subst_vars
        rw [show partsD (.tup [.str "rows", a, b, c]) = true from decide_eq_true look_w] at h
        cases h
      · cases hb
    · cases hb
theorem ok_is_formed (T : Tx K mg ad) {f ff fr : Addr} {fd fdf fdr : FuncData} (n : Nat) (D_is_formed : Gn K mg "is_formed" s_is_formed ["thing", "room"] f fd) (D_are_fields : Gn K mg "are_fields" s_are_fields ["fields", "room"] ff fdf) (D_are_rows : Gn K mg "are_rows" s_are_rows ["key", "items", "room"] fr fdr)
    (G_is_formed : FnOk P w K mg base CX0 (3 * n + 3) f fd ["thing", "room"] (sform K n)) (G_are_fields : FnOk P w K mg base CX0 (3 * n + 5) ff fdf ["fields", "room"] (sfields K n)) (G_are_rows : FnOk P w K mg base CX0 (3 * n + 4) fr fdr ["key", "items", "room"] (srowsP K n)) :
    FnOk P w K mg base CX0 (3 * n + 5 + 1) f fd ["thing", "room"] (sform K (n + 1)) := by
  obtain ⟨f_has_parts, fd_has_parts, D_has_parts⟩ := T.has_parts
  have G_has_parts := ok_has_parts (P := P) (w := w) (base := base) T D_has_parts
  obtain ⟨f_are_bounds, fd_are_bounds, D_are_bounds⟩ := T.are_bounds
  have G_are_bounds := ok_are_bounds (P := P) (w := w) (base := base) T D_are_bounds
  obtain ⟨f_is_whole_within, fd_is_whole_within, D_is_whole_within⟩ := T.is_whole_within
  have G_is_whole_within := ok_is_whole_within (P := P) (w := w) (base := base) T D_is_whole_within
  obtain ⟨f_are_words, fd_are_words, D_are_words⟩ := T.are_words
  have G_are_words := ok_are_words (P := P) (w := w) (base := base) T D_are_words
  obtain ⟨t_MOST_SIGNS, c_MOST_SIGNS⟩ := T.MOST_SIGNS
  obtain ⟨t_MOST_ITEMS, c_MOST_ITEMS⟩ := T.MOST_ITEMS
  refine D_is_formed.F.ok sc_is_formed (fun vs H Q E h => ?_) (fun cdv A outer s H vs Q E hr h => ?_)
  · obtain ⟨r, d, x, _, rfl, _⟩ := h
    rfl
  obtain ⟨r, d, x, hrn, rfl, hd, ok, q⟩ := h
  refine ⟨_, (@pss_cons _ _ _ _ _ (@ps_if _ _ _ _ _ _ _ _ (PW.pt (@pw_or _ _ _ _ _ _ _ (pt_cmpR op_eq (pv 1) pe_int (nomark _)) (@pw_or1 _ _ _ _ (@pt_not _ _ _ _ (@pt_val _ _ _ (pe_call G_has_parts (hr.mono (by first | decide | omega)) rfl D_has_parts.m D_has_parts.F.kp D_has_parts.b .nil pass0 (@pa_cons _ _ _ _ _ (pv 0) pa_nil (by rfl))) (by intro _; rfl)))))) (@pss_one _ _ _ (@ps_ret _ _ _ _ pe_bl)) pss_nil) (@pss_cons _ _ _ _ _ (@ps_set _ _ 2 _ _ _ _ sc_is_formed.nd rfl (Or.inl rfl) (@pe_ix _ _ _ _ _ _ _ (ix_tupPN (K := K) rfl) (pv 0) pe_int (fun _ _ => rfl)) (by rfl) (by first | exact .inl rfl | exact .inr rfl | assumption)) (@pss_cons _ _ _ _ _ (@ps_if _ _ _ _ _ _ _ _ (pt_cmpR op_eq (pv 2) pe_str (nomark _)) (@pss_one _ _ _ (@ps_ret _ _ _ _ (pe_call G_are_bounds (hr.mono (by first | decide | omega)) rfl D_are_bounds.m D_are_bounds.F.kp D_are_bounds.b .nil pass0 (@pa_cons _ _ _ _ _ (@pe_ix _ _ _ _ _ _ _ (ix_tupPN (K := K) rfl) (pv 0) pe_int (fun _ _ => rfl)) (@pa_cons _ _ _ _ _ (@pe_ix _ _ _ _ _ _ _ (ix_tupPN (K := K) rfl) (pv 0) pe_int (fun _ _ => rfl)) pa_nil (by rfl)) (by rfl))))) pss_nil) (@pss_cons _ _ _ _ _ (@ps_if _ _ _ _ _ _ _ _ (pt_cmpR op_eq (pv 2) pe_str (nomark _)) (@pss_one _ _ _ (@ps_ret _ _ _ _ (pe_call G_is_whole_within (hr.mono (by first | decide | omega)) rfl D_is_whole_within.m D_is_whole_within.F.kp D_is_whole_within.b .nil pass0 (@pa_cons _ _ _ _ _ (@pe_ix _ _ _ _ _ _ _ (ix_tupPN (K := K) rfl) (pv 0) pe_int (fun _ _ => rfl)) (@pa_cons _ _ _ _ _ pe_int (@pa_cons _ _ _ _ _ (pe_gint rfl c_MOST_SIGNS) pa_nil (by rfl)) (by rfl)) (by rfl))))) pss_nil) (@pss_cons _ _ _ _ _ (@ps_if _ _ _ _ _ _ _ _ (pt_cmpR op_eq (pv 2) pe_str (nomark _)) (@pss_one _ _ _ (@ps_ret _ _ _ _ (pe_call G_are_words (hr.mono (by first | decide | omega)) rfl D_are_words.m D_are_words.F.kp D_are_words.b .nil pass0 (@pa_cons _ _ _ _ _ (@pe_ix _ _ _ _ _ _ _ (ix_tupPN (K := K) rfl) (pv 0) pe_int (fun _ _ => rfl)) pa_nil (by rfl))))) pss_nil) (@pss_cons _ _ _ _ _ (@ps_if _ _ _ _ _ _ _ _ (pt_cmpR op_eq (pv 2) pe_str (nomark _)) (@pss_one _ _ _ (@ps_ret _ _ _ _ (pe_and (pe_call G_is_formed (hr.mono (by first | decide | omega)) rfl D_is_formed.m D_is_formed.F.kp D_is_formed.b .nil pass0 (@pa_cons _ _ _ _ _ (@pe_ix _ _ _ _ _ _ _ (ix_tupPN (K := K) rfl) (pv 0) pe_int (fun _ _ => rfl)) (@pa_cons _ _ _ _ _ (@pe_op _ _ _ _ _ _ _ _ op_sub (pv 1) pe_int) pa_nil (by rfl)) (by rfl))) (pe_one (pe_call G_is_whole_within (hr.mono (by first | decide | omega)) rfl D_is_whole_within.m D_is_whole_within.F.kp D_is_whole_within.b .nil pass0 (@pa_cons _ _ _ _ _ (@pe_ix _ _ _ _ _ _ _ (ix_tupPN (K := K) rfl) (pv 0) pe_int (fun _ _ => rfl)) (@pa_cons _ _ _ _ _ pe_int (@pa_cons _ _ _ _ _ (pe_gint rfl c_MOST_ITEMS) pa_nil (by rfl)) (by rfl)) (by rfl))))))) pss_nil) (@pss_cons _ _ _ _ _ (@ps_if _ _ _ _ _ _ _ _ (pt_cmpR op_eq (pv 2) pe_str (nomark _)) (@pss_one _ _ _ (@ps_ret _ _ _ _ (pe_call G_are_fields (hr.mono (by first | decide | omega)) rfl D_are_fields.m D_are_fields.F.kp D_are_fields.b .nil pass0 (@pa_cons _ _ _ _ _ (@pe_ix _ _ _ _ _ _ _ (ix_tupPN (K := K) rfl) (pv 0) pe_int (fun _ _ => rfl)) (@pa_cons _ _ _ _ _ (@pe_op _ _ _ _ _ _ _ _ op_sub (pv 1) pe_int) pa_nil (by rfl)) (by rfl))))) pss_nil) (@pss_one _ _ _ (@ps_ret _ _ _ _ (pe_and (pe_call G_are_rows (hr.mono (by first | decide | omega)) rfl D_are_rows.m D_are_rows.F.kp D_are_rows.b .nil pass0 (@pa_cons _ _ _ _ _ (@pe_ix _ _ _ _ _ _ _ (ix_tupPN (K := K) rfl) (pv 0) pe_int (fun _ _ => rfl)) (@pa_cons _ _ _ _ _ (@pe_ix _ _ _ _ _ _ _ (ix_tupPN (K := K) rfl) (pv 0) pe_int (fun _ _ => rfl)) (@pa_cons _ _ _ _ _ (@pe_op _ _ _ _ _ _ _ _ op_sub (pv 1) pe_int) pa_nil (by rfl)) (by rfl)) (by rfl))) (pe_one (pe_call G_is_whole_within (hr.mono (by first | decide | omega)) rfl D_is_whole_within.m D_is_whole_within.F.kp D_is_whole_within.b .nil pass0 (@pa_cons _ _ _ _ _ (@pe_ix _ _ _ _ _ _ _ (ix_tupPN (K := K) rfl) (pv 0) pe_int (fun _ _ => rfl)) (@pa_cons _ _ _ _ _ pe_int (@pa_cons _ _ _ _ _ (pe_gint rfl c_MOST_ITEMS) pa_nil (by rfl)) (by rfl)) (by rfl)))))))))))))), ?_⟩
  refine ⟨_, rfl, rfl, _, rfl, ?_⟩
  cases r with
  | zero =>
    rw [form_zero] at q
    exact iteY (iteT (q H (Same.refl H)))
  | succ r =>
    refine iteN (fun z => by have := V.int.inj z; omega) ?_
    have e1 : (((r + 1 : Nat) : Int)) - 1 = (r : Int) := by omega
    refine ⟨_, rfl, d, x, rfl, hd, ok, _, rfl, ?_⟩
    cases hb : partsD d with
    | false =>
      rw [form_parts hb] at q
      exact iteT (q H (Same.refl H))
    | true =>
      refine iteF ?_
      rcases parts_cases hb with ⟨a, b, rfl⟩ | ⟨a, rfl⟩ | ⟨a, rfl⟩ | ⟨a, b, rfl⟩ | ⟨a, rfl⟩ | ⟨a, b, c, rfl⟩
      · refine ⟨_, rfl, _, _, _, hd, rfl, rfl, fun v hv => ?_⟩
        obtain rfl := isStrV hv
        refine ⟨_, rfl, rfl, _, rfl, iteY ?_⟩
        refine ⟨_, rfl, _, _, _, hd, rfl, rfl, fun va hva => ?_⟩
        refine ⟨_, rfl, _, _, _, hd, rfl, rfl, fun vb hvb => ?_⟩
        exact ⟨a, b, va, vb, rfl, hva, hvb, ok_mem ok a (by simp), ok_mem ok b (by simp), q H (Same.refl H)⟩
      · refine ⟨_, rfl, _, _, _, hd, rfl, rfl, fun v hv => ?_⟩
        obtain rfl := isStrV hv
        refine ⟨_, rfl, rfl, _, rfl, iteN (strNe (by decide)) ?_⟩
        refine ⟨_, rfl, rfl, _, rfl, iteY ?_⟩
        refine ⟨_, rfl, _, _, _, hd, rfl, rfl, fun va hva => ?_⟩
        exact ⟨a, va, 0, 60, rfl, hva, ok_mem ok a (by simp), q H (Same.refl H)⟩
      · refine ⟨_, rfl, _, _, _, hd, rfl, rfl, fun v hv => ?_⟩
        obtain rfl := isStrV hv
        refine ⟨_, rfl, rfl, _, rfl, iteN (strNe (by decide)) ?_⟩
        refine ⟨_, rfl, rfl, _, rfl, iteN (strNe (by decide)) ?_⟩
        refine ⟨_, rfl, rfl, _, rfl, iteY ?_⟩
        refine ⟨_, rfl, _, _, _, hd, rfl, rfl, fun va hva => ?_⟩
        exact ⟨a, va, rfl, hva, ok_mem ok a (by simp), q⟩
      · replace q : ∀ H', Same H H' → Q (.bl (formD r a && withinD b 0 8)) H' := q
        refine ⟨_, rfl, _, _, _, hd, rfl, rfl, fun v hv => ?_⟩
        obtain rfl := isStrV hv
        refine ⟨_, rfl, rfl, _, rfl, iteN (strNe (by decide)) ?_⟩
        refine ⟨_, rfl, rfl, _, rfl, iteN (strNe (by decide)) ?_⟩
        refine ⟨_, rfl, rfl, _, rfl, iteN (strNe (by decide)) ?_⟩
        refine ⟨_, rfl, rfl, _, rfl, iteY ?_⟩
        refine ⟨_, rfl, _, _, _, hd, rfl, rfl, fun va hva => ?_⟩
        refine ⟨_, rfl, _, _, rfl, rfl, r, a, va, by omega, (by show [va, V.int (((r + 1 : Nat) : Int) - 1)] = _; rw [e1]), hva, ok_mem ok a (by simp), fun H1 g1 => ⟨_, rfl, ?_⟩⟩
        cases hf : formD r a with
        | false =>
          rw [hf, Bool.false_and] at q
          exact iteF (q H1 g1)
        | true =>
          rw [hf, Bool.true_and] at q
          refine iteT ?_
          refine ⟨_, rfl, _, _, _, hd.same g1, rfl, rfl, fun vb hvb => ?_⟩
          exact ⟨b, vb, 0, 8, rfl, hvb, ok_mem ok b (by simp), q H1 g1⟩
      · refine ⟨_, rfl, _, _, _, hd, rfl, rfl, fun v hv => ?_⟩
        obtain rfl := isStrV hv
        refine ⟨_, rfl, rfl, _, rfl, iteN (strNe (by decide)) ?_⟩
        refine ⟨_, rfl, rfl, _, rfl, iteN (strNe (by decide)) ?_⟩
        refine ⟨_, rfl, rfl, _, rfl, iteN (strNe (by decide)) ?_⟩
        refine ⟨_, rfl, rfl, _, rfl, iteN (strNe (by decide)) ?_⟩
        refine ⟨_, rfl, rfl, _, rfl, iteY ?_⟩
        refine ⟨_, rfl, _, _, _, hd, rfl, rfl, fun va hva => ?_⟩
        exact ⟨_, rfl, _, _, rfl, rfl, r, a, va, by omega, (by show [va, V.int (((r + 1 : Nat) : Int) - 1)] = _; rw [e1]), hva, ok_mem ok a (by simp), q⟩
      · replace q : ∀ H', Same H H' → Q (.bl (rowsD (formD r) a b && withinD c 0 8)) H' := q
        refine ⟨_, rfl, _, _, _, hd, rfl, rfl, fun v hv => ?_⟩
        obtain rfl := isStrV hv
        refine ⟨_, rfl, rfl, _, rfl, iteN (strNe (by decide)) ?_⟩
        refine ⟨_, rfl, rfl, _, rfl, iteN (strNe (by decide)) ?_⟩
        refine ⟨_, rfl, rfl, _, rfl, iteN (strNe (by decide)) ?_⟩
        refine ⟨_, rfl, rfl, _, rfl, iteN (strNe (by decide)) ?_⟩
        refine ⟨_, rfl, rfl, _, rfl, iteN (strNe (by decide)) ?_⟩
        refine ⟨_, rfl, _, _, _, hd, rfl, rfl, fun va hva => ?_⟩
        refine ⟨_, rfl, _, _, _, hd, rfl, rfl, fun vb hvb => ?_⟩
        refine ⟨_, rfl, _, _, rfl, rfl, r, a, b, va, vb, by omega, (by show [va, vb, V.int (((r + 1 : Nat) : Int) - 1)] = _; rw [e1]), hva, hvb, ok_mem ok a (by simp), ok_mem ok b (by simp), fun H1 g1 => ⟨_, rfl, ?_⟩⟩
        cases hf : rowsD (formD r) a b with
        | false =>
          rw [hf, Bool.false_and] at q
          exact iteF (q H1 g1)
        | true =>
          rw [hf, Bool.true_and] at q
          refine iteT ?_
          refine ⟨_, rfl, _, _, _, hd.same g1, rfl, rfl, fun vc hvc => ?_⟩
          exact ⟨c, vc, 0, 8, rfl, hvc, ok_mem ok c (by simp), q H1 g1⟩
theorem formed_all (T : Tx K mg ad) {f ff fr fi : Addr} {fd fdf fdr fdi : FuncData} (A : Gn K mg "is_formed" s_is_formed ["thing", "room"] f fd) (B : Gn K mg "are_fields" s_are_fields ["fields", "room"] ff fdf) (C : Gn K mg "are_rows" s_are_rows ["key", "items", "room"] fr fdr) (D : Gn K mg "is_field" s_is_field ["field", "room"] fi fdi) :
    ∀ n, FnOk P w K mg base CX0 (3 * n + 3) f fd ["thing", "room"] (sform K n)
  | 0 => fn_none fun vs H Q E z => by obtain ⟨_, _, _, e, _⟩ := z; omega
  | n + 1 => by
    have a := formed_all T A B C D n
    exact ok_is_formed T n A B C a (ok_are_fields T n B D (ok_is_field T n D A a)) (ok_are_rows T n C A a)
theorem pk_head {a c : Nat} {d : Dt} (h : FK a c d) : ∃ w l, d = .tup (.str w :: l) := by
  cases h <;> exact ⟨_, _, rfl⟩
theorem pr_unref {K : PySem.W.Frag} {H : Hp} {z : Str} {d : Dt} {v : V} (h : IsP K H (prD (z, d)) v) : ∃ b y, v = .ref b ∧ SqT K H b [.str z, y] ∧ IsP K H d y := by
  obtain ⟨b, ys, rfl, hb, pb, rb⟩ := h.unref
  cases rb with
  | cons r1 rb =>
    cases rb with
    | @cons _ _ y2 _ r2 rb =>
      cases rb
      obtain rfl := isStrV r1
      exact ⟨b, _, rfl, hb, r2⟩
theorem name_ok {z : Str} (h : nameB z = true) : okD (.str z) = true := by
  simp only [nameB, Bool.and_eq_true, decide_eq_true_eq] at h
  exact decide_eq_true (by omega)
theorem wordsB_parts {ws : List Str} (h : wordsB ws = true) : 1 ≤ ws.length ∧ ws.length ≤ 8 ∧ ws.all nameB = true ∧ ws.Nodup := by
  simp only [wordsB, Bool.and_eq_true, decide_eq_true_eq] at h
  exact ⟨h.1.1.1, h.1.1.2, h.1.2, h.2⟩
theorem seen_words {ws : List Str} (h : ws.Nodup) : seenN ws = ws.length := by
  unfold seenN L2.seen
  rw [List.take_length, met_all, List.length_reverse, List.length_map]
  exact List.pairwise_reverse.mpr (List.Pairwise.map _ (fun a b n e => n (Sum.inr.inj e).symm) h)
theorem two_ok {a b : Dt} (ha : okD a = true) (hb : okD b = true) : okD (.tup [a, b]) = true := by
  show (okD a && (okD b && true)) = true
  rw [ha, hb]
  rfl
theorem fk_ok {a c : Nat} {d : Dt} (h : FK a c d) : okD d = true := by
  induction h with
  | text i => rfl
  | choice ws hw =>
    obtain ⟨_, _, hn, _⟩ := wordsB_parts hw
    refine two_ok (by decide +kernel) (ok_all fun d hd => ?_)
    obtain ⟨z, hz, rfl⟩ := List.mem_map.mp hd
    exact name_ok (List.all_eq_true.mp hn z hz)
  | number i j => rfl
  | list g _ _ ih =>
    show (okD (.str "list") && (okD _ && (true && true))) = true
    rw [ih]
    decide +kernel
  | @rows a c z l i g hz _ _ ih =>
    have hl : okDs l = true := by
      have : (okD (.str "record") && (okDs l && true)) = true := ih
      rw [Bool.and_eq_true, Bool.and_true] at this
      exact this.2
    obtain ⟨w1, l1, hm, _⟩ := hz
    have h2 : (okD (.str z) && okDs [.tup (.str w1 :: l1)]) = true := ok_mem hl _ hm
    rw [Bool.and_eq_true] at h2
    show (okD (.str "rows") && (okD (.str z) && (okD (.tup [.str "record", .tup l]) && (true && true)))) = true
    rw [h2.1, ih]
    decide +kernel
  | @rcd gs g hs hn hl ih =>
    refine two_ok (by decide +kernel) (ok_all fun d hd => ?_)
    obtain ⟨u, hu, rfl⟩ := List.mem_map.mp hd
    exact two_ok (name_ok (hn u hu).1) (ih u hu)
theorem fk_rec {a c : Nat} {l : List Dt} (h : FK a c (.tup [.str "record", .tup l])) : ∃ gs : List G4, l = gs.map prG ∧ a = maxN (gs.map (·.2.2.1)) + 1 ∧ c = sumN (gs.map (·.2.2.2)) + 1 ∧ (∀ g ∈ gs, FK g.2.2.1 g.2.2.2 g.2.1) ∧ (gs.map (·.1)).Pairwise ltS ∧ (∀ g ∈ gs, nameB g.1 = true) ∧ gs.length ≤ 8 := by
  cases h with
  | rcd h1 h2 h3 h4 => exact ⟨_, rfl, rfl, rfl, h1, h2, (fun g hg => (h3 g hg).1), h4⟩
theorem lookG {gs : List G4} (nd : (gs.map (·.1)).Pairwise ltS) {g : G4} (h : g ∈ gs) : lookK (gs.map prG) (.str g.1) = some g.2.1 := by
  obtain ⟨i, hi, e⟩ := List.mem_iff_getElem.mp h
  have e1 : gs[i]? = some g := by rw [List.getElem?_eq_getElem hi, e]
  refine lookK_at (i := i) (o := .str g.1) (by rw [List.getElem?_map, e1]; rfl) (eqD_refl _) fun j d hj hf => ?_
  rw [List.getElem?_map] at hf
  obtain ⟨g', hg', rfl⟩ := Option.map_eq_some_iff.mp hf
  have hjl := (List.getElem?_eq_some_iff.mp hg').1
  have nd' := lt_nodup nd
  show (g'.1 == g.1) = false
  rw [beq_eq_false_iff_ne]
  intro c
  have f1 : (gs.map (·.1))[j]'(by simpa using hjl) = g.1 := by
    rw [List.getElem_map, (List.getElem?_eq_some_iff.mp hg').2]; exact c
  have f2 : (gs.map (·.1))[i]'(by simpa using hi) = g.1 := by
    rw [List.getElem_map, (List.getElem?_eq_some_iff.mp e1).2]
  exact List.pairwise_iff_getElem.mp nd' j i (by simpa using hjl) (by simpa using hi) hj (f1.trans f2.symm)
theorem adj_of : ∀ {ns : List Str}, ns.Pairwise ltS → adjB ns = true
  | [], _ => rfl
  | [_], _ => rfl
  | a :: b :: l, h => by
    have h' := List.pairwise_cons.mp h
    have := adj_of h'.2
    unfold adjB at this ⊢
    rw [List.drop_one, List.tail_cons, List.zip_cons_cons, List.all_cons, Bool.and_eq_true]
    exact ⟨decide_eq_true (h'.1 b List.mem_cons_self), this⟩
theorem fk_form {a c : Nat} {d : Dt} (h : FK a c d) : ∀ n, formD n d = decide (a ≤ n) := by
  induction h with
  | text i h1 h2 =>
    intro n
    cases n with
    | zero => rw [form_zero]; rfl
    | succ n =>
      show withinD (.int i) 0 60 = _
      simp [withinD, h1, h2]
  | choice ws hw =>
    obtain ⟨h1, h2, hn, nd⟩ := wordsB_parts hw
    intro n
    cases n with
    | zero => rw [form_zero]; rfl
    | succ n =>
      show (decide (1 ≤ (ws.map Dt.str).length) && decide ((ws.map Dt.str).length ≤ 8) && (ws.map Dt.str).all nameD && decide (seenN ((ws.map Dt.str).map strD) = (ws.map Dt.str).length)) = _
      have e1 : (ws.map Dt.str).map strD = ws := by rw [List.map_map]; exact List.map_id _
      have e2 : (ws.map Dt.str).all nameD = true := by rw [List.all_map]; exact hn
      rw [e1, e2, List.length_map, seen_words nd]
      simp [h1, h2]
  | number i j h1 h12 h2 =>
    intro n
    cases n with
    | zero => rw [form_zero]; rfl
    | succ n =>
      show (decide (-1000000000000000000000000000000 ≤ i) && decide (i ≤ j) && decide (j ≤ 1000000000000000000000000000000)) = _
      simp [h1, h12, h2]
  | @list a c k i g h1 h2 ih =>
    intro n
    cases n with
    | zero => rw [form_zero]; simp
    | succ n =>
      show (formD n k && (decide ((0 : Int) ≤ i) && decide (i ≤ 8))) = _
      rw [ih n]
      simp [h1, h2]
  | @rows a c z l i g hz h1 h2 ih =>
    intro n
    cases n with
    | zero => rw [form_zero]; simp
    | succ n =>
      show ((formD n (.tup [.str "record", .tup l]) && (decide (Str.ofString "record" = "record") && headB (lookK l (.str z)))) && (decide ((0 : Int) ≤ i) && decide (i ≤ 8))) = _
      obtain ⟨gs, rfl, _, _, _, nd, _, _⟩ := fk_rec g
      obtain ⟨w1, l1, hm, hw⟩ := hz
      obtain ⟨u, hu, eu⟩ := List.mem_map.mp hm
      have e1 : u.1 = z := by injection eu with e; injection e with e _; injection e
      have e2 : u.2.1 = .tup (.str w1 :: l1) := by injection eu with e; injection e with _ e; injection e
      have e3 := lookG nd hu
      rw [e1, e2] at e3
      rw [ih n, e3, show headB (some (.tup (.str w1 :: l1))) = true by show (decide (w1 = "number") || decide (w1 = "text")) = true; simpa using hw]
      simp [h1, h2]
  | @rcd gs g hs hn hl ih =>
    intro n
    cases n with
    | zero => rw [form_zero]; simp
    | succ n =>
      show (decide ((gs.map prG).length ≤ 8) && (gs.map prG).all (fieldD (formD n)) && adjB ((gs.map prG).map nmD)) = _
      have e1 : (gs.map prG).map nmD = gs.map (·.1) := by rw [List.map_map]; rfl
      have e2 : (gs.map prG).all (fieldD (formD n)) = decide (maxN (gs.map (·.2.2.1)) ≤ n) := by
        rw [List.all_map, Bool.eq_iff_iff, List.all_eq_true, decide_eq_true_iff]
        constructor
        · intro h
          refine max_le fun m hm => ?_
          obtain ⟨u, hu, rfl⟩ := List.mem_map.mp hm
          have := h u hu
          have h' : (nameB u.1 && formD n u.2.1) = true := this
          rw [Bool.and_eq_true, ih u hu n] at h'
          exact of_decide_eq_true h'.2
        · intro h u hu
          show (nameB u.1 && formD n u.2.1) = true
          rw [(hn u hu).1, ih u hu n, Bool.true_and]
          exact decide_eq_true (Nat.le_trans (le_max (List.mem_map.mpr ⟨u, hu, rfl⟩)) h)
      rw [e1, adj_of hs, e2, List.length_map, decide_eq_true hl]
      simp
/-- the kinds straight within -/
structure Wi (a c : Nat) (ks : List (Dt × Nat × Nat)) : Prop where
  deep : a = maxN (ks.map (·.2.1)) + 1
  many : c = sumN (ks.map (·.2.2)) + 1
  each : ∀ k ∈ ks, FK k.2.1 k.2.2 k.1
  few : ks.length ≤ 8
noncomputable def swithin (K : PySem.W.Frag) : Sp := fun vs H Q _ => ∃ (a c : Nat) (d : Dt) (x : V), vs = [x] ∧ IsP K H d x ∧ FK a c d ∧ ∀ p ys ks H', Same H H' → H p = none → H' p = some (.lst ys) → IsPs K H' (ks.map (·.1)) ys → Wi a c ks → Q (.ref p) H'
noncomputable abbrev sp_kinds_within (K : PySem.W.Frag) (_ : Ads) : Sp := swithin K
theorem wi_one {a c : Nat} {k : Dt} (g : FK a c k) : Wi (a + 1) (c + 1) [(k, a, c)] := ⟨by show a + 1 = max a 0 + 1; omega, rfl, fun k' hk => by rw [List.mem_singleton.mp hk]; exact g, by show 1 ≤ 8; decide⟩
theorem wi_none : Wi 1 1 [] := ⟨rfl, rfl, (fun k hk => by cases hk), by decide⟩
theorem wi_rec {gs : List G4} (g : ∀ g ∈ gs, FK g.2.2.1 g.2.2.2 g.2.1) (hl : gs.length ≤ 8) : Wi (maxN (gs.map (·.2.2.1)) + 1) (sumN (gs.map (·.2.2.2)) + 1) (gs.map (·.2)) := by
  refine ⟨by rw [List.map_map]; rfl, by rw [List.map_map]; rfl, fun k hk => ?_, by rw [List.length_map]; exact hl⟩
  obtain ⟨g0, h0, rfl⟩ := List.mem_map.mp hk
  exact g g0 h0
theorem ok_kinds_within (T : Tx K mg ad) {f : Addr} {fd : FuncData} (F : Gn K mg "kinds_within" s_kinds_within ["kind"] f fd) : FnOk P w K mg base CX0 2 f fd ["kind"] (sp_kinds_within K ad) := by
  obtain ⟨f_item_kind, fd_item_kind, D_item_kind⟩ := T.item_kind
  have G_item_kind := ok_item_kind (P := P) (w := w) (base := base) T D_item_kind
  refine F.F.ok sc_kinds_within (fun vs H Q E h => ?_) (fun cdv A outer s H vs Q E hr h => ?_)
  · obtain ⟨a0, c0, d, x, rfl, _⟩ := h
    rfl
  obtain ⟨a0, c0, d, x, rfl, hd, pk, q⟩ := h
  refine ⟨_, (@pss_cons _ _ _ _ _ (@ps_if _ _ _ _ _ _ _ _ (pt_cmpR op_eq (@pe_ix _ _ _ _ _ _ _ (ix_tupPN (K := K) rfl) (pv 0) pe_int (fun _ _ => rfl)) pe_str (nomark _)) (@pss_one _ _ _ (@ps_ret _ _ _ _ (pe_comp rfl (cs0 (NL := ["name", "inner"]) rfl (by decide +kernel) (by decide +kernel)) (pi_tupN (K := K) rfl (@pe_ix _ _ _ _ _ _ _ (ix_tupPN (K := K) rfl) (pv 0) pe_int (fun _ _ => rfl))) (fun _ _ _ _ => (pg_tupK (K := K) (n := 2) rfl rfl (pgs_cons (pg_name (i := 0) (show List.Nodup (α := Str) ["name", "inner"] by decide +kernel) rfl (Or.inl rfl)) (pgs_cons (pg_name (i := 1) (show List.Nodup (α := Str) ["name", "inner"] by decide +kernel) rfl (Or.inl rfl)) pgs_nil)))) (fun _ _ _ _ => (pv 1))))) pss_nil) (@pss_cons _ _ _ _ _ (@ps_set _ _ 1 _ _ _ _ sc_kinds_within.nd rfl (Or.inl rfl) (pe_call G_item_kind (hr.mono (by first | decide | omega)) rfl D_item_kind.m D_item_kind.F.kp D_item_kind.b .nil pass0 (@pa_cons _ _ _ _ _ (pv 0) pa_nil (by rfl))) (by rfl) (by first | exact .inl rfl | exact .inr rfl | assumption)) (@pss_one _ _ _ (@ps_ret _ _ _ _ (pe_ifExp (pt_cmpR op_isN (pv 1) pe_non (nomark _)) (@pe_lst _ _ _ _ pa_nil) (@pe_lst _ _ _ _ (@pa_cons _ _ _ _ _ (pv 1) pa_nil (by rfl)))))))), ?_⟩
  cases pk
  case rcd gs g hs hnm hl =>
    refine ⟨_, rfl, _, _, _, hd, rfl, rfl, fun v hv => ?_⟩
    obtain rfl := isStrV hv
    refine ⟨rfl, _, rfl, iteY ?_⟩
    refine ⟨_, rfl, _, _, _, hd, rfl, rfl, fun v hv => ?_⟩
    obtain ⟨a, xs, rfl, ha, pa, ra⟩ := id hv.unref
    have el := ra.length
    rw [List.length_map] at el
    refine ⟨a, rfl, ⟨_, ha⟩, fun l hln => ?_⟩
    refine comp_tupR (K := K) (xs := xs) (fun i ys σ H' => Same H H' ∧ H' l = some (.lst ys) ∧ IsPs K H' ((gs.take i).map (·.2.1)) ys ∧ σ.length = 2) ⟨same_new hln _, upd_same, .nil, rfl⟩ (fun i ys σ H' _ r => r.1.tup ha) ?_ ?_
    · rintro i y ys σ H1 N hy ⟨g1, e1, hp1, hσ⟩ next
      obtain ⟨d1, hdi, hp⟩ := ra.get' hy
      rw [List.getElem?_map] at hdi
      obtain ⟨⟨z, k, u1, u2⟩, hfi, rfl⟩ := Option.map_eq_some_iff.mp hdi
      obtain ⟨b, y2, rfl, hb, hp2⟩ := pr_unref (hp.same g1)
      have ly := hp1.length
      rw [List.length_map, List.length_take] at ly
      match σ, hσ with
      | [_, _], _ =>
        refine ⟨b, _, rfl, hb, rfl, _, _, rfl, _, _, rfl, rfl, ?_⟩
        refine ⟨_, rfl, e1, small1000 (by omega), next _ _ _ ⟨same_upd hln g1, upd_same, ?_, rfl⟩⟩
        have e : (gs.take (i + 1)).map (·.2.1) = (gs.take i).map (·.2.1) ++ [k] := by rw [List.take_add_one, hfi, List.map_append]; rfl
        rw [e]
        have bb : But l H1 (upd H1 l (.lst (ys ++ [y2]))) := But.put
        exact (hp1.append (.cons hp2 .nil)).but e1 bb
    · rintro ys σ H1 ⟨g1, e1, hp1, _⟩
      rw [← el, List.take_length] at hp1
      refine q l ys (gs.map (·.2)) H1 g1 hln e1 (by rw [List.map_map]; exact hp1) (wi_rec g hl)
  case list a1 c1 k i g h1 h2 =>
    refine ⟨_, rfl, _, _, _, hd, rfl, rfl, fun v hv => ?_⟩
    obtain rfl := isStrV hv
    refine ⟨rfl, _, rfl, iteN (strNe (by decide)) ?_⟩
    refine ⟨_, rfl, _, _, _, x, rfl, hd, .list g h1 h2, fun v hv => ?_⟩
    refine ⟨_, rfl, rfl, _, rfl, iteN (by obtain ⟨w0, l, rfl⟩ := pk_head g; obtain ⟨a, _, rfl, _⟩ := hv.unref; intro e; cases e) ?_⟩
    exact ⟨_, rfl, (by show 1 ≤ sizeLine; decide), fun p hp => q p _ [(k, a1, c1)] _ (same_new hp _) hp upd_same (.cons (hv.same (same_new hp _)) .nil) (wi_one g)⟩
  case rows a1 c1 z l i g hz h1 h2 =>
    refine ⟨_, rfl, _, _, _, hd, rfl, rfl, fun v hv => ?_⟩
    obtain rfl := isStrV hv
    refine ⟨rfl, _, rfl, iteN (strNe (by decide)) ?_⟩
    refine ⟨_, rfl, _, _, _, x, rfl, hd, .rows g hz h1 h2, fun v hv => ?_⟩
    refine ⟨_, rfl, rfl, _, rfl, iteN (by obtain ⟨a, _, rfl, _⟩ := hv.unref; intro e; cases e) ?_⟩
    exact ⟨_, rfl, (by show 1 ≤ sizeLine; decide), fun p hp => q p _ [(_, a1, c1)] _ (same_new hp _) hp upd_same (.cons (hv.same (same_new hp _)) .nil) (wi_one g)⟩
  case text i h1 h2 =>
    refine ⟨_, rfl, _, _, _, hd, rfl, rfl, fun v hv => ?_⟩
    obtain rfl := isStrV hv
    refine ⟨rfl, _, rfl, iteN (strNe (by decide)) ?_⟩
    refine ⟨_, rfl, _, _, _, x, rfl, hd, .text i h1 h2, ?_⟩
    exact ⟨_, rfl, rfl, _, rfl, iteY ⟨(by show 0 ≤ sizeLine; decide), fun p hp => q p _ [] _ (same_new hp _) hp upd_same .nil wi_none⟩⟩
  case choice ws h1 =>
    refine ⟨_, rfl, _, _, _, hd, rfl, rfl, fun v hv => ?_⟩
    obtain rfl := isStrV hv
    refine ⟨rfl, _, rfl, iteN (strNe (by decide)) ?_⟩
    refine ⟨_, rfl, _, _, _, x, rfl, hd, .choice ws h1, ?_⟩
    exact ⟨_, rfl, rfl, _, rfl, iteY ⟨(by show 0 ≤ sizeLine; decide), fun p hp => q p _ [] _ (same_new hp _) hp upd_same .nil wi_none⟩⟩
  case number i j h1 h12 h2 =>
    refine ⟨_, rfl, _, _, _, hd, rfl, rfl, fun v hv => ?_⟩
    obtain rfl := isStrV hv
    refine ⟨rfl, _, rfl, iteN (strNe (by decide)) ?_⟩
    refine ⟨_, rfl, _, _, _, x, rfl, hd, .number i j h1 h12 h2, ?_⟩
    exact ⟨_, rfl, rfl, _, rfl, iteY ⟨(by show 0 ≤ sizeLine; decide), fun p hp => q p _ [] _ (same_new hp _) hp upd_same .nil wi_none⟩⟩
noncomputable def smany (K : PySem.W.Frag) (n : Nat) : Sp := fun vs H Q _ => ∃ (a c : Nat) (d : Dt) (x : V), a ≤ n ∧ vs = [x] ∧ IsP K H d x ∧ FK a c d ∧ ∀ H', Same H H' → Q (.int c) H'
theorem sum_int : ∀ l : List Nat, (l.map fun n : Nat => (n : Int)).sum = ((sumN l : Nat) : Int)
  | [] => rfl
  | n :: l => by
    rw [List.map_cons, List.sum_cons, sum_int l]
    show _ = ((n + sumN l : Nat) : Int)
    omega
theorem ok_kind_many (T : Tx K mg ad) {f : Addr} {fd : FuncData} (n : Nat) (D_kind_many : Gn K mg "kind_many" s_kind_many ["kind"] f fd) (G_kind_many : FnOk P w K mg base CX0 (n + 3) f fd ["kind"] (smany K n)) : FnOk P w K mg base CX0 (n + 3 + 1) f fd ["kind"] (smany K (n + 1)) := by
  obtain ⟨f_kinds_within, fd_kinds_within, D_kinds_within⟩ := T.kinds_within
  have G_kinds_within := ok_kinds_within (P := P) (w := w) (base := base) T D_kinds_within
  refine D_kind_many.F.ok sc_kind_many (fun vs H Q E h => ?_) (fun cdv A outer s H vs Q E hr h => ?_)
  · obtain ⟨a0, c0, d, x, _, rfl, _⟩ := h
    rfl
  obtain ⟨a0, c0, d, x, hle, rfl, hd, pk, q⟩ := h
  refine ⟨_, (@pss_one _ _ _ (@ps_ret _ _ _ _ (@pe_op _ _ _ _ _ _ _ _ op_add pe_int (pe_callB call_sum rfl T.z_sum boot_sum (@pa_cons _ _ _ _ _ (pe_comp rfl (cs0 (NL := ["inner"]) rfl (by decide +kernel) (by decide +kernel)) (pi_listN (K := K) rfl (pe_call G_kinds_within (hr.mono (by first | decide | omega)) rfl D_kinds_within.m D_kinds_within.F.kp D_kinds_within.b .nil pass0 (@pa_cons _ _ _ _ _ (pv 0) pa_nil (by rfl)))) (fun _ _ _ _ => (pg_name (i := 0) (show List.Nodup (α := Str) ["inner"] by decide +kernel) rfl (Or.inl rfl))) (fun _ _ _ _ => (pe_call G_kind_many (hr.mono (by first | decide | omega)) rfl D_kind_many.m D_kind_many.F.kp D_kind_many.b .nil pass0 (@pa_cons _ _ _ _ _ (pv 0) pa_nil (by rfl))))) pa_nil (by rfl)))))), ?_⟩
  refine ⟨_, rfl, a0, c0, d, x, rfl, hd, pk, fun p ys ks H1 g1 hpn e1 hks wi => ?_⟩
  have ly := hks.length
  rw [List.length_map] at ly
  have few := wi.few
  refine ⟨p, rfl, ⟨_, SqL.of e1⟩, fun l hln => ?_⟩
  refine comp_listR (K := K) (xs := ys) (fun i us σ H' => us = ((ks.take i).map fun k => V.int (k.2.2 : Nat)) ∧ Same H1 H' ∧ H' l = some (.lst us) ∧ σ.length = 1) ⟨rfl, same_new hln _, upd_same, rfl⟩ (fun i us σ H' _ r => SqL.of (r.2.1 _ _ e1)) ?_ ?_
  · rintro i y us σ H2 N hy ⟨rfl, g2, e2, hσ⟩ next
    obtain ⟨k0, hk0, hp⟩ := hks.get' hy
    rw [List.getElem?_map] at hk0
    obtain ⟨k, hk, rfl⟩ := Option.map_eq_some_iff.mp hk0
    have mem := List.mem_of_getElem? hk
    have dl := le_max (List.mem_map.mpr ⟨k, mem, rfl⟩ : k.2.1 ∈ ks.map (·.2.1))
    have dd := wi.deep
    match σ, hσ with
    | [_], _ =>
      refine ⟨_, rfl, k.2.1, k.2.2, k.1, y, by omega, rfl, hp.same g2, wi.each k mem, fun H3 g3 => ⟨g3 _ _ e2, ?_, next _ _ _ ⟨take_next (fun k : Dt × Nat × Nat => V.int (k.2.2 : Nat)) hk, same_upd hln (g2.trans g3), upd_same, rfl⟩⟩⟩
      rw [List.length_map, List.length_take]
      exact small1000 (by omega)
  · rintro us σ H2 ⟨rfl, g2, e2, _⟩
    rw [← ly, List.take_length] at e2
    have e2' : H2 l = some (.lst (((ks.map (·.2.2)).map fun n : Nat => (n : Int)).map V.int)) := by rw [e2, List.map_map, List.map_map]; rfl
    refine ⟨l, _, rfl, rfl, SqL.of e2', _, _, rfl, rfl, ?_⟩
    rw [sum_int]
    show Q (.int ((1 : Int) + ((sumN (ks.map (·.2.2)) : Nat) : Int))) H2
    have e : (1 : Int) + ((sumN (ks.map (·.2.2)) : Nat) : Int) = ((c0 : Nat) : Int) := by rw [wi.many]; omega
    rw [e]
    exact q H2 (g1.trans g2)
theorem many_all (T : Tx K mg ad) {f : Addr} {fd : FuncData} (A : Gn K mg "kind_many" s_kind_many ["kind"] f fd) : ∀ n, FnOk P w K mg base CX0 (n + 3) f fd ["kind"] (smany K n)
  | 0 => fn_none fun vs H Q E z => by obtain ⟨_, _, _, _, h, _, _, pk, _⟩ := z; have := pk.pos; omega
  | n + 1 => ok_kind_many T n A (many_all T A n)
noncomputable def sp_made_kind (K : PySem.W.Frag) (ad : Ads) : Sp := fun vs H Q E => ∃ (d : Dt) (x : V), vs = [x] ∧ IsP K H d x ∧ okD d = true ∧
  ((formD 5 d = false ∧ ∀ H', Same H H' → E (.ref ad.BadKind) none H') ∨ (∃ a c, FK a c d ∧ a ≤ 5 ∧ (c ≤ 40 → ∀ H', Same H H' → Q x H') ∧ (40 < c → ∀ H', Same H H' → E (.ref ad.BadKind) none H')))
theorem ok_made_kind (T : Tx K mg ad) {f : Addr} {fd : FuncData} (F : Gn K mg "made_kind" s_made_kind ["kind"] f fd) : FnOk P w K mg base (CXE P w) 22 f fd ["kind"] (sp_made_kind K ad) := by
  obtain ⟨f_is_formed, fd_is_formed, D_is_formed⟩ := T.is_formed
  obtain ⟨f1, d1, D1⟩ := T.are_fields
  obtain ⟨f2, d2, D2⟩ := T.are_rows
  obtain ⟨f3, d3, D3⟩ := T.is_field
  have G_is_formed := formed_all (P := P) (w := w) (base := base) T D_is_formed D1 D2 D3 6
  obtain ⟨f_kind_many, fd_kind_many, D_kind_many⟩ := T.kind_many
  have G_kind_many := many_all (P := P) (w := w) (base := base) T D_kind_many 5
  obtain ⟨t_DEEPEST, c_DEEPEST⟩ := T.DEEPEST
  obtain ⟨t_MOST_KINDS, c_MOST_KINDS⟩ := T.MOST_KINDS
  refine F.F.okE sc_made_kind (fun vs H Q E h => ?_) (fun cdv A outer s H vs Q E hr h => ?_)
  · obtain ⟨d, x, rfl, _⟩ := h
    rfl
  obtain ⟨d, x, rfl, hd, ok, q⟩ := h
  refine ⟨_, (@pss_cons _ _ _ _ _ (@ps_if _ _ _ _ _ _ _ _ (@pt_not _ _ _ _ (@pt_val _ _ _ (pe_call G_is_formed (hr.mono (by first | decide | omega)) rfl D_is_formed.m D_is_formed.F.kp D_is_formed.b .nil pass0 (@pa_cons _ _ _ _ _ (pv 0) (@pa_cons _ _ _ _ _ (pe_gint rfl c_DEEPEST) pa_nil (by rfl)) (by rfl))) (by intro _; rfl))) (@pss_one _ _ _ (ps_raise xeOf rfl rfl rfl rfl T.x_BadKind rfl (@pa_cons _ _ _ _ _ pe_str pa_nil (by rfl)))) pss_nil) (@pss_cons _ _ _ _ _ (@ps_if _ _ _ _ _ _ _ _ (pt_cmpR op_gt (pe_call G_kind_many (hr.mono (by first | decide | omega)) rfl D_kind_many.m D_kind_many.F.kp D_kind_many.b .nil pass0 (@pa_cons _ _ _ _ _ (pv 0) pa_nil (by rfl))) (pe_gint rfl c_MOST_KINDS) (nomark _)) (@pss_one _ _ _ (ps_raise xeOf rfl rfl rfl rfl T.x_BadKind rfl (@pa_cons _ _ _ _ _ pe_str pa_nil (by rfl)))) pss_nil) (@pss_one _ _ _ (@ps_ret _ _ _ _ (pv 0))))), ?_⟩
  refine ⟨_, rfl, 5, d, x, by decide, rfl, hd, ok, fun H1 g1 => ⟨_, rfl, ?_⟩⟩
  rcases q with ⟨bad, q⟩ | ⟨a, c, fk, ha, q1, q2⟩
  · rw [bad]
    exact iteT ⟨(by show 1 ≤ sizeLine; decide), q H1 g1⟩
  · rw [fk_form fk, decide_eq_true ha]
    refine iteF ?_
    refine ⟨_, rfl, a, c, d, x, ha, rfl, hd.same g1, fk, fun H2 g2 => ⟨_, _, rfl, rfl, _, rfl, ite2 (fun c1 => ?_) (fun c1 => ?_)⟩⟩
    · have c' : ((c : Nat) : Int) > 40 := of_decide_eq_true c1
      exact ⟨(by show 1 ≤ sizeLine; decide), q2 (by omega) H2 (g1.trans g2)⟩
    · have c' : ¬ ((c : Nat) : Int) > 40 := fun z => c1 (decide_eq_true z)
      exact ⟨_, rfl, q1 (by omega) H2 (g1.trans g2)⟩
theorem ok_law_mixed (T : Tx K mg ad) {f : Addr} {fd : FuncData} (F : Gn K mg "_law_mixed" s_law_mixed ["cell", "k"] f fd) : FnOk P w K mg base CX0 1 f fd ["cell", "k"] (sp_law_mixed K ad) := by
  refine F.F.ok sc_law_mixed (fun vs H Q E h => ?_) (fun cdv A outer s H vs Q E hr h => ?_)
  · obtain ⟨i, k, rfl, _⟩ := h
    rfl
  obtain ⟨i, k, rfl, q⟩ := h
  refine ⟨_, (@pss_cons _ _ _ _ _ (@ps_set _ _ 2 _ _ _ _ sc_law_mixed.nd rfl (Or.inl rfl) (@pe_op _ _ _ _ _ _ _ _ op_mod (@pe_op _ _ _ _ _ _ _ _ op_mul (@pe_op _ _ _ _ _ _ _ _ op_add (@pe_op _ _ _ _ _ _ _ _ op_add (@pe_op _ _ _ _ _ _ _ _ op_mod (pv 0) pe_int) (@pe_op _ _ _ _ _ _ _ _ op_mul pe_int (pv 1))) pe_int) pe_int) pe_int) (by rfl) (by first | exact .inl rfl | exact .inr rfl | assumption)) (@pss_one _ _ _ (@ps_ret _ _ _ _ (@pe_op _ _ _ _ _ _ _ _ op_mod (@pe_op _ _ _ _ _ _ _ _ op_mul (@pe_op _ _ _ _ _ _ _ _ op_mod (@pe_op _ _ _ _ _ _ _ _ op_mul (pv 2) (pv 2)) pe_int) pe_int) pe_int)))), ?_⟩
  refine ⟨_, rfl, _, _, rfl, rfl, (by show (0 : Int) < 1000000007; decide), _, rfl, _, _, rfl, rfl, .inl ⟨by decide, by decide⟩, _, _, rfl, rfl, _, _, rfl, rfl, _, _, rfl, rfl, .inr ⟨by decide, by decide⟩, _, _, rfl, rfl, (by show (0 : Int) < 2147483647; decide), ?_⟩
  have b0 : (0 : Int) ≤ (i % 1000000007 + 7919 * k + 1) * 48271 % 2147483647 := Int.emod_nonneg _ (by decide)
  have b1 : (i % 1000000007 + 7919 * k + 1) * 48271 % 2147483647 < 2147483647 := Int.emod_lt_of_pos _ (by decide)
  exact ⟨_, rfl, _, rfl, _, _, rfl, rfl, .inl ⟨by omega, by omega⟩, _, _, rfl, rfl, (by show (0 : Int) < 2147483629; decide), _, _, rfl, rfl, .inr ⟨by decide, by decide⟩, _, _, rfl, rfl, (by show (0 : Int) < 2147483647; decide), q _⟩
theorem ok_law_digit (T : Tx K mg ad) {f : Addr} {fd : FuncData} (F : Gn K mg "_law_digit" s_law_digit ["row", "many"] f fd) : FnOk P w K mg base CX0 1 f fd ["row", "many"] (sp_law_digit K ad) := by
  refine F.F.ok sc_law_digit (fun vs H Q E h => ?_) (fun cdv A outer s H vs Q E hr h => ?_)
  · obtain ⟨r, n, m, rfl, _⟩ := h
    rfl
  obtain ⟨r, n, m, rfl, hr0, h0, h1, q⟩ := h
  refine ⟨_, (@pss_cons _ _ _ _ _ (@ps_set _ _ 2 _ _ _ _ sc_law_digit.nd rfl (Or.inl rfl) (@pe_op _ _ _ _ _ _ _ _ op_mod (@pe_ix _ _ _ _ _ _ _ (ix_listK (K := K) rfl) (pv 0) pe_int (fun _ _ => rfl)) (pv 1)) (by rfl) (by first | exact .inl rfl | exact .inr rfl | assumption)) (@pss_cons _ _ _ _ _ (ps_asg (@pe_op _ _ _ _ _ _ _ _ op_fdivB (@pe_ix _ _ _ _ _ _ _ (ix_listK (K := K) rfl) (pv 0) pe_int (fun _ _ => rfl)) (pv 1)) (pg_sub (pv 0) pe_int set_list)) (@pss_one _ _ _ (@ps_ret _ _ _ _ (pv 2))))), ?_⟩
  have e0 : atI [V.int n] 0 = some (.int n) := rfl
  exact ⟨_, rfl, r, _, _, _, rfl, rfl, SqL.of hr0, e0, _, rfl, _, _, rfl, rfl, h0, _, rfl, r, _, _, _, rfl, rfl, SqL.of hr0, e0, _, rfl, _, _, rfl, rfl, ⟨h0, h1⟩, _, rfl, r, _, _, _, rfl, rfl, hr0, rfl, _, rfl, q⟩
theorem pick {α : Type} {xs : List α} {d : Int} (h0 : 0 ≤ d) (h1 : d < (xs.length : Int)) : ∃ v, v ∈ xs ∧ atI xs d = some v := by
  have hk : d.toNat < xs.length := by omega
  have ek : ((d.toNat : Nat) : Int) = d := by omega
  have e : atI xs ((d.toNat : Nat) : Int) = some xs[d.toNat] := atI_nat (by simp [hk])
  rw [ek] at e
  exact ⟨xs[d.toNat], List.getElem_mem hk, e⟩
theorem mod_lt (n : Int) {m : Int} (h : 0 < m) : 0 ≤ n % m ∧ n % m < m := ⟨Int.emod_nonneg _ (by omega), Int.emod_lt_of_pos _ h⟩
theorem ok_law_cell_at (T : Tx K mg ad) {f : Addr} {fd : FuncData} (F : Gn K mg "_law_cell_at" s_law_cell_at ["script", "k"] f fd) : FnOk P w K mg base CX0 1 f fd ["script", "k"] (sp_law_cell_at K ad) := by
  refine F.F.ok sc_law_cell_at (fun vs H Q E h => ?_) (fun cdv A outer s H vs Q E hr h => ?_)
  · obtain ⟨a, ns, k, rfl, _⟩ := h
    rfl
  obtain ⟨a, ns, k, rfl, hS, h63, q⟩ := h
  refine ⟨_, (@pss_cons _ _ _ _ _ (@ps_if _ _ _ _ _ _ _ _ (pt_cmpR op_lt (pv 1) (pe_callB call_len_seq rfl T.z_len PySem.boot_len (@pa_cons _ _ _ _ _ (pv 0) pa_nil (by rfl))) (nomark _)) (@pss_one _ _ _ (@ps_ret _ _ _ _ (@pe_ix _ _ _ _ _ _ _ (ix_listK (K := K) rfl) (pv 0) (pv 1) (fun _ _ => rfl)))) pss_nil) (@pss_one _ _ _ (@ps_ret _ _ _ _ pe_int))), ?_⟩
  refine ⟨_, rfl, _, rfl, a, _, rfl, .inl hS, _, _, rfl, rfl, _, rfl, ?_⟩
  rw [List.length_map]
  refine ite2 (fun c => ?_) (fun c => ?_)
  · have c' : (k : Int) < ns.length := of_decide_eq_true c
    obtain ⟨v, hv, e⟩ := pick (xs := ns.map V.int) (d := (k : Int)) (by omega) (by rw [List.length_map]; exact c')
    obtain ⟨i, _, rfl⟩ := List.mem_map.mp hv
    exact ⟨_, rfl, _, rfl, a, _, _, _, rfl, rfl, hS, e, q i⟩
  · exact q 0
theorem ok_law_own (T : Tx K mg ad) {f : Addr} {fd : FuncData} (F : Gn K mg "_law_own" s_law_own ["script", "k"] f fd) : FnOk P w K mg base CX0 2 f fd ["script", "k"] (sp_law_own K ad) := by
  obtain ⟨f_law_cell_at, fd_law_cell_at, D_law_cell_at⟩ := T.law_cell_at
  have G_law_cell_at := ok_law_cell_at (P := P) (w := w) (base := base) T D_law_cell_at
  obtain ⟨f_law_mixed, fd_law_mixed, D_law_mixed⟩ := T.law_mixed
  have G_law_mixed := ok_law_mixed (P := P) (w := w) (base := base) T D_law_mixed
  refine F.F.ok sc_law_own (fun vs H Q E h => ?_) (fun cdv A outer s H vs Q E hr h => ?_)
  · obtain ⟨a, ns, k, rfl, _⟩ := h
    rfl
  obtain ⟨a, ns, k, rfl, hS, h63, hk, q⟩ := h
  refine ⟨_, (@pss_cons _ _ _ _ _ (@ps_set _ _ 2 _ _ _ _ sc_law_own.nd rfl (Or.inl rfl) (pe_call G_law_cell_at (hr.mono (by first | decide | omega)) rfl D_law_cell_at.m D_law_cell_at.F.kp D_law_cell_at.b .nil pass0 (@pa_cons _ _ _ _ _ (pv 0) (@pa_cons _ _ _ _ _ (pv 1) pa_nil (by rfl)) (by rfl))) (by rfl) (by first | exact .inl rfl | exact .inr rfl | assumption)) (@pss_cons _ _ _ _ _ (@ps_if _ _ _ _ _ _ _ _ (pt_cmpR op_ge (pv 2) (@pe_op _ _ _ _ _ _ _ _ op_pow pe_int pe_int) (nomark _)) (@pss_one _ _ _ (@ps_ret _ _ _ _ (@pe_lst _ _ _ _ (@pa_cons _ _ _ _ _ (pv 2) pa_nil (by rfl))))) pss_nil) (@pss_cons _ _ _ _ _ (@ps_set _ _ 3 _ _ _ _ sc_law_own.nd rfl (Or.inl rfl) pe_int (by rfl) (by first | exact .inl rfl | exact .inr rfl | assumption)) (@pss_cons _ _ _ _ _ (ps_for PassesOwn.never rfl (pi_range1 rfl T.z_range (@pa_cons _ _ _ _ _ pe_int pa_nil (by rfl))) (pg_name (i := 4) sc_law_own.nd rfl (Or.inl rfl))
        (@pss_one _ _ _ (@ps_set _ _ 3 _ _ _ _ sc_law_own.nd rfl (Or.inl rfl) (@pe_op _ _ _ _ _ _ _ _ op_add (@pe_op _ _ _ _ _ _ _ _ op_mul (pv 3) pe_int) (pe_call G_law_mixed (hr.mono (by first | decide | omega)) rfl D_law_mixed.m D_law_mixed.F.kp D_law_mixed.b .nil pass0 (@pa_cons _ _ _ _ _ (@pe_op _ _ _ _ _ _ _ _ op_add (@pe_op _ _ _ _ _ _ _ _ op_add (@pe_op _ _ _ _ _ _ _ _ op_mod (pe_callB call_sum rfl T.z_sum boot_sum (@pa_cons _ _ _ _ _ (pv 0) pa_nil (by rfl))) (@pe_op _ _ _ _ _ _ _ _ op_pow pe_int pe_int)) (pv 2)) (pv 1)) (@pa_cons _ _ _ _ _ (@pe_op _ _ _ _ _ _ _ _ op_add (@pe_op _ _ _ _ _ _ _ _ op_mul pe_int (pv 1)) (pv 4)) pa_nil (by rfl)) (by rfl)))) (by rfl) (by first | exact .inl rfl | exact .inr rfl | assumption)))) (@pss_one _ _ _ (@ps_ret _ _ _ _ (@pe_lst _ _ _ _ (@pa_cons _ _ _ _ _ (@pe_op _ _ _ _ _ _ _ _ op_fdivB (pv 3) pe_int) pa_nil (by rfl))))))))), ?_⟩
  refine ⟨_, rfl, _, rfl, a, ns, k, rfl, hS, h63, fun x => ?_⟩
  refine ⟨_, rfl, _, _, rfl, rfl, ⟨by decide, by decide, by decide⟩, _, _, rfl, rfl, _, rfl, ?_⟩
  refine ite2 (fun c1 => ?_) (fun c1 => ?_)
  · exact ⟨_, rfl, (by show 1 ≤ sizeLine; decide), fun r hr' => q r x _ hr' (same_new hr' _) upd_same⟩
  refine ⟨24, rfl, by decide, by decide, for_range (lo := 0) (n := (24 : Int).toNat) (fun i σ H1 => H1 = H ∧ ∃ y v, σ = [some (.ref a), some (.int k), some (.int x), some (.int y), v]) ⟨rfl, 0, _, rfl⟩ ?_ ?_⟩
  · rintro i σ H1 hi ⟨rfl, y, v, rfl⟩
    refine ⟨_, rfl, _, _, rfl, rfl, .inr ⟨by decide, by decide⟩, ?_⟩
    refine ⟨_, rfl, a, ns, rfl, rfl, hS, _, _, rfl, rfl, ⟨by decide, by decide, by decide⟩, _, _, rfl, rfl, (by show (0 : Int) < 10 ^ (60 : Int).toNat; decide +kernel), ?_⟩
    refine ⟨_, rfl, _, _, rfl, rfl, _, rfl, _, _, rfl, rfl, ?_⟩
    refine ⟨_, rfl, _, _, rfl, rfl, .inl ⟨by decide, by decide⟩, _, rfl, _, _, rfl, rfl, _, _, rfl, fun m => ?_⟩
    exact ⟨_, _, rfl, rfl, rfl, _, _, rfl⟩
  · rintro σ H1 ⟨rfl, y, v, rfl⟩
    exact ⟨_, rfl, _, _, rfl, rfl, ⟨by decide, by decide⟩, (by show 1 ≤ sizeLine; decide), fun r hr' => q r _ _ hr' (same_new hr' _) upd_same⟩
/-- names as they are drawn: many of them, ascending -/
structure Nam (m : Nat) (ss : List Str) : Prop where
  len : ss.length = m
  asc : ss.Pairwise ltS
  ok : ∀ z ∈ ss, nameB z = true ∧ z ≠ "noneone"
theorem lt_total {a b : Str} (h : ¬ ltS b a) (n : a ≠ b) : ltS a b := by
  by_cases c : ltS a b
  · exact c
  · refine absurd ?_ n
    have e : a.cps.toList = b.cps.toList := List.le_antisymm (List.not_lt.mp h) (List.not_lt.mp c)
    cases a
    cases b
    simp only at e
    rw [Array.toList_inj.mp e]
theorem rising_pw : ∀ (l : List Str) (p : Str), risingS p l = true → (p :: l).Nodup → (p :: l).Pairwise ltS
  | [], p, _, _ => List.pairwise_singleton _ _
  | x :: l, p, h, nd => by
    simp only [risingS, ltCps_eq, Bool.and_eq_true, Bool.not_eq_true', decide_eq_false_iff_not] at h
    have nd' := List.nodup_cons.mp nd
    have ih := rising_pw l x h.2 nd'.2
    have px : ltS p x := lt_total h.1 fun e => nd'.1 (e ▸ List.mem_cons_self)
    refine List.pairwise_cons.mpr ⟨fun y hy => ?_, ih⟩
    rcases List.mem_cons.mp hy with rfl | hy
    · exact px
    · exact List.lt_trans px ((List.pairwise_cons.mp ih).1 y hy)
theorem sorted_pw {l : List Str} (h : sortedS l = true) (nd : l.Nodup) : l.Pairwise ltS := by
  cases l with
  | nil => exact .nil
  | cons x l => exact rising_pw l x h nd
/-- a row of names, unlike, sorted -/
theorem nam_sorted {ss l : List Str} (hp : ss.Perm l) (hs : sortedS ss = true) (nd : l.Nodup) (ok : ∀ z ∈ l, nameB z = true ∧ z ≠ "noneone") : Nam l.length ss :=
  ⟨hp.length_eq, sorted_pw hs (hp.nodup_iff.mpr nd), fun z hz => ok z (hp.mem_iff.mp hz)⟩
noncomputable def f1 (k : Nat) : Str := Txt.slice "abcdefgh" none (some (0 + (k : Int) + 1))
theorem fact1 : ∀ m, m < 9 → ((List.range m).map f1).Pairwise ltS ∧ ∀ z ∈ (List.range m).map f1, nameB z = true ∧ z ≠ "noneone" := by decide +kernel
noncomputable def words8 : List Str := ["eac", "eachx", "list", "lists", "number", "rows", "text", "words"]
noncomputable def f2 (b k : Nat) : Str := words8.getD ((b + k) % 8) ""
theorem fact2 : ∀ b, b < 26 → ((List.range 8).map (f2 b)).Nodup ∧ ∀ z ∈ (List.range 8).map (f2 b), nameB z = true ∧ z ≠ "noneone" := by decide +kernel
noncomputable def tails : List Str := ["", "a", "zz", "eachone"]
noncomputable def f3 (b : Nat) (t : Str) (k : Nat) : Str := ⟨#[letters.cps.toList.getD ((b + 7 * k) % 26) 0]⟩ ++ t
theorem fact3 : ∀ b, b < 26 → ∀ t ∈ tails, ((List.range 8).map (f3 b t)).Nodup ∧ ∀ z ∈ (List.range 8).map (f3 b t), nameB z = true ∧ z ≠ "noneone" := by decide +kernel
theorem part8 {f : Nat → Str} {m : Nat} (hm : m ≤ 8) (h : ((List.range 8).map f).Nodup ∧ ∀ z ∈ (List.range 8).map f, nameB z = true ∧ z ≠ "noneone") : ((List.range m).map f).Nodup ∧ ∀ z ∈ (List.range m).map f, nameB z = true ∧ z ≠ "noneone" := by
  have s : ((List.range m).map f).Sublist ((List.range 8).map f) := (List.range_sublist.mpr hm).map f
  exact ⟨s.nodup h.1, fun z hz => h.2 z (s.subset hz)⟩
noncomputable def sp_law_names (K : PySem.W.Frag) (_ : Ads) : Sp := fun vs H Q _ => ∃ (r : Addr) (c : Int) (m : Nat), vs = [.ref r, .int m] ∧ H r = some (.lst [.int c]) ∧ m ≤ 8 ∧
  ∀ p ss c' H', But r H H' → H p = none → H' r = some (.lst [.int c']) → H' p = some (.lst (ss.map V.str)) → Nam m ss → Q (.ref p) H'
theorem getD_at {α : Type} {l : List α} {n : Nat} {e : α} (h : n < l.length) : l.getD n e = l[n] := by simp [List.getD, h]
theorem at_getD {α : Type} (f : α → V) (ws : List α) (d : Int) (e : α) (h0 : 0 ≤ d) (h1 : d < (ws.length : Int)) : atI (ws.map f) d = some (f (ws.getD d.toNat e)) := by
  have hk : d.toNat < ws.length := by omega
  have ek : ((d.toNat : Nat) : Int) = d := by omega
  have e' : atI (ws.map f) ((d.toNat : Nat) : Int) = some (f ws[d.toNat]) := atI_nat (by simp [hk])
  rw [ek] at e'
  rw [e', getD_at hk]
theorem range_next (f : Nat → Str) (i : Nat) : ((List.range i).map f).map V.str ++ [V.str (f i)] = ((List.range (i + 1)).map f).map V.str := by simp [List.range_succ]
theorem range_few (f : Nat → Str) {i : Nat} (h : i ≤ 8) : (((List.range i).map f).map V.str).length < sizeLine := by rw [List.length_map, List.length_map, List.length_range]; exact small1000 (by omega)
theorem but_upd {r l : Addr} {o : HO} {H H' : Hp} (b : But r H H') (hl : H l = none) : But r H (upd H' l o) := fun x u n e => by rw [upd_ne (ne_of_none e hl)]; exact b x u n e
theorem f2_at {b k : Nat} : atI (words8.map V.str) (((b : Int) + (0 + (k : Int))) % 8) = some (.str (f2 b k)) := by
  obtain ⟨h0, h1⟩ := mod_lt ((b : Int) + (0 + (k : Int))) (m := 8) (by decide)
  rw [at_getD V.str words8 _ "" h0 h1, show (((b : Int) + (0 + (k : Int))) % 8).toNat = (b + k) % 8 by omega]
  rfl
theorem f3_at {b k : Nat} : atI letters.cps.toList (((b : Int) + 7 * (0 + (k : Int))) % 26) = some (letters.cps.toList.getD ((b + 7 * k) % 26) 0) := by
  obtain ⟨h0, h1⟩ := mod_lt ((b : Int) + 7 * (0 + (k : Int))) (m := 26) (by decide)
  have hk : (b + 7 * k) % 26 < letters.cps.toList.length := by
    rw [show letters.cps.toList.length = 26 by decide +kernel]
    omega
  have ek : (((b + 7 * k) % 26 : Nat) : Int) = ((b : Int) + 7 * (0 + (k : Int))) % 26 := by omega
  have e' : atI letters.cps.toList ((((b + 7 * k) % 26 : Nat)) : Int) = some letters.cps.toList[(b + 7 * k) % 26] := atI_nat (by simp [hk])
  rw [ek] at e'
  rw [e', getD_at hk]
theorem ok_law_names (T : Tx K mg ad) {f : Addr} {fd : FuncData} (F : Gn K mg "_law_names" s_law_names ["row", "many"] f fd) : FnOk P w K mg base CX0 2 f fd ["row", "many"] (sp_law_names K ad) := by
  obtain ⟨f_law_digit, fd_law_digit, D_law_digit⟩ := T.law_digit
  have G_law_digit := ok_law_digit (P := P) (w := w) (base := base) T D_law_digit
  refine F.F.ok sc_law_names (fun vs H Q E h => ?_) (fun cdv A outer s H vs Q E hr h => ?_)
  · obtain ⟨r, c, m, rfl, _⟩ := h
    rfl
  obtain ⟨r, c, m, rfl, hr0, hm, q⟩ := h
  refine ⟨_, (@pss_cons _ _ _ _ _ (@ps_set _ _ 2 _ _ _ _ sc_law_names.nd rfl (Or.inr rfl) (pe_call G_law_digit (hr.mono (by first | decide | omega)) rfl D_law_digit.m D_law_digit.F.kp D_law_digit.b .nil pass0 (@pa_cons _ _ _ _ _ (pv 0) (@pa_cons _ _ _ _ _ pe_int pa_nil (by rfl)) (by rfl))) (by rfl) (by first | exact .inl rfl | exact .inr rfl | assumption)) (@pss_cons _ _ _ _ _ (@ps_set _ _ 3 _ _ _ _ sc_law_names.nd rfl (Or.inr rfl) (@pe_ix _ _ _ _ _ _ _ (ix_listK (K := K) rfl) (@pe_lst _ _ _ _ (@pa_cons _ _ _ _ _ pe_str (@pa_cons _ _ _ _ _ pe_str (@pa_cons _ _ _ _ _ pe_str (@pa_cons _ _ _ _ _ pe_str pa_nil (by rfl)) (by rfl)) (by rfl)) (by rfl))) (pe_call G_law_digit (hr.mono (by first | decide | omega)) rfl D_law_digit.m D_law_digit.F.kp D_law_digit.b .nil pass0 (@pa_cons _ _ _ _ _ (pv 0) (@pa_cons _ _ _ _ _ pe_int pa_nil (by rfl)) (by rfl))) (fun _ _ => rfl)) (by rfl) (by first | exact .inl rfl | exact .inr rfl | assumption)) (@pss_cons _ _ _ _ _ (@ps_set _ _ 4 _ _ _ _ sc_law_names.nd rfl (Or.inl rfl) (pe_call G_law_digit (hr.mono (by first | decide | omega)) rfl D_law_digit.m D_law_digit.F.kp D_law_digit.b .nil pass0 (@pa_cons _ _ _ _ _ (pv 0) (@pa_cons _ _ _ _ _ pe_int pa_nil (by rfl)) (by rfl))) (by rfl) (by first | exact .inl rfl | exact .inr rfl | assumption)) (@pss_cons _ _ _ _ _ (@ps_if _ _ _ _ _ _ _ _ (pt_cmpR op_eq (pv 4) pe_int (nomark _)) (@pss_one _ _ _ (@ps_ret _ _ _ _ (pe_comp rfl (cs0 (NL := ["k"]) rfl (by decide +kernel) (by decide +kernel)) (pi_range1 rfl T.z_range (@pa_cons _ _ _ _ _ (pv 1) pa_nil (by rfl))) (fun _ _ _ _ => (pg_name (i := 0) (show List.Nodup (α := Str) ["k"] by decide +kernel) rfl (Or.inl rfl))) (fun _ _ _ _ => (pe_slice sl_str pe_str po_none (po_some (@pe_op _ _ _ _ _ _ _ _ op_add (pv 0) pe_int))))))) pss_nil) (@pss_cons _ _ _ _ _ (@ps_if _ _ _ _ _ _ _ _ (pt_cmpR op_eq (pv 4) pe_int (nomark _)) (@pss_cons _ _ _ _ _ (@ps_set _ _ 5 _ _ _ _ sc_law_names.nd rfl (Or.inr rfl) (@pe_lst _ _ _ _ (@pa_cons _ _ _ _ _ pe_str (@pa_cons _ _ _ _ _ pe_str (@pa_cons _ _ _ _ _ pe_str (@pa_cons _ _ _ _ _ pe_str (@pa_cons _ _ _ _ _ pe_str (@pa_cons _ _ _ _ _ pe_str (@pa_cons _ _ _ _ _ pe_str (@pa_cons _ _ _ _ _ pe_str pa_nil (by rfl)) (by rfl)) (by rfl)) (by rfl)) (by rfl)) (by rfl)) (by rfl)) (by rfl))) (by rfl) (by first | exact .inl rfl | exact .inr rfl | assumption)) (@pss_one _ _ _ (@ps_ret _ _ _ _ (pe_callB call_sortS rfl T.z_sorted boot_sorted (@pa_cons _ _ _ _ _ (pe_comp rfl (csR (sc := defScope s_law_names) (NL := ["k"]) (N := ["row", "many", "base", "tail", "way", "words"]) (ρ := [2, 5]) (N' := ["k", "base", "words"]) rfl rfl rfl (by decide +kernel) (by decide +kernel) (by decide +kernel) rfl (by decide +kernel)) (pi_range1 rfl T.z_range (@pa_cons _ _ _ _ _ (pv 1) pa_nil (by rfl))) (fun _ _ _ _ => (pg_name (i := 0) (show List.Nodup (α := Str) ["k", "base", "words"] by decide +kernel) rfl (Or.inl rfl))) (fun _ _ _ _ => (@pe_ix _ _ _ _ _ _ _ (ix_listK (K := K) rfl) (pv 2) (@pe_op _ _ _ _ _ _ _ _ op_mod (@pe_op _ _ _ _ _ _ _ _ op_add (pv 1) (pv 0)) pe_int) (fun _ _ => rfl)))) pa_nil (by rfl)))))) pss_nil) (@pss_one _ _ _ (@ps_ret _ _ _ _ (pe_callB call_sortS rfl T.z_sorted boot_sorted (@pa_cons _ _ _ _ _ (pe_comp rfl (csR (sc := defScope s_law_names) (NL := ["k"]) (N := ["row", "many", "base", "tail", "way", "words"]) (ρ := [2, 3]) (N' := ["k", "base", "tail"]) rfl rfl rfl (by decide +kernel) (by decide +kernel) (by decide +kernel) rfl (by decide +kernel)) (pi_range1 rfl T.z_range (@pa_cons _ _ _ _ _ (pv 1) pa_nil (by rfl))) (fun _ _ _ _ => (pg_name (i := 0) (show List.Nodup (α := Str) ["k", "base", "tail"] by decide +kernel) rfl (Or.inl rfl))) (fun _ _ _ _ => (@pe_op _ _ _ _ _ _ _ _ op_add_str (@pe_ix _ _ _ _ _ _ _ ix_str pe_str (@pe_op _ _ _ _ _ _ _ _ op_mod (@pe_op _ _ _ _ _ _ _ _ op_add (pv 1) (@pe_op _ _ _ _ _ _ _ _ op_mul pe_int (pv 0))) pe_int) (fun _ _ => rfl)) (pv 2)))) pa_nil (by rfl)))))))))), ?_⟩
  refine ⟨_, rfl, r, c, 26, rfl, hr0, by decide, by decide, ?_⟩
  obtain ⟨b0, b1⟩ := mod_lt c (m := 26) (by decide)
  obtain ⟨b, hb⟩ : ∃ b : Nat, ((b : Nat) : Int) = c % 26 := ⟨(c % 26).toNat, by omega⟩
  have b26 : b < 26 := by omega
  rw [← hb]
  refine ⟨(by show 4 ≤ sizeLine; decide), fun pl hpl => ?_⟩
  have hrp : r ≠ pl := fun e => by rw [← e, upd_same] at hpl; cases hpl
  have hplH : H pl = none := by rw [upd_ne hrp.symm] at hpl; exact hpl
  refine ⟨_, rfl, r, c / 26, 4, rfl, by rw [upd_ne hrp]; exact upd_same, by decide, by decide, ?_⟩
  obtain ⟨t0, t1⟩ := mod_lt (c / 26) (m := 4) (by decide)
  refine ⟨pl, _, _, _, rfl, rfl, SqL.of (by rw [upd_ne hrp.symm]; exact upd_same), at_getD V.str tails _ "" t0 t1, ?_⟩
  have ht : tails.getD (c / 26 % 4).toNat "" ∈ tails := by
    rw [getD_at (show (c / 26 % 4).toNat < tails.length by show _ < 4; omega)]
    exact List.getElem_mem _
  generalize tails.getD (c / 26 % 4).toNat "" = t at ht
  refine ⟨_, rfl, r, c / 26 / 4, 5, rfl, upd_same, by decide, by decide, ?_⟩
  have B1 := (((But.put (H := H) (r := r) (o := .lst [.int (c / 26)])).trans (But.same (same_new hpl (.lst [.str "", .str "a", .str "zz", .str "eachone"])))).trans (But.put (o := .lst [.int (c / 26 / 4)]))).trans (But.put (o := .lst [.int (c / 26 / 4 / 5)]))
  have r1 : (upd (upd (upd (upd H r (.lst [.int (c / 26)])) pl (.lst [.str "", .str "a", .str "zz", .str "eachone"])) r (.lst [.int (c / 26 / 4)])) r (.lst [.int (c / 26 / 4 / 5)])) r = some (.lst [.int (c / 26 / 4 / 5)]) := upd_same
  have mN : ((m : Nat) : Int).toNat = m := Int.toNat_natCast m
  have free : ∀ {l : Addr} {Hx : Hp}, But r H Hx → r ≠ l → Hx l = none → H l = none := fun {l Hx} B n e => by
    cases e' : H l with
    | none => rfl
    | some o => rw [B l o n.symm e'] at e; cases e
  refine ⟨_, rfl, rfl, _, rfl, ite2 (fun c1 => ?_) (fun c1 => ?_)⟩
  · refine ⟨_, rfl, (m : Int), rfl, by omega, by omega, fun l hln => ?_⟩
    rw [mN]
    have lr : r ≠ l := ne_of_none r1 hln
    have lH : H l = none := free B1 lr hln
    refine comp_rangeR (fun i ys σ H' => i ≤ 8 ∧ ys = ((List.range i).map f1).map V.str ∧ But r H H' ∧ H' r = some (.lst [.int (c / 26 / 4 / 5)]) ∧ H' l = some (.lst ys) ∧ σ.length = 1) ⟨Nat.zero_le _, rfl, B1.trans (But.same (same_new hln _)), (by rw [upd_ne lr]; exact r1), upd_same, rfl⟩ ?_ ?_
    · rintro i ys σ H' N hi ⟨h8, rfl, B2, r2, l2, hσ⟩ next
      match σ, hσ with
      | [_], _ =>
        exact ⟨_, rfl, _, _, rfl, rfl, _, rfl, _, rfl, (by decide), l2, range_few f1 (by omega), next _ _ _ ⟨by omega, range_next f1 i, but_upd B2 lH, (by rw [upd_ne lr]; exact r2), upd_same, rfl⟩⟩
    · rintro ys σ H' ⟨h8, rfl, B2, r2, l2, hσ⟩
      obtain ⟨u1, u2⟩ := fact1 m (by omega)
      exact q l _ _ _ B2 lH r2 l2 ⟨by rw [List.length_map, List.length_range], u1, u2⟩
  refine ⟨_, rfl, rfl, _, rfl, ite2 (fun c2 => ?_) (fun c2 => ?_)⟩
  · refine ⟨(by show 8 ≤ sizeLine; decide), fun pw hpw => ?_⟩
    have wr : r ≠ pw := ne_of_none r1 hpw
    have wH : H pw = none := free B1 wr hpw
    refine ⟨_, rfl, (m : Int), rfl, by omega, by omega, fun l hln => ?_⟩
    rw [mN]
    have r2 := (same_new hpw (.lst (words8.map V.str))) _ _ r1
    have lr : r ≠ l := ne_of_none r2 hln
    have lw : pw ≠ l := ne_of_none (upd_same (o := .lst (words8.map V.str))) hln
    have lH : H l = none := free (B1.trans (But.same (same_new hpw _))) lr hln
    refine comp_rangeR (fun i ys σ H' => i ≤ 8 ∧ ys = ((List.range i).map (f2 b)).map V.str ∧ But r H H' ∧ H' r = some (.lst [.int (c / 26 / 4 / 5)]) ∧ H' l = some (.lst ys) ∧ H' pw = some (.lst (words8.map V.str)) ∧ ∃ v, σ = [v, some (.int b), some (.ref pw)]) ⟨Nat.zero_le _, rfl, (B1.trans (But.same (same_new hpw _))).trans (But.same (same_new hln _)), (by rw [upd_ne lr]; exact r2), upd_same, (by rw [upd_ne lw]; exact upd_same), _, rfl⟩ ?_ ?_
    · rintro i ys σ H' N hi ⟨h8, rfl, B2, r2, l2, w2, v, rfl⟩ next
      exact ⟨_, rfl, _, rfl, _, rfl, _, _, rfl, rfl, _, _, rfl, rfl, (show (0 : Int) < 8 by decide), pw, _, _, _, rfl, rfl, SqL.of w2, f2_at, l2, range_few (f2 b) (by omega), next _ _ _ ⟨by omega, range_next (f2 b) i, but_upd B2 lH, (by rw [upd_ne lr]; exact r2), upd_same, (by rw [upd_ne lw]; exact w2), _, rfl⟩⟩
    · rintro ys σ H' ⟨h8, rfl, B2, r2, l2, w2, v, rfl⟩
      obtain ⟨u1, u2⟩ := part8 hm (fact2 b b26)
      refine ⟨l, _, rfl, SqL.of l2, by rw [List.length_map, List.length_range]; omega, fun a ss' ha hp hs => ?_⟩
      have ar : r ≠ a := ne_of_none r2 ha
      have n := nam_sorted hp hs u1 u2
      rw [List.length_map, List.length_range] at n
      exact q a ss' _ _ (B2.trans (But.same (same_new ha _))) (free B2 ar ha) (by rw [upd_ne ar]; exact r2) upd_same n
  · refine ⟨_, rfl, (m : Int), rfl, by omega, by omega, fun l hln => ?_⟩
    rw [mN]
    have lr : r ≠ l := ne_of_none r1 hln
    have lH : H l = none := free B1 lr hln
    refine comp_rangeR (fun i ys σ H' => i ≤ 8 ∧ ys = ((List.range i).map (f3 b t)).map V.str ∧ But r H H' ∧ H' r = some (.lst [.int (c / 26 / 4 / 5)]) ∧ H' l = some (.lst ys) ∧ ∃ v, σ = [v, some (.int b), some (.str t)]) ⟨Nat.zero_le _, rfl, B1.trans (But.same (same_new hln _)), (by rw [upd_ne lr]; exact r1), upd_same, _, rfl⟩ ?_ ?_
    · rintro i ys σ H' N hi ⟨h8, rfl, B2, r2, l2, v, rfl⟩ next
      have tl : t.length ≤ 10 := (show ∀ t ∈ tails, t.length ≤ 10 by decide +kernel) t ht
      exact ⟨_, rfl, _, rfl, _, _, rfl, rfl, .inl ⟨by decide, by decide⟩, _, _, rfl, rfl, _, _, rfl, rfl, (show (0 : Int) < 26 by decide), _, _, _, rfl, rfl, (by decide), f3_at, _, rfl, _, _, rfl, rfl, small (by show 1 + t.length ≤ 1000; omega), l2, range_few (f3 b t) (by omega), next _ _ _ ⟨by omega, range_next (f3 b t) i, but_upd B2 lH, (by rw [upd_ne lr]; exact r2), upd_same, _, rfl⟩⟩
    · rintro ys σ H' ⟨h8, rfl, B2, r2, l2, v, rfl⟩
      obtain ⟨u1, u2⟩ := part8 hm (fact3 b b26 t ht)
      refine ⟨l, _, rfl, SqL.of l2, by rw [List.length_map, List.length_range]; omega, fun a ss' ha hp hs => ?_⟩
      have ar : r ≠ a := ne_of_none r2 ha
      have n := nam_sorted hp hs u1 u2
      rw [List.length_map, List.length_range] at n
      exact q a ss' _ _ (B2.trans (But.same (same_new ha _))) (free B2 ar ha) (by rw [upd_ne ar]; exact r2) upd_same n
/-- a number kind as it is drawn -/
noncomputable def GenN (K : PySem.W.Frag) (r : Addr) (H : Hp) (Q : VK) : Prop := ∀ v (i j n' : Int) H', But r H H' → H' r = some (.lst [.int n']) → IsP K H' (.tup [.str "number", .int i, .int j]) v → FK 1 1 (.tup [.str "number", .int i, .int j]) → Q v H'
noncomputable def sp_law_number_kind (K : PySem.W.Frag) (_ : Ads) : Sp := fun vs H Q _ => ∃ (r : Addr) (c : Int), vs = [.ref r] ∧ H r = some (.lst [.int c]) ∧ GenN K r H Q
theorem p30 : (10 : Int) ^ (30 : Int).toNat = 1000000000000000000000000000000 := by decide +kernel
theorem p29 : (10 : Int) ^ (29 : Int).toNat = 100000000000000000000000000000 := by decide +kernel
theorem pickM {ns : List Int} {d : Int} (h0 : 0 ≤ d) (h1 : d < (ns.length : Int)) : ∃ i : Int, i ∈ ns ∧ atI (ns.map V.int) d = some (.int i) := by
  obtain ⟨v, hv, e⟩ := pick (xs := ns.map V.int) h0 (by rw [List.length_map]; exact h1)
  obtain ⟨i, hi, rfl⟩ := List.mem_map.mp hv
  exact ⟨i, hi, e⟩
theorem pick2 (a b : Int) (k : Bool) : ∃ i : Int, (i = a ∨ i = b) ∧ atI [V.int a, V.int b] (if k = true then 1 else 0) = some (.int i) := by
  cases k with
  | true => exact ⟨b, .inr rfl, rfl⟩
  | false => exact ⟨a, .inl rfl, rfl⟩
theorem ok_law_number_kind (T : Tx K mg ad) {f : Addr} {fd : FuncData} (F : Gn K mg "_law_number_kind" s_law_number_kind ["row"] f fd) : FnOk P w K mg base CX0 2 f fd ["row"] (sp_law_number_kind K ad) := by
  obtain ⟨f_law_digit, fd_law_digit, D_law_digit⟩ := T.law_digit
  have G_law_digit := ok_law_digit (P := P) (w := w) (base := base) T D_law_digit
  refine F.F.ok sc_law_number_kind (fun vs H Q E h => ?_) (fun cdv A outer s H vs Q E hr h => ?_)
  · obtain ⟨r, c, rfl, _⟩ := h
    rfl
  obtain ⟨r, c, rfl, hr0, q⟩ := h
  refine ⟨_, (@pss_cons _ _ _ _ _ (@ps_set _ _ 1 _ _ _ _ sc_law_number_kind.nd rfl (Or.inl rfl) (@pe_ix _ _ _ _ _ _ _ (ix_listK (K := K) rfl) (@pe_lst _ _ _ _ (@pa_cons _ _ _ _ _ (@pe_op _ _ _ _ _ _ _ _ op_sub (pe_call G_law_digit (hr.mono (by first | decide | omega)) rfl D_law_digit.m D_law_digit.F.kp D_law_digit.b .nil pass0 (@pa_cons _ _ _ _ _ (pv 0) (@pa_cons _ _ _ _ _ pe_int pa_nil (by rfl)) (by rfl))) pe_int) (@pa_cons _ _ _ _ _ (@pe_op _ _ _ _ _ _ _ _ op_sub (pe_call G_law_digit (hr.mono (by first | decide | omega)) rfl D_law_digit.m D_law_digit.F.kp D_law_digit.b .nil pass0 (@pa_cons _ _ _ _ _ (pv 0) (@pa_cons _ _ _ _ _ (@pe_op _ _ _ _ _ _ _ _ op_add (@pe_op _ _ _ _ _ _ _ _ op_mulB pe_int (@pe_op _ _ _ _ _ _ _ _ op_pow pe_int pe_int)) pe_int) pa_nil (by rfl)) (by rfl))) (@pe_op _ _ _ _ _ _ _ _ op_pow pe_int pe_int)) pa_nil (by rfl)) (by rfl))) (pe_callTy call_int1 rfl T.z_int boot_int (@pa_cons _ _ _ _ _ (pe_cmpR op_eq (pe_call G_law_digit (hr.mono (by first | decide | omega)) rfl D_law_digit.m D_law_digit.F.kp D_law_digit.b .nil pass0 (@pa_cons _ _ _ _ _ (pv 0) (@pa_cons _ _ _ _ _ pe_int pa_nil (by rfl)) (by rfl))) pe_int (nomark _)) pa_nil (by rfl))) (fun _ _ => rfl)) (by rfl) (by first | exact .inl rfl | exact .inr rfl | assumption)) (@pss_cons _ _ _ _ _ (@ps_set _ _ 2 _ _ _ _ sc_law_number_kind.nd rfl (Or.inl rfl) (pe_callB (call_min2 rfl) rfl T.z_min boot_min (@pa_cons _ _ _ _ _ (@pe_op _ _ _ _ _ _ _ _ op_pow pe_int pe_int) (@pa_cons _ _ _ _ _ (@pe_op _ _ _ _ _ _ _ _ op_add (pv 1) (@pe_ix _ _ _ _ _ _ _ (ix_listK (K := K) rfl) (@pe_lst _ _ _ _ (@pa_cons _ _ _ _ _ (pe_call G_law_digit (hr.mono (by first | decide | omega)) rfl D_law_digit.m D_law_digit.F.kp D_law_digit.b .nil pass0 (@pa_cons _ _ _ _ _ (pv 0) (@pa_cons _ _ _ _ _ pe_int pa_nil (by rfl)) (by rfl))) (@pa_cons _ _ _ _ _ (@pe_op _ _ _ _ _ _ _ _ op_pow pe_int pe_int) (@pa_cons _ _ _ _ _ (pe_call G_law_digit (hr.mono (by first | decide | omega)) rfl D_law_digit.m D_law_digit.F.kp D_law_digit.b .nil pass0 (@pa_cons _ _ _ _ _ (pv 0) (@pa_cons _ _ _ _ _ pe_int pa_nil (by rfl)) (by rfl))) pa_nil (by rfl)) (by rfl)) (by rfl))) (pe_call G_law_digit (hr.mono (by first | decide | omega)) rfl D_law_digit.m D_law_digit.F.kp D_law_digit.b .nil pass0 (@pa_cons _ _ _ _ _ (pv 0) (@pa_cons _ _ _ _ _ pe_int pa_nil (by rfl)) (by rfl))) (fun _ _ => rfl))) pa_nil (by rfl)) (by rfl))) (by rfl) (by first | exact .inl rfl | exact .inr rfl | assumption)) (@pss_one _ _ _ (@ps_ret _ _ _ _ (@pe_tupPK _ K _ _ _ _ rfl (@pa_cons _ _ _ _ _ pe_str (@pa_cons _ _ _ _ _ (pv 1) (@pa_cons _ _ _ _ _ (pv 2) pa_nil (by rfl)) (by rfl)) (by rfl))))))), ?_⟩
  refine ⟨_, rfl, r, c, 12, rfl, hr0, by decide, by decide, _, _, rfl, rfl, ?_⟩
  obtain ⟨a0, a1⟩ := mod_lt c (m := 12) (by decide)
  refine ⟨_, rfl, _, _, rfl, rfl, ⟨by decide, by decide, by decide⟩, ?_⟩
  have m30 : (0 : Int) < 2 * 10 ^ (30 : Int).toNat + 1 := by rw [p30]; decide
  refine ⟨_, _, rfl, rfl, mulOk_of_bits (m := 2) (n := 100) (by decide +kernel) (by decide +kernel) (by decide), _, _, rfl, rfl, r, c / 12, 2 * 10 ^ (30 : Int).toNat + 1, rfl, upd_same, m30, by rw [p30]; decide, ?_⟩
  obtain ⟨d0, d1⟩ := mod_lt (c / 12) m30
  refine ⟨_, _, rfl, rfl, ⟨by decide, by decide, by decide⟩, _, _, rfl, rfl, (by show 2 ≤ sizeLine; decide), fun p hp => ?_⟩
  have hrp : r ≠ p := fun e => by rw [← e, upd_same] at hp; cases hp
  obtain ⟨low, hlow, elow⟩ := pick2 (c % 12 - 6) (c / 12 % (2 * 10 ^ (30 : Int).toNat + 1) - 10 ^ (30 : Int).toNat) (decide (V.int (c / 12 / (2 * 10 ^ (30 : Int).toNat + 1) % 4) = V.int 1))
  have l0 : -1000000000000000000000000000000 ≤ low := by
    rw [p30] at hlow d0 d1
    rcases hlow with h | h <;> omega
  have l1 : low ≤ 1000000000000000000000000000000 := by
    rw [p30] at hlow d0 d1
    rcases hlow with h | h <;> omega
  refine ⟨_, rfl, r, c / 12 / (2 * 10 ^ (30 : Int).toNat + 1), 4, rfl, (by rw [upd_ne hrp]; exact upd_same), by decide, by decide, rfl, .inr ⟨_, rfl, p, _, _, _, rfl, rfl, SqL.of (by rw [upd_ne hrp.symm]; exact upd_same), elow, ?_⟩⟩
  have B1 := (((But.put (H := H) (r := r) (o := .lst [.int (c / 12)])).trans (But.put (o := .lst [.int (c / 12 / (2 * 10 ^ (30 : Int).toNat + 1))]))).trans (But.same (same_new hp (.lst [.int (c % 12 - 6), .int (c / 12 % (2 * 10 ^ (30 : Int).toNat + 1) - 10 ^ (30 : Int).toNat)])))).trans (But.put (o := .lst [.int (c / 12 / (2 * 10 ^ (30 : Int).toNat + 1) / 4)]))
  generalize hc2 : c / 12 / (2 * 10 ^ (30 : Int).toNat + 1) / 4 = c2 at B1
  refine ⟨_, _, rfl, rfl, ⟨by decide, by decide, by decide⟩, _, rfl, _, rfl, r, c2, 9, rfl, hc2 ▸ upd_same, by decide, by decide, _, _, rfl, rfl, ⟨by decide, by decide, by decide⟩, _, rfl, r, c2 / 9, 2, rfl, upd_same, by decide, by decide, (by show 3 ≤ sizeLine; decide), fun p2 hp2 => ?_⟩
  have hrp2 : r ≠ p2 := fun e => by rw [← e, upd_same] at hp2; cases hp2
  obtain ⟨e0, e1⟩ := mod_lt (c2 / 9 / 2) (m := 3) (by decide)
  obtain ⟨x, hx, ex⟩ := pickM (ns := [c2 % 9, 10 ^ (29 : Int).toNat, c2 / 9 % 2]) e0 e1
  have x0 : 0 ≤ x := by
    have h1 := (mod_lt c2 (m := 9) (by decide)).1
    have h2 := (mod_lt (c2 / 9) (m := 2) (by decide)).1
    simp only [p29, List.mem_cons, List.not_mem_nil, or_false] at hx
    omega
  refine ⟨_, rfl, r, c2 / 9 / 2, 3, rfl, (by rw [upd_ne hrp2]; exact upd_same), by decide, by decide, p2, _, _, _, rfl, rfl, SqL.of (by rw [upd_ne hrp2.symm]; exact upd_same), ex, _, _, rfl, rfl, _, _, rfl, ?_⟩
  refine ⟨_, rfl, _, rfl, [.str "number", .int low, .int _], .cons .str (.cons .int (.cons .int .nil)), (by show 3 ≤ sizeLine; decide), fun v H4 g4 hv => ?_⟩
  refine q v low _ (c2 / 9 / 2 / 3) H4 ?_ (g4 _ _ upd_same) hv (.number _ _ l0 ?_ ?_)
  · exact ((((B1.trans But.put).trans But.put).trans (But.same (same_new hp2 _))).trans But.put).trans (But.same g4)
  · rw [p30]
    split <;> omega
  · rw [p30]
    split <;> omega
/-- a kind as it is drawn, the row moved on -/
noncomputable def GenL (K : PySem.W.Frag) (r : Addr) (H : Hp) (Q : VK) : Prop := ∀ v d (n' : Int) H', But r H H' → H' r = some (.lst [.int n']) → IsP K H' d v → FK 1 1 d → Q v H'
noncomputable def sp_law_leaf_kind (K : PySem.W.Frag) (_ : Ads) : Sp := fun vs H Q _ => ∃ (r : Addr) (c : Int), vs = [.ref r] ∧ H r = some (.lst [.int c]) ∧ GenL K r H Q
theorem Nam.words {m : Nat} {ss : List Str} (h : Nam m ss) (h1 : 1 ≤ m) (h8 : m ≤ 8) : wordsB ss = true ∧ wordsB ss.reverse = true := by
  have l := h.len
  have nd := lt_nodup h.asc
  have al : ss.all nameB = true := List.all_eq_true.mpr fun z hz => (h.ok z hz).1
  constructor
  · simp only [wordsB, Bool.and_eq_true, decide_eq_true_eq]
    exact ⟨⟨⟨by omega, by omega⟩, al⟩, nd⟩
  · simp only [wordsB, Bool.and_eq_true, decide_eq_true_eq, List.length_reverse, List.all_reverse]
    exact ⟨⟨⟨by omega, by omega⟩, al⟩, List.pairwise_reverse.mpr (nd.imp fun n e => n e.symm)⟩
theorem strs_is {K : PySem.W.Frag} {H : Hp} : ∀ ss : List Str, IsPs K H (ss.map Dt.str) (ss.map V.str)
  | [] => .nil
  | z :: ss => .cons .str (strs_is ss)
theorem ok_law_leaf_kind (T : Tx K mg ad) {f : Addr} {fd : FuncData} (F : Gn K mg "_law_leaf_kind" s_law_leaf_kind ["row"] f fd) : FnOk P w K mg base CX0 3 f fd ["row"] (sp_law_leaf_kind K ad) := by
  obtain ⟨f_law_digit, fd_law_digit, D_law_digit⟩ := T.law_digit
  have G_law_digit := ok_law_digit (P := P) (w := w) (base := base) T D_law_digit
  obtain ⟨f_law_number_kind, fd_law_number_kind, D_law_number_kind⟩ := T.law_number_kind
  have G_law_number_kind := ok_law_number_kind (P := P) (w := w) (base := base) T D_law_number_kind
  obtain ⟨f_law_names, fd_law_names, D_law_names⟩ := T.law_names
  have G_law_names := ok_law_names (P := P) (w := w) (base := base) T D_law_names
  refine F.F.ok sc_law_leaf_kind (fun vs H Q E h => ?_) (fun cdv A outer s H vs Q E hr h => ?_)
  · obtain ⟨r, c, rfl, _⟩ := h
    rfl
  obtain ⟨r, c, rfl, hr0, q⟩ := h
  refine ⟨_, (@pss_cons _ _ _ _ _ (@ps_set _ _ 1 _ _ _ _ sc_law_leaf_kind.nd rfl (Or.inl rfl) (pe_call G_law_digit (hr.mono (by first | decide | omega)) rfl D_law_digit.m D_law_digit.F.kp D_law_digit.b .nil pass0 (@pa_cons _ _ _ _ _ (pv 0) (@pa_cons _ _ _ _ _ pe_int pa_nil (by rfl)) (by rfl))) (by rfl) (by first | exact .inl rfl | exact .inr rfl | assumption)) (@pss_cons _ _ _ _ _ (@ps_if _ _ _ _ _ _ _ _ (pt_cmpR op_eq (pv 1) pe_int (nomark _)) (@pss_one _ _ _ (@ps_ret _ _ _ _ (pe_call G_law_number_kind (hr.mono (by first | decide | omega)) rfl D_law_number_kind.m D_law_number_kind.F.kp D_law_number_kind.b .nil pass0 (@pa_cons _ _ _ _ _ (pv 0) pa_nil (by rfl))))) pss_nil) (@pss_cons _ _ _ _ _ (@ps_if _ _ _ _ _ _ _ _ (pt_cmpR op_eq (pv 1) pe_int (nomark _)) (@pss_one _ _ _ (@ps_ret _ _ _ _ (@pe_tupPK _ K _ _ _ _ rfl (@pa_cons _ _ _ _ _ pe_str (@pa_cons _ _ _ _ _ (@pe_ix _ _ _ _ _ _ _ (ix_listK (K := K) rfl) (@pe_lst _ _ _ _ (@pa_cons _ _ _ _ _ (pe_call G_law_digit (hr.mono (by first | decide | omega)) rfl D_law_digit.m D_law_digit.F.kp D_law_digit.b .nil pass0 (@pa_cons _ _ _ _ _ (pv 0) (@pa_cons _ _ _ _ _ pe_int pa_nil (by rfl)) (by rfl))) (@pa_cons _ _ _ _ _ (pe_call G_law_digit (hr.mono (by first | decide | omega)) rfl D_law_digit.m D_law_digit.F.kp D_law_digit.b .nil pass0 (@pa_cons _ _ _ _ _ (pv 0) (@pa_cons _ _ _ _ _ pe_int pa_nil (by rfl)) (by rfl))) pa_nil (by rfl)) (by rfl))) (pe_call G_law_digit (hr.mono (by first | decide | omega)) rfl D_law_digit.m D_law_digit.F.kp D_law_digit.b .nil pass0 (@pa_cons _ _ _ _ _ (pv 0) (@pa_cons _ _ _ _ _ pe_int pa_nil (by rfl)) (by rfl))) (fun _ _ => rfl)) pa_nil (by rfl)) (by rfl))))) pss_nil) (@pss_cons _ _ _ _ _ (@ps_set _ _ 2 _ _ _ _ sc_law_leaf_kind.nd rfl (Or.inl rfl) (pe_call G_law_names (hr.mono (by first | decide | omega)) rfl D_law_names.m D_law_names.F.kp D_law_names.b .nil pass0 (@pa_cons _ _ _ _ _ (pv 0) (@pa_cons _ _ _ _ _ (@pe_op _ _ _ _ _ _ _ _ op_add pe_int (pe_call G_law_digit (hr.mono (by first | decide | omega)) rfl D_law_digit.m D_law_digit.F.kp D_law_digit.b .nil pass0 (@pa_cons _ _ _ _ _ (pv 0) (@pa_cons _ _ _ _ _ pe_int pa_nil (by rfl)) (by rfl)))) pa_nil (by rfl)) (by rfl))) (by rfl) (by first | exact .inl rfl | exact .inr rfl | assumption)) (@pss_cons _ _ _ _ _ (@ps_if _ _ _ _ _ _ _ _ (pt_cmpR op_eq (pe_call G_law_digit (hr.mono (by first | decide | omega)) rfl D_law_digit.m D_law_digit.F.kp D_law_digit.b .nil pass0 (@pa_cons _ _ _ _ _ (pv 0) (@pa_cons _ _ _ _ _ pe_int pa_nil (by rfl)) (by rfl))) pe_int (nomark _)) (@pss_one _ _ _ (@ps_expr _ _ _ _ (pe_bm0 PySem.F.plainAttrs_list PySem.F.slot_list_reverse PySem.F.type_list_reverse mt_reverse (pv 2)) (by rfl))) pss_nil) (@pss_one _ _ _ (@ps_ret _ _ _ _ (@pe_tupPK _ K _ _ _ _ rfl (@pa_cons _ _ _ _ _ pe_str (@pa_cons _ _ _ _ _ (pe_callTy (call_tuplePN (K := K) rfl) rfl T.z_tuple boot_tuple (@pa_cons _ _ _ _ _ (pv 2) pa_nil (by rfl))) pa_nil (by rfl)) (by rfl)))))))))), ?_⟩
  refine ⟨_, rfl, r, c, 3, rfl, hr0, by decide, by decide, ?_⟩
  have B1 := But.put (H := H) (r := r) (o := .lst [.int (c / 3)])
  refine ⟨_, rfl, rfl, _, rfl, ite2 (fun c1 => ?_) (fun c1 => ?_)⟩
  · exact ⟨_, rfl, r, c / 3, rfl, upd_same, fun v i j n' H' b e hv fk => q v _ n' H' (B1.trans b) e hv fk⟩
  refine ⟨_, rfl, rfl, _, rfl, ite2 (fun c2 => ?_) (fun c2 => ?_)⟩
  · refine ⟨_, rfl, r, c / 3, 4, rfl, upd_same, by decide, by decide, _, rfl, r, c / 3 / 4, 61, rfl, upd_same, by decide, by decide, (by show 2 ≤ sizeLine; decide), fun p hp => ?_⟩
    have hrp : r ≠ p := fun e => by rw [← e, upd_same] at hp; cases hp
    obtain ⟨e0, e1⟩ := mod_lt (c / 3 / 4 / 61) (m := 2) (by decide)
    obtain ⟨x, hx, ex⟩ := pickM (ns := [c / 3 % 4, c / 3 / 4 % 61]) e0 e1
    have xb : 0 ≤ x ∧ x ≤ 60 := by
      have h1 := mod_lt (c / 3) (m := 4) (by decide)
      have h2 := mod_lt (c / 3 / 4) (m := 61) (by decide)
      simp only [List.mem_cons, List.not_mem_nil, or_false] at hx
      omega
    refine ⟨_, rfl, r, c / 3 / 4 / 61, 2, rfl, (by rw [upd_ne hrp]; exact upd_same), by decide, by decide, p, _, _, _, rfl, rfl, SqL.of (by rw [upd_ne hrp.symm]; exact upd_same), ex, ?_⟩
    refine ⟨[.str "text", .int x], .cons .str (.cons .int .nil), (by show 2 ≤ sizeLine; decide), fun v H4 g4 hv => ?_⟩
    exact q v _ (c / 3 / 4 / 61 / 2) H4 (((((B1.trans But.put).trans But.put).trans (But.same (same_new hp _))).trans But.put).trans (But.same g4)) (g4 _ _ upd_same) hv (.text x xb.1 xb.2)
  · obtain ⟨m0, m1⟩ := mod_lt (c / 3) (m := 8) (by decide)
    obtain ⟨m, hm⟩ : ∃ m : Nat, ((m : Nat) : Int) = 1 + c / 3 % 8 := ⟨(1 + c / 3 % 8).toNat, by omega⟩
    refine ⟨_, rfl, _, rfl, r, c / 3, 8, rfl, upd_same, by decide, by decide, _, _, rfl, rfl, ?_⟩
    refine ⟨r, c / 3 / 8, m, (by show [V.ref r, V.int (1 + c / 3 % 8)] = _; rw [hm]), upd_same, by omega, fun p ss c' H2 b2 hp r2 p2 nam => ?_⟩
    have B2 := (B1.trans But.put).trans b2
    have hpH : H p = none := by
      cases e : H p with
      | none => rfl
      | some o =>
        have : r ≠ p := fun h => by rw [← h, upd_same] at hp; cases hp
        rw [upd_ne this.symm, upd_ne this.symm, e] at hp
        cases hp
    have hrp : r ≠ p := fun h => by rw [← h, hr0] at hpH; cases hpH
    obtain ⟨w1, w2⟩ := nam.words (by omega) (by omega)
    refine ⟨_, rfl, r, c', 2, rfl, r2, by decide, by decide, rfl, _, rfl, ite2 (fun c3 => ?_) (fun c3 => ?_)⟩
    · have p3 : (upd H2 r (.lst [.int (c' / 2)])) p = some (.lst (ss.map V.str)) := by rw [upd_ne hrp.symm]; exact p2
      refine ⟨_, rfl, .inl ⟨rfl, _, SqL.of p3⟩, p, _, rfl, rfl, p3, ?_⟩
      refine ⟨_, rfl, p, _, _, rfl, SqL.of upd_same, (by rw [← List.map_reverse]; exact strs_is ss.reverse), fun v H4 g4 hv => ?_⟩
      refine ⟨[.str "choice", .tup (ss.reverse.map Dt.str)], .cons .str (.cons hv .nil), (by show 2 ≤ sizeLine; decide), fun v5 H5 g5 hv5 => ?_⟩
      exact q v5 _ (c' / 2) H5 (((but_upd (B2.trans But.put) hpH).trans (But.same g4)).trans (But.same g5)) (g5 _ _ (g4 _ _ (by rw [upd_ne hrp]; exact upd_same))) hv5 (.choice _ w2)
    · refine ⟨_, rfl, p, _, _, rfl, SqL.of (by rw [upd_ne hrp.symm]; exact p2), strs_is ss, fun v H4 g4 hv => ?_⟩
      refine ⟨[.str "choice", .tup (ss.map Dt.str)], .cons .str (.cons hv .nil), (by show 2 ≤ sizeLine; decide), fun v5 H5 g5 hv5 => ?_⟩
      exact q v5 _ (c' / 2) H5 (((B2.trans But.put).trans (But.same g4)).trans (But.same g5)) (g5 _ _ (g4 _ _ upd_same)) hv5 (.choice ss w1)
/-- all but two as it was -/
noncomputable def But2 (r p : Addr) (H H' : Hp) : Prop := ∀ x o, x ≠ r → x ≠ p → H x = some o → H' x = some o
theorem But2.refl (r p : Addr) (H : Hp) : But2 r p H H := fun _ _ _ _ e => e
theorem But2.trans {r p : Addr} {H H' H'' : Hp} (a : But2 r p H H') (b : But2 r p H' H'') : But2 r p H H'' := fun x o h1 h2 e => b x o h1 h2 (a x o h1 h2 e)
theorem But2.one {r p : Addr} {H H' : Hp} (b : But r H H') : But2 r p H H' := fun x o h1 _ e => b x o h1 e
theorem But2.two {r p : Addr} {H H' : Hp} (b : But p H H') : But2 r p H H' := fun x o _ h2 e => b x o h2 e
theorem But2.same {r p : Addr} {H H' : Hp} (b : Same H H') : But2 r p H H' := fun x o _ _ e => b x o e
theorem But2.upd {r p l : Addr} {o : HO} {H H' : Hp} (b : But2 r p H H') (hl : H l = none) : But2 r p H (upd H' l o) := fun x u h1 h2 e => by rw [upd_ne (ne_of_none e hl)]; exact b x u h1 h2 e
theorem But2.mid {r p : Addr} {H H' : Hp} (b : But2 r p H H') : ∃ M : Hp, But r H M ∧ But p M H' ∧ M p = H p := by
  refine ⟨fun x => if x = p then H p else H' x, fun x o n e => ?_, fun x o n e => ?_, by simp⟩
  · by_cases h : x = p
    · subst h; simpa using e
    · simp only [if_neg h]; exact b x o n h e
  · simpa only [if_neg n] using e
theorem iss_but2 {K : PySem.W.Frag} {r p : Addr} {H H' : Hp} {d : List Dt} {v : List V} {xs ys : List V} (hr : H r = some (.lst xs)) (hp : H p = some (.lst ys)) (b : But2 r p H H') (h : IsPs K H d v) : IsPs K H' d v := by
  obtain ⟨M, b1, b2, e⟩ := b.mid
  exact (h.but hr b1).but (e.trans hp) b2
/-- how many more may hold kinds -/
noncomputable def bud (x : Int) : Nat := (x / 5).toNat
theorem bud_less (x : Int) : bud (x - 5) ≤ bud x := by unfold bud; omega
theorem bud_step {x : Int} (h : 0 ≤ x - 5) : bud x = bud (x - 5) + 1 := by unfold bud; omega
noncomputable def GenK (K : PySem.W.Frag) (r p : Addr) (H : Hp) (D u : Nat) (x : Int) (Q : VK) : Prop := ∀ v d a c (n' x' : Int) H', But2 r p H H' → H' r = some (.lst [.int n']) → H' p = some (.lst [.int x']) → IsP K H' d v → FK a c d → a ≤ D → c + 4 * bud x' ≤ u + 4 * bud x → Q v H'
noncomputable def skind (K : PySem.W.Frag) (n : Nat) : Sp := fun vs H Q _ => ∃ (r p : Addr) (c x : Int) (m : Nat), 1 ≤ m ∧ m ≤ n ∧ vs = [.ref r, .int m, .ref p] ∧ r ≠ p ∧ H r = some (.lst [.int c]) ∧ H p = some (.lst [.int x]) ∧ GenK K r p H m 1 x Q
noncomputable def srecord (K : PySem.W.Frag) (n : Nat) : Sp := fun vs H Q _ => ∃ (r p : Addr) (c x : Int) (m : Nat), 1 ≤ m ∧ m ≤ n ∧ vs = [.ref r, .int (m + 1 : Nat), .ref p] ∧ r ≠ p ∧ H r = some (.lst [.int c]) ∧ H p = some (.lst [.int x]) ∧ GenK K r p H (m + 1) 4 x Q
noncomputable def srows (K : PySem.W.Frag) (n : Nat) : Sp := fun vs H Q _ => ∃ (r p : Addr) (c x : Int) (m : Nat), 1 ≤ m ∧ m ≤ n ∧ vs = [.ref r, .int (m + 2 : Nat), .ref p] ∧ r ≠ p ∧ H r = some (.lst [.int c]) ∧ H p = some (.lst [.int x]) ∧ GenK K r p H (m + 2) 5 x Q
theorem sum_snoc : ∀ (l : List Nat) (n : Nat), sumN (l ++ [n]) = sumN l + n
  | [], n => by show n + 0 = 0 + n; omega
  | m :: l, n => by
    show m + sumN (l ++ [n]) = m + sumN l + n
    rw [sum_snoc l n]
    omega
theorem rec_fk {ss : List Str} {gs : List G4} {m D : Nat} (nam : Nam m ss) (h8 : m ≤ 8) (e : gs.map (·.1) = ss) (fk : ∀ g ∈ gs, FK g.2.2.1 g.2.2.2 g.2.1) (hd : ∀ g ∈ gs, g.2.2.1 ≤ D) :
    FK (maxN (gs.map (·.2.2.1)) + 1) (sumN (gs.map (·.2.2.2)) + 1) (.tup [.str "record", .tup (gs.map prG)]) ∧ maxN (gs.map (·.2.2.1)) + 1 ≤ D + 1 := by
  refine ⟨.rcd fk (by rw [e]; exact nam.asc) (fun g hg => ?_) ?_, ?_⟩
  · exact nam.ok g.1 (by rw [← e]; exact List.mem_map.mpr ⟨g, hg, rfl⟩)
  · have := congrArg List.length e
    rw [List.length_map, nam.len] at this
    omega
  · exact Nat.succ_le_succ (max_le fun n hn => by
      obtain ⟨g, hg, rfl⟩ := List.mem_map.mp hn
      exact hd g hg)
theorem ok_law_record_kind (T : Tx K mg ad) {f fk : Addr} {fd fdk : FuncData} (n : Nat) (F : Gn K mg "_law_record_kind" s_law_record_kind ["row", "deep", "room"] f fd) (D_law_kind : Gn K mg "_law_kind" s_law_kind ["row", "deep", "room"] fk fdk)
    (G_law_kind : FnOk P w K mg base CX0 (3 * n + 6) fk fdk ["row", "deep", "room"] (skind K n)) : FnOk P w K mg base CX0 (3 * n + 6 + 1) f fd ["row", "deep", "room"] (srecord K n) := by
  obtain ⟨f_law_digit, fd_law_digit, D_law_digit⟩ := T.law_digit
  have G_law_digit := ok_law_digit (P := P) (w := w) (base := base) T D_law_digit
  obtain ⟨f_law_names, fd_law_names, D_law_names⟩ := T.law_names
  have G_law_names := ok_law_names (P := P) (w := w) (base := base) T D_law_names
  refine F.F.ok sc_law_record_kind (fun vs H Q E h => ?_) (fun cdv A outer s H vs Q E hr h => ?_)
  · obtain ⟨r, p, c, x, m, _, _, rfl, _⟩ := h
    rfl
  obtain ⟨r, p, c, x, m, hm1, hmn, rfl, nrp, hr0, hp0, q⟩ := h
  refine ⟨_, (@pss_cons _ _ _ _ _ (@ps_set _ _ 3 _ _ _ _ sc_law_record_kind.nd rfl (Or.inl rfl) (pe_call G_law_digit (hr.mono (by first | decide | omega)) rfl D_law_digit.m D_law_digit.F.kp D_law_digit.b .nil pass0 (@pa_cons _ _ _ _ _ (pv 0) (@pa_cons _ _ _ _ _ pe_int pa_nil (by rfl)) (by rfl))) (by rfl) (by first | exact .inl rfl | exact .inr rfl | assumption)) (@pss_cons _ _ _ _ _ (@ps_set _ _ 4 _ _ _ _ sc_law_record_kind.nd rfl (Or.inl rfl) (@pe_lst _ _ _ _ pa_nil) (by rfl) (by first | exact .inl rfl | exact .inr rfl | assumption)) (@pss_cons _ _ _ _ _ (ps_for PassesOwn.never rfl (pi_listN (K := K) rfl (pe_call G_law_names (hr.mono (by first | decide | omega)) rfl D_law_names.m D_law_names.F.kp D_law_names.b .nil pass0 (@pa_cons _ _ _ _ _ (pv 0) (@pa_cons _ _ _ _ _ (pv 3) pa_nil (by rfl)) (by rfl)))) (pg_name (i := 5) sc_law_record_kind.nd rfl (Or.inl rfl))
        (@pss_one _ _ _ (@ps_expr _ _ _ _ (pe_bm PySem.F.plainAttrs_list PySem.F.slot_list_append PySem.F.type_list_append mt_append (pv 4) (@pa_cons _ _ _ _ _ (@pe_tupPK _ K _ _ _ _ rfl (@pa_cons _ _ _ _ _ (pv 5) (@pa_cons _ _ _ _ _ (pe_call G_law_kind (hr.mono (by first | decide | omega)) rfl D_law_kind.m D_law_kind.F.kp D_law_kind.b .nil pass0 (@pa_cons _ _ _ _ _ (pv 0) (@pa_cons _ _ _ _ _ (@pe_op _ _ _ _ _ _ _ _ op_sub (pv 1) pe_int) (@pa_cons _ _ _ _ _ (pv 2) pa_nil (by rfl)) (by rfl)) (by rfl))) pa_nil (by rfl)) (by rfl))) pa_nil (by rfl))) (by rfl)))) (@pss_one _ _ _ (@ps_ret _ _ _ _ (@pe_tupPK _ K _ _ _ _ rfl (@pa_cons _ _ _ _ _ pe_str (@pa_cons _ _ _ _ _ (pe_callTy (call_tuplePN (K := K) rfl) rfl T.z_tuple boot_tuple (@pa_cons _ _ _ _ _ (pv 4) pa_nil (by rfl))) pa_nil (by rfl)) (by rfl)))))))), ?_⟩
  refine ⟨_, rfl, r, c, 4, rfl, hr0, by decide, by decide, ?_⟩
  obtain ⟨k0, k1⟩ := mod_lt c (m := 4) (by decide)
  obtain ⟨k, hk⟩ : ∃ k : Nat, ((k : Nat) : Int) = c % 4 := ⟨(c % 4).toNat, by omega⟩
  have B1 : But2 r p H (upd H r (.lst [.int (c / 4)])) := .one But.put
  refine ⟨(by show 0 ≤ sizeLine; decide), fun pf hpf => ?_⟩
  have nrf : r ≠ pf := fun e => by rw [← e, upd_same] at hpf; cases hpf
  have hfH : H pf = none := by rw [upd_ne nrf.symm] at hpf; exact hpf
  have npf : p ≠ pf := ne_of_none hp0 hfH
  refine ⟨_, rfl, _, rfl, r, c / 4, k, (by show [V.ref r, V.int (c % 4)] = _; rw [hk]), (by rw [upd_ne nrf]; exact upd_same), by omega, fun pn ss c2 H2 b2 hpn r2 n2 nam => ?_⟩
  have nfn : pf ≠ pn := ne_of_none (upd_same (o := .lst [])) hpn
  have p1 : (upd (upd H r (.lst [.int (c / 4)])) pf (.lst [])) p = some (.lst [.int x]) := by rw [upd_ne npf, upd_ne nrp.symm]; exact hp0
  have npn : p ≠ pn := ne_of_none p1 hpn
  have nrn : r ≠ pn := ne_of_none (by rw [upd_ne nrf]; exact upd_same) hpn
  have hnH : H pn = none := by
    have := hpn
    rw [upd_ne nfn.symm, upd_ne nrn.symm] at this
    exact this
  have B2 : But2 r p H H2 := (B1.trans (.same (same_new hpf _))).trans (.one b2)
  have p2 : H2 p = some (.lst [.int x]) := b2 _ _ nrp.symm p1
  have f2 : H2 pf = some (.lst []) := b2 _ _ nrf.symm upd_same
  refine ⟨pn, rfl, ⟨_, SqL.of n2⟩, for_list (xs := ss.map V.str) (fun i σ H' => ∃ (gs : List G4) (ys : List V) (c' x' : Int) (v6 : Option V), But2 r p H H' ∧ H' r = some (.lst [.int c']) ∧ H' p = some (.lst [.int x']) ∧ H' pn = some (.lst (ss.map V.str)) ∧ H' pf = some (.lst ys) ∧ IsPs K H' (gs.map prG) ys ∧ gs.map (·.1) = ss.take i ∧ (∀ g ∈ gs, FK g.2.2.1 g.2.2.2 g.2.1) ∧ (∀ g ∈ gs, g.2.2.1 ≤ m) ∧ sumN (gs.map (·.2.2.2)) + 4 * bud x' ≤ i + 4 * bud x ∧ σ = [some (.ref r), some (.int (m + 1 : Nat)), some (.ref p), some (.int (c % 4)), some (.ref pf), v6])
    ⟨[], [], c2, x, _, B2, r2, p2, n2, f2, .nil, rfl, (fun g hg => by cases hg), (fun g hg => by cases hg), (by show 0 + 4 * bud x ≤ 0 + 4 * bud x; omega), rfl⟩ (fun i σ H' _ h => by obtain ⟨_, _, _, _, _, _, _, _, h, _⟩ := h; exact SqL.of h) ?_ ?_⟩
  · rintro i u σ H3 hu ⟨gs, ys, c3, x3, v6, B3, r3, p3, n3, f3, hys, nms, fk, hd, hsum, rfl⟩
    rw [List.getElem?_map] at hu
    obtain ⟨z, hz, rfl⟩ := Option.map_eq_some_iff.mp hu
    have li := (List.getElem?_eq_some_iff.mp hz).1
    have lss := nam.len
    have lgs : gs.length = i := by
      have := congrArg List.length nms
      rw [List.length_map, List.length_take] at this
      omega
    have lys := hys.length
    rw [List.length_map] at lys
    have e1 : (((m + 1 : Nat) : Int)) - 1 = ((m : Nat) : Int) := by omega
    refine ⟨_, rfl, .inl ⟨rfl, _, SqL.of f3⟩, _, rfl, _, rfl, _, rfl, _, _, rfl, rfl, _, rfl, r, p, c3, x3, m, hm1, hmn, (by show [V.ref r, V.int (((m + 1 : Nat) : Int) - 1), V.ref p] = _; rw [e1]), nrp, r3, p3, fun v d a c4 n4 x4 H4 b4 r4 p4 hv fk4 ha hc4 => ?_⟩
    refine ⟨[.str z, d], .cons .str (.cons hv .nil), (by show 2 ≤ sizeLine; decide), fun v5 H5 g5 hv5 => ?_⟩
    have f5 : H5 pf = some (.lst ys) := g5 _ _ (b4 _ _ nrf.symm npf.symm f3)
    refine ⟨pf, ys, v5, rfl, rfl, f5, small1000 (by omega), ?_⟩
    refine ⟨gs ++ [(z, d, a, c4)], ys ++ [v5], n4, x4, _, ((B3.trans b4).trans (.same g5)).upd hfH, (by rw [upd_ne nrf]; exact g5 _ _ r4), (by rw [upd_ne npf]; exact g5 _ _ p4), (by rw [upd_ne nfn.symm]; exact g5 _ _ (b4 _ _ nrn.symm npn.symm n3)), upd_same, ?_, ?_, ?_, ?_, ?_, rfl⟩
    · rw [List.map_append]
      exact (((iss_but2 r3 p3 b4 hys).same g5).append (.cons hv5 .nil)).but f5 But.put
    · rw [List.map_append, nms, List.take_add_one, hz]
      rfl
    · intro g hg
      rcases List.mem_append.mp hg with h | h
      · exact fk g h
      · obtain rfl := List.mem_singleton.mp h
        exact fk4
    · intro g hg
      rcases List.mem_append.mp hg with h | h
      · exact hd g h
      · obtain rfl := List.mem_singleton.mp h
        exact ha
    · rw [List.map_append]
      show sumN (gs.map (·.2.2.2) ++ [c4]) + _ ≤ _
      rw [sum_snoc]
      omega
  · rintro σ H3 ⟨gs, ys, c3, x3, v6, B3, r3, p3, n3, f3, hys, nms, fk, hd, hsum, rfl⟩
    have lss := nam.len
    rw [List.length_map, List.take_length] at nms
    rw [List.length_map] at hsum
    obtain ⟨F1, F2⟩ := rec_fk (D := m) nam (by omega) nms fk hd
    refine ⟨_, rfl, pf, _, _, rfl, SqL.of f3, hys, fun v4 H4 g4 hv4 => ?_⟩
    refine ⟨[.str "record", .tup (gs.map prG)], .cons .str (.cons hv4 .nil), (by show 2 ≤ sizeLine; decide), fun v5 H5 g5 hv5 => ?_⟩
    exact q v5 _ _ _ c3 x3 H5 ((B3.trans (.same g4)).trans (.same g5)) (g5 _ _ (g4 _ _ r3)) (g5 _ _ (g4 _ _ p3)) hv5 F1 F2 (by omega)
theorem ok_law_kind (T : Tx K mg ad) {f fr fw : Addr} {fd fdr fdw : FuncData} (n : Nat) (D_law_kind : Gn K mg "_law_kind" s_law_kind ["row", "deep", "room"] f fd) (D_law_record_kind : Gn K mg "_law_record_kind" s_law_record_kind ["row", "deep", "room"] fr fdr) (D_law_rows_kind : Gn K mg "_law_rows_kind" s_law_rows_kind ["row", "deep", "room"] fw fdw)
    (G_law_kind : FnOk P w K mg base CX0 (3 * n + 6) f fd ["row", "deep", "room"] (skind K n)) (G_law_record_kind : FnOk P w K mg base CX0 (3 * n + 7) fr fdr ["row", "deep", "room"] (srecord K n)) (G_law_rows_kind : FnOk P w K mg base CX0 (3 * n + 7) fw fdw ["row", "deep", "room"] (srows K (n - 1))) :
    FnOk P w K mg base CX0 (3 * n + 8 + 1) f fd ["row", "deep", "room"] (skind K (n + 1)) := by
  obtain ⟨f_law_digit, fd_law_digit, D_law_digit⟩ := T.law_digit
  have G_law_digit := ok_law_digit (P := P) (w := w) (base := base) T D_law_digit
  obtain ⟨f_law_leaf_kind, fd_law_leaf_kind, D_law_leaf_kind⟩ := T.law_leaf_kind
  have G_law_leaf_kind := ok_law_leaf_kind (P := P) (w := w) (base := base) T D_law_leaf_kind
  refine D_law_kind.F.ok sc_law_kind (fun vs H Q E h => ?_) (fun cdv A outer s H vs Q E hr h => ?_)
  · obtain ⟨r, p, c, x, m, _, _, rfl, _⟩ := h
    rfl
  obtain ⟨r, p, c, x, m, hm1, hmn, rfl, nrp, hr0, hp0, q⟩ := h
  refine ⟨_, (@pss_cons _ _ _ _ _ (@ps_set _ _ 3 _ _ _ _ sc_law_kind.nd rfl (Or.inl rfl) (pe_call G_law_digit (hr.mono (by first | decide | omega)) rfl D_law_digit.m D_law_digit.F.kp D_law_digit.b .nil pass0 (@pa_cons _ _ _ _ _ (pv 0) (@pa_cons _ _ _ _ _ pe_int pa_nil (by rfl)) (by rfl))) (by rfl) (by first | exact .inl rfl | exact .inr rfl | assumption)) (@pss_cons _ _ _ _ _ (ps_asg (@pe_op _ _ _ _ _ _ _ _ op_sub (@pe_ix _ _ _ _ _ _ _ (ix_listK (K := K) rfl) (pv 2) pe_int (fun _ _ => rfl)) pe_int) (pg_sub (pv 2) pe_int set_list)) (@pss_cons _ _ _ _ _ (@ps_if _ _ _ _ _ _ _ _ (PW.pt (@pw_or _ _ _ _ _ _ _ (pt_cmpR op_lt (pv 3) pe_int (nomark _)) (@pw_or _ _ _ _ _ _ _ (pt_cmpR op_lt (pv 1) pe_int (nomark _)) (@pw_or1 _ _ _ _ (pt_cmpR op_lt (@pe_ix _ _ _ _ _ _ _ (ix_listK (K := K) rfl) (pv 2) pe_int (fun _ _ => rfl)) pe_int (nomark _)))))) (@pss_one _ _ _ (@ps_ret _ _ _ _ (pe_call G_law_leaf_kind (hr.mono (by first | decide | omega)) rfl D_law_leaf_kind.m D_law_leaf_kind.F.kp D_law_leaf_kind.b .nil pass0 (@pa_cons _ _ _ _ _ (pv 0) pa_nil (by rfl))))) pss_nil) (@pss_cons _ _ _ _ _ (@ps_if _ _ _ _ _ _ _ _ (pt_cmpR op_eq (pv 3) pe_int (nomark _)) (@pss_one _ _ _ (@ps_ret _ _ _ _ (@pe_tupPK _ K _ _ _ _ rfl (@pa_cons _ _ _ _ _ pe_str (@pa_cons _ _ _ _ _ (pe_call G_law_kind (hr.mono (by first | decide | omega)) rfl D_law_kind.m D_law_kind.F.kp D_law_kind.b .nil pass0 (@pa_cons _ _ _ _ _ (pv 0) (@pa_cons _ _ _ _ _ (@pe_op _ _ _ _ _ _ _ _ op_sub (pv 1) pe_int) (@pa_cons _ _ _ _ _ (pv 2) pa_nil (by rfl)) (by rfl)) (by rfl))) (@pa_cons _ _ _ _ _ (pe_call G_law_digit (hr.mono (by first | decide | omega)) rfl D_law_digit.m D_law_digit.F.kp D_law_digit.b .nil pass0 (@pa_cons _ _ _ _ _ (pv 0) (@pa_cons _ _ _ _ _ pe_int pa_nil (by rfl)) (by rfl))) pa_nil (by rfl)) (by rfl)) (by rfl))))) pss_nil) (@pss_cons _ _ _ _ _ (@ps_if _ _ _ _ _ _ _ _ (PW.pt (@pw_and _ _ _ _ _ _ _ (pt_cmpR op_eq (pv 3) pe_int (nomark _)) (@pw_and1 _ _ _ _ (pt_cmpR op_gt (pv 1) pe_int (nomark _))))) (@pss_one _ _ _ (@ps_ret _ _ _ _ (pe_call G_law_rows_kind (hr.mono (by first | decide | omega)) rfl D_law_rows_kind.m D_law_rows_kind.F.kp D_law_rows_kind.b .nil pass0 (@pa_cons _ _ _ _ _ (pv 0) (@pa_cons _ _ _ _ _ (pv 1) (@pa_cons _ _ _ _ _ (pv 2) pa_nil (by rfl)) (by rfl)) (by rfl))))) pss_nil) (@pss_one _ _ _ (@ps_ret _ _ _ _ (pe_call G_law_record_kind (hr.mono (by first | decide | omega)) rfl D_law_record_kind.m D_law_record_kind.F.kp D_law_record_kind.b .nil pass0 (@pa_cons _ _ _ _ _ (pv 0) (@pa_cons _ _ _ _ _ (pv 1) (@pa_cons _ _ _ _ _ (pv 2) pa_nil (by rfl)) (by rfl)) (by rfl)))))))))), ?_⟩
  refine ⟨_, rfl, r, c, 6, rfl, hr0, by decide, by decide, ?_⟩
  have p1 : (upd H r (.lst [.int (c / 6)])) p = some (.lst [.int x]) := by rw [upd_ne nrp.symm]; exact hp0
  have e0 : ∀ y : Int, atI [V.int y] 0 = some (.int y) := fun _ => rfl
  refine ⟨_, rfl, p, _, _, _, rfl, rfl, SqL.of p1, e0 x, _, _, rfl, rfl, _, rfl, p, _, _, _, rfl, rfl, p1, rfl, _, rfl, ?_⟩
  have B2 : But2 r p H (upd (upd H r (.lst [.int (c / 6)])) p (.lst [.int (x - 5)])) := (But2.one But.put).trans (.two But.put)
  have r2 : (upd (upd H r (.lst [.int (c / 6)])) p (.lst [.int (x - 5)])) r = some (.lst [.int (c / 6)]) := by rw [upd_ne nrp]; exact upd_same
  have p2 : (upd (upd H r (.lst [.int (c / 6)])) p (.lst [.int (x - 5)])) p = some (.lst [.int (x - 5)]) := upd_same
  have bl := bud_less x
  refine ⟨_, _, rfl, rfl, _, rfl, ite2 (fun c1 => iteT ?leaf) (fun c1 => ?_)⟩
  case leaf => exact ⟨_, rfl, r, c / 6, rfl, r2, fun v d n' H' b e hv fk => q v d 1 1 n' (x - 5) H' (B2.trans (.one b)) e (b _ _ nrp.symm p2) hv fk hm1 (by omega)⟩
  refine ⟨_, rfl, _, _, rfl, rfl, _, rfl, ite2 (fun c2 => iteT ?leaf) (fun c2 => ?_)⟩
  case leaf => exact ⟨_, rfl, r, c / 6, rfl, r2, fun v d n' H' b e hv fk => q v d 1 1 n' (x - 5) H' (B2.trans (.one b)) e (b _ _ nrp.symm p2) hv fk hm1 (by omega)⟩
  refine ⟨_, rfl, p, _, _, _, rfl, rfl, SqL.of p2, e0 (x - 5), _, _, rfl, rfl, _, rfl, ite2 (fun c3 => ?leaf) (fun c3 => ?_)⟩
  case leaf => exact ⟨_, rfl, r, c / 6, rfl, r2, fun v d n' H' b e hv fk => q v d 1 1 n' (x - 5) H' (B2.trans (.one b)) e (b _ _ nrp.symm p2) hv fk hm1 (by omega)⟩
  have m2 : 2 ≤ m := by
    have : ¬ ((m : Nat) : Int) < 2 := fun h => c2 (decide_eq_true h)
    omega
  have x5 : 0 ≤ x - 5 := by
    have : ¬ x - 5 < 0 := fun h => c3 (decide_eq_true h)
    omega
  have bs := bud_step x5
  obtain ⟨m, rfl⟩ : ∃ k, m = k + 1 := ⟨m - 1, by omega⟩
  have e1 : (((m + 1 : Nat) : Int)) - 1 = ((m : Nat) : Int) := by omega
  refine ⟨_, rfl, rfl, _, rfl, ite2 (fun c4 => ?_) (fun c4 => ?_)⟩
  · refine ⟨_, rfl, _, rfl, _, _, rfl, rfl, _, rfl, r, p, c / 6, x - 5, m, by omega, by omega, (by show [V.ref r, V.int (((m + 1 : Nat) : Int) - 1), V.ref p] = _; rw [e1]), nrp, r2, p2, fun v d a c4 n4 x4 H4 b4 r4 p4 hv fk4 ha hc4 => ?_⟩
    obtain ⟨k0, k1⟩ := mod_lt n4 (m := 9) (by decide)
    refine ⟨_, rfl, r, n4, 9, rfl, r4, by decide, by decide, [.str "list", d, .int _], .cons .str (.cons (hv.but r4 But.put) (.cons .int .nil)), (by show 3 ≤ sizeLine; decide), fun v5 H5 g5 hv5 => ?_⟩
    exact q v5 _ (a + 1) (c4 + 1) (n4 / 9) x4 H5 (((B2.trans b4).trans (.one But.put)).trans (.same g5)) (g5 _ _ upd_same) (g5 _ _ (by rw [upd_ne nrp.symm]; exact p4)) hv5 (.list fk4 k0 (by omega)) (by omega) (by omega)
  refine ⟨_, rfl, rfl, _, rfl, ite2 (fun c5 => ?_) (fun c5 => iteF ?_)⟩
  · refine ⟨_, rfl, _, _, rfl, rfl, _, rfl, ite2 (fun c6 => ?_) (fun c6 => ?_)⟩
    · have m3 : 3 ≤ m + 1 := by
        have : (2 : Int) < ((m + 1 : Nat) : Int) := of_decide_eq_true c6
        omega
      obtain ⟨m, rfl⟩ : ∃ k, m = k + 1 := ⟨m - 1, by omega⟩
      exact ⟨_, rfl, _, rfl, _, rfl, r, p, c / 6, x - 5, m, by omega, by omega, rfl, nrp, r2, p2, fun v d a c4 n4 x4 H4 b4 r4 p4 hv fk4 ha hc4 => q v d a c4 n4 x4 H4 (B2.trans b4) r4 p4 hv fk4 ha (by omega)⟩
    · exact ⟨_, rfl, _, rfl, _, rfl, r, p, c / 6, x - 5, m, by omega, by omega, rfl, nrp, r2, p2, fun v d a c4 n4 x4 H4 b4 r4 p4 hv fk4 ha hc4 => q v d a c4 n4 x4 H4 (B2.trans b4) r4 p4 hv fk4 ha (by omega)⟩
  · exact ⟨_, rfl, _, rfl, _, rfl, r, p, c / 6, x - 5, m, by omega, by omega, rfl, nrp, r2, p2, fun v d a c4 n4 x4 H4 b4 r4 p4 hv fk4 ha hc4 => q v d a c4 n4 x4 H4 (B2.trans b4) r4 p4 hv fk4 ha (by omega)⟩
noncomputable def keyK (d : Dt) : Prop := ∃ w r, d = .tup (.str w :: r) ∧ (w = "number" ∨ w = "text")
structure RkI (K : PySem.W.Frag) (r p pn pf : Addr) (ss : List Str) (key : Str) (m : Nat) (x : Int) (H : Hp) (i : Nat) (gs : List G4) (ys : List V) (c' x' : Int) (H' : Hp) : Prop where
  B : But2 r p H H'
  hr : H' r = some (.lst [.int c'])
  hp : H' p = some (.lst [.int x'])
  hn : H' pn = some (.lst (ss.map V.str))
  hf : H' pf = some (.lst ys)
  hys : IsPs K H' (gs.map prG) ys
  nms : gs.map (·.1) = ss.take i
  fk : ∀ g ∈ gs, FK g.2.2.1 g.2.2.2 g.2.1
  hd : ∀ g ∈ gs, g.2.2.1 ≤ m
  ky : ∀ g ∈ gs, g.1 = key → keyK g.2.1
  sum : sumN (gs.map (·.2.2.2)) + 4 * bud x' ≤ i + 4 * bud x
theorem RkI.next {K : PySem.W.Frag} {r p pn pf : Addr} {ss : List Str} {key z : Str} {m i a c4 : Nat} {x c3 x3 n4 x4 : Int} {H H3 H4 H5 : Hp} {gs : List G4} {ys : List V} {d : Dt} {v5 : V} (I : RkI K r p pn pf ss key m x H i gs ys c3 x3 H3) (hz : ss[i]? = some z)
    (nrf : r ≠ pf) (npf : p ≠ pf) (nrn : r ≠ pn) (npn : p ≠ pn) (nfn : pf ≠ pn) (hfH : H pf = none) (b4 : But2 r p H3 H4) (r4 : H4 r = some (.lst [.int n4])) (p4 : H4 p = some (.lst [.int x4])) (fk4 : FK a c4 d) (ha : a ≤ m) (hc4 : c4 + 4 * bud x4 ≤ 1 + 4 * bud x3) (hk : z = key → keyK d)
    (g5 : Same H4 H5) (hv5 : IsP K H5 (.tup [.str z, d]) v5) : RkI K r p pn pf ss key m x H (i + 1) (gs ++ [(z, d, a, c4)]) (ys ++ [v5]) n4 x4 (upd H5 pf (.lst (ys ++ [v5]))) := by
  obtain ⟨B3, r3, p3, n3, f3, hys, nms, fk, hd, ky, hsum⟩ := I
  have f5 : H5 pf = some (.lst ys) := g5 _ _ (b4 _ _ nrf.symm npf.symm f3)
  refine ⟨((B3.trans b4).trans (.same g5)).upd hfH, (by rw [upd_ne nrf]; exact g5 _ _ r4), (by rw [upd_ne npf]; exact g5 _ _ p4), (by rw [upd_ne nfn.symm]; exact g5 _ _ (b4 _ _ nrn.symm npn.symm n3)), upd_same, ?_, ?_, ?_, ?_, ?_, ?_⟩
  · rw [List.map_append]
    exact (((iss_but2 r3 p3 b4 hys).same g5).append (.cons hv5 .nil)).but f5 But.put
  · rw [List.map_append, nms, List.take_add_one, hz]
    rfl
  · intro g hg
    rcases List.mem_append.mp hg with h | h
    · exact fk g h
    · obtain rfl := List.mem_singleton.mp h
      exact fk4
  · intro g hg
    rcases List.mem_append.mp hg with h | h
    · exact hd g h
    · obtain rfl := List.mem_singleton.mp h
      exact ha
  · intro g hg
    rcases List.mem_append.mp hg with h | h
    · exact ky g h
    · obtain rfl := List.mem_singleton.mp h
      exact hk
  · rw [List.map_append]
    show sumN (gs.map (·.2.2.2) ++ [c4]) + _ ≤ _
    rw [sum_snoc]
    omega
theorem RkI.few {K : PySem.W.Frag} {r p pn pf : Addr} {ss : List Str} {key : Str} {m i : Nat} {x c3 x3 : Int} {H H3 : Hp} {gs : List G4} {ys : List V} (I : RkI K r p pn pf ss key m x H i gs ys c3 x3 H3) : ys.length ≤ ss.length := by
  have lys := I.hys.length
  have := congrArg List.length I.nms
  rw [List.length_map, List.length_take] at this
  rw [List.length_map] at lys
  omega
theorem ok_law_rows_kind (T : Tx K mg ad) {f fk : Addr} {fd fdk : FuncData} (n : Nat) (F : Gn K mg "_law_rows_kind" s_law_rows_kind ["row", "deep", "room"] f fd) (D_law_kind : Gn K mg "_law_kind" s_law_kind ["row", "deep", "room"] fk fdk)
    (G_law_kind : FnOk P w K mg base CX0 (3 * n + 6) fk fdk ["row", "deep", "room"] (skind K n)) : FnOk P w K mg base CX0 (3 * n + 6 + 1) f fd ["row", "deep", "room"] (srows K n) := by
  obtain ⟨f_law_digit, fd_law_digit, D_law_digit⟩ := T.law_digit
  have G_law_digit := ok_law_digit (P := P) (w := w) (base := base) T D_law_digit
  obtain ⟨f_law_names, fd_law_names, D_law_names⟩ := T.law_names
  have G_law_names := ok_law_names (P := P) (w := w) (base := base) T D_law_names
  obtain ⟨f_law_number_kind, fd_law_number_kind, D_law_number_kind⟩ := T.law_number_kind
  have G_law_number_kind := ok_law_number_kind (P := P) (w := w) (base := base) T D_law_number_kind
  refine F.F.ok sc_law_rows_kind (fun vs H Q E h => ?_) (fun cdv A outer s H vs Q E hr h => ?_)
  · obtain ⟨r, p, c, x, m, _, _, rfl, _⟩ := h
    rfl
  obtain ⟨r, p, c, x, m, hm1, hmn, rfl, nrp, hr0, hp0, q⟩ := h
  refine ⟨_, (@pss_cons _ _ _ _ _ (@ps_set _ _ 3 _ _ _ _ sc_law_rows_kind.nd rfl (Or.inl rfl) (pe_call G_law_names (hr.mono (by first | decide | omega)) rfl D_law_names.m D_law_names.F.kp D_law_names.b .nil pass0 (@pa_cons _ _ _ _ _ (pv 0) (@pa_cons _ _ _ _ _ (@pe_op _ _ _ _ _ _ _ _ op_add pe_int (pe_call G_law_digit (hr.mono (by first | decide | omega)) rfl D_law_digit.m D_law_digit.F.kp D_law_digit.b .nil pass0 (@pa_cons _ _ _ _ _ (pv 0) (@pa_cons _ _ _ _ _ pe_int pa_nil (by rfl)) (by rfl)))) pa_nil (by rfl)) (by rfl))) (by rfl) (by first | exact .inl rfl | exact .inr rfl | assumption)) (@pss_cons _ _ _ _ _ (@ps_set _ _ 4 _ _ _ _ sc_law_rows_kind.nd rfl (Or.inl rfl) (@pe_ix _ _ _ _ _ _ _ (ix_listK (K := K) rfl) (pv 3) (pe_call G_law_digit (hr.mono (by first | decide | omega)) rfl D_law_digit.m D_law_digit.F.kp D_law_digit.b .nil pass0 (@pa_cons _ _ _ _ _ (pv 0) (@pa_cons _ _ _ _ _ (pe_callB call_len_seq rfl T.z_len PySem.boot_len (@pa_cons _ _ _ _ _ (pv 3) pa_nil (by rfl))) pa_nil (by rfl)) (by rfl))) (fun _ _ => rfl)) (by rfl) (by first | exact .inl rfl | exact .inr rfl | assumption)) (@pss_cons _ _ _ _ _ (@ps_set _ _ 5 _ _ _ _ sc_law_rows_kind.nd rfl (Or.inl rfl) (@pe_lst _ _ _ _ pa_nil) (by rfl) (by first | exact .inl rfl | exact .inr rfl | assumption)) (@pss_cons _ _ _ _ _ (ps_for PassesOwn.never rfl (pi_listN (K := K) rfl (pv 3)) (pg_name (i := 6) sc_law_rows_kind.nd rfl (Or.inl rfl))
        (@pss_cons _ _ _ _ _ (@ps_set _ _ 7 _ _ _ _ sc_law_rows_kind.nd rfl (Or.inl rfl) (pe_call G_law_number_kind (hr.mono (by first | decide | omega)) rfl D_law_number_kind.m D_law_number_kind.F.kp D_law_number_kind.b .nil pass0 (@pa_cons _ _ _ _ _ (pv 0) pa_nil (by rfl))) (by rfl) (by first | exact .inl rfl | exact .inr rfl | assumption)) (@pss_cons _ _ _ _ _ (@ps_if _ _ _ _ _ _ _ _ (pt_cmpR op_eq (pe_call G_law_digit (hr.mono (by first | decide | omega)) rfl D_law_digit.m D_law_digit.F.kp D_law_digit.b .nil pass0 (@pa_cons _ _ _ _ _ (pv 0) (@pa_cons _ _ _ _ _ pe_int pa_nil (by rfl)) (by rfl))) pe_int (nomark _)) (@pss_one _ _ _ (@ps_set _ _ 7 _ _ _ _ sc_law_rows_kind.nd rfl (Or.inl rfl) (@pe_tupPK _ K _ _ _ _ rfl (@pa_cons _ _ _ _ _ pe_str (@pa_cons _ _ _ _ _ (pe_call G_law_digit (hr.mono (by first | decide | omega)) rfl D_law_digit.m D_law_digit.F.kp D_law_digit.b .nil pass0 (@pa_cons _ _ _ _ _ (pv 0) (@pa_cons _ _ _ _ _ pe_int pa_nil (by rfl)) (by rfl))) pa_nil (by rfl)) (by rfl))) (by rfl) (by first | exact .inl rfl | exact .inr rfl | assumption))) pss_nil) (@pss_cons _ _ _ _ _ (@ps_if _ _ _ _ _ _ _ _ (pt_cmpR op_ne (pv 6) (pv 4) (nomark _)) (@pss_one _ _ _ (@ps_set _ _ 7 _ _ _ _ sc_law_rows_kind.nd rfl (Or.inl rfl) (pe_call G_law_kind (hr.mono (by first | decide | omega)) rfl D_law_kind.m D_law_kind.F.kp D_law_kind.b .nil pass0 (@pa_cons _ _ _ _ _ (pv 0) (@pa_cons _ _ _ _ _ (@pe_op _ _ _ _ _ _ _ _ op_sub (pv 1) pe_int) (@pa_cons _ _ _ _ _ (pv 2) pa_nil (by rfl)) (by rfl)) (by rfl))) (by rfl) (by first | exact .inl rfl | exact .inr rfl | assumption))) pss_nil) (@pss_one _ _ _ (@ps_expr _ _ _ _ (pe_bm PySem.F.plainAttrs_list PySem.F.slot_list_append PySem.F.type_list_append mt_append (pv 5) (@pa_cons _ _ _ _ _ (@pe_tupPK _ K _ _ _ _ rfl (@pa_cons _ _ _ _ _ (pv 6) (@pa_cons _ _ _ _ _ (pv 7) pa_nil (by rfl)) (by rfl))) pa_nil (by rfl))) (by rfl))))))) (@pss_one _ _ _ (@ps_ret _ _ _ _ (@pe_tupPK _ K _ _ _ _ rfl (@pa_cons _ _ _ _ _ pe_str (@pa_cons _ _ _ _ _ (pv 4) (@pa_cons _ _ _ _ _ (@pe_tupPK _ K _ _ _ _ rfl (@pa_cons _ _ _ _ _ pe_str (@pa_cons _ _ _ _ _ (pe_callTy (call_tuplePN (K := K) rfl) rfl T.z_tuple boot_tuple (@pa_cons _ _ _ _ _ (pv 5) pa_nil (by rfl))) pa_nil (by rfl)) (by rfl))) (@pa_cons _ _ _ _ _ (pe_call G_law_digit (hr.mono (by first | decide | omega)) rfl D_law_digit.m D_law_digit.F.kp D_law_digit.b .nil pass0 (@pa_cons _ _ _ _ _ (pv 0) (@pa_cons _ _ _ _ _ pe_int pa_nil (by rfl)) (by rfl))) pa_nil (by rfl)) (by rfl)) (by rfl)) (by rfl))))))))), ?_⟩
  obtain ⟨k0, k1⟩ := mod_lt c (m := 3) (by decide)
  obtain ⟨k, hk⟩ : ∃ k : Nat, ((k : Nat) : Int) = 1 + c % 3 := ⟨(1 + c % 3).toNat, by omega⟩
  refine ⟨_, rfl, _, rfl, r, c, 3, rfl, hr0, by decide, by decide, _, _, rfl, rfl, r, c / 3, k, (by show [V.ref r, V.int (1 + c % 3)] = _; rw [hk]), upd_same, by omega, fun pn ss c2 H2 b2 hpn r2 n2 nam => ?_⟩
  have p1 : (upd H r (.lst [.int (c / 3)])) p = some (.lst [.int x]) := by rw [upd_ne nrp.symm]; exact hp0
  have npn : p ≠ pn := ne_of_none p1 hpn
  have nrn : r ≠ pn := ne_of_none upd_same hpn
  have hnH : H pn = none := by rw [upd_ne nrn.symm] at hpn; exact hpn
  have B2 : But2 r p H H2 := (But2.one But.put).trans (.one b2)
  have p2 : H2 p = some (.lst [.int x]) := b2 _ _ nrp.symm p1
  have lss := nam.len
  have ln : (0 : Int) < (((ss.map V.str).length : Nat) : Int) := by rw [List.length_map]; omega
  obtain ⟨d0, d1⟩ := mod_lt c2 ln
  obtain ⟨vk, hvk, ek⟩ := pick (xs := ss.map V.str) d0 d1
  obtain ⟨key, hkey, rfl⟩ := List.mem_map.mp hvk
  refine ⟨_, rfl, _, rfl, _, rfl, pn, _, rfl, .inl (SqL.of n2), r, c2, _, rfl, r2, ln, (by rw [List.length_map]; omega), pn, _, _, _, rfl, rfl, SqL.of (by rw [upd_ne nrn.symm]; exact n2), ek, ?_⟩
  generalize hL : (((ss.map V.str).length : Nat) : Int) = L at *
  have n3 : (upd H2 r (.lst [.int (c2 / L)])) pn = some (.lst (ss.map V.str)) := by rw [upd_ne nrn.symm]; exact n2
  have r3 : (upd H2 r (.lst [.int (c2 / L)])) r = some (.lst [.int (c2 / L)]) := upd_same
  have p3 : (upd H2 r (.lst [.int (c2 / L)])) p = some (.lst [.int x]) := by rw [upd_ne nrp.symm]; exact p2
  have B3 : But2 r p H (upd H2 r (.lst [.int (c2 / L)])) := B2.trans (.one But.put)
  generalize upd H2 r (.lst [.int (c2 / L)]) = H3 at *
  refine ⟨(by show 0 ≤ sizeLine; decide), fun pf hpf => ?_⟩
  have nrf : r ≠ pf := ne_of_none r3 hpf
  have npf : p ≠ pf := ne_of_none p3 hpf
  have nfn : pf ≠ pn := (ne_of_none n3 hpf).symm
  have hfH : H pf = none := by
    cases e : H pf with
    | none => rfl
    | some o => rw [B3 _ _ nrf.symm npf.symm e] at hpf; cases hpf
  refine ⟨_, rfl, pn, rfl, ⟨_, SqL.of (by rw [upd_ne nfn.symm]; exact n3)⟩, for_list (xs := ss.map V.str) (fun i σ H' => ∃ gs ys c' x' v6 v7, RkI K r p pn pf ss key m x H i gs ys c' x' H' ∧ σ = [some (.ref r), some (.int (m + 2 : Nat)), some (.ref p), some (.ref pn), some (.str key), some (.ref pf), v6, v7])
    ⟨[], [], c2 / L, x, none, none, ⟨B3.upd hfH, (by rw [upd_ne nrf]; exact r3), (by rw [upd_ne npf]; exact p3), (by rw [upd_ne nfn.symm]; exact n3), upd_same, .nil, rfl, (fun g hg => by cases hg), (fun g hg => by cases hg), (fun g hg => by cases hg), (by show 0 + 4 * bud x ≤ 0 + 4 * bud x; omega)⟩, rfl⟩ (fun i σ H' _ h => by obtain ⟨_, _, _, _, _, _, h, _⟩ := h; exact SqL.of h.hn) ?_ ?_⟩
  · rintro i u σ H4 hu ⟨gs, ys, c4, x4, v6, v7, I, rfl⟩
    rw [List.getElem?_map] at hu
    obtain ⟨z, hz, rfl⟩ := Option.map_eq_some_iff.mp hu
    have li := (List.getElem?_eq_some_iff.mp hz).1
    have few := I.few
    refine ⟨_, rfl, r, c4, rfl, I.hr, fun v5 lo hi n5 H5 b5 r5 hv5 fk5 => ?_⟩
    have p5 : H5 p = some (.lst [.int x4]) := b5 _ _ nrp.symm I.hp
    have e2 : (((m + 2 : Nat) : Int)) - 2 = ((m : Nat) : Int) := by omega
    refine ⟨_, rfl, r, n5, 2, rfl, r5, by decide, by decide, rfl, _, rfl, ite2 (fun c1 => ?_) (fun c1 => ?_)⟩
    · obtain ⟨k4, k5⟩ := mod_lt (n5 / 2) (m := 4) (by decide)
      refine ⟨_, rfl, r, n5 / 2, 4, rfl, upd_same, by decide, by decide, [.str "text", .int _], .cons .str (.cons .int .nil), (by show 2 ≤ sizeLine; decide), fun v6 H6 g6 hv6 => ?_⟩
      have B6 : But2 r p H4 H6 := (((But2.one b5).trans (.one But.put)).trans (.one But.put)).trans (.same g6)
      have r6 : H6 r = some (.lst [.int (n5 / 2 / 4)]) := g6 _ _ upd_same
      have p6 : H6 p = some (.lst [.int x4]) := g6 _ _ (by rw [upd_ne nrp.symm, upd_ne nrp.symm]; exact p5)
      refine ⟨_, rfl, _, rfl, rfl, _, rfl, ite2 (fun c2 => ?_) (fun c2 => ?_)⟩
      · refine ⟨_, rfl, _, rfl, _, _, rfl, rfl, _, rfl, r, p, n5 / 2 / 4, x4, m, hm1, hmn, (by show [V.ref r, V.int (((m + 2 : Nat) : Int) - 2), V.ref p] = _; rw [e2]), nrp, r6, p6, fun v d a c7 n7 x7 H7 b7 r7 p7 hv fk7 ha hc7 => ?_⟩
        refine ⟨_, rfl, .inl ⟨rfl, _, SqL.of (b7 _ _ nrf.symm npf.symm (B6 _ _ nrf.symm npf.symm I.hf))⟩, _, rfl, _, rfl, [.str z, d], .cons .str (.cons hv .nil), (by show 2 ≤ sizeLine; decide), fun v8 H8 g8 hv8 => ?_⟩
        exact ⟨pf, ys, v8, rfl, rfl, g8 _ _ (b7 _ _ nrf.symm npf.symm (B6 _ _ nrf.symm npf.symm I.hf)), small1000 (by omega), _, _, _, _, _, _, I.next hz nrf npf nrn npn nfn hfH (B6.trans b7) r7 p7 fk7 ha hc7 (fun e => by rw [e] at c2; simp at c2) g8 hv8, rfl⟩
      · refine ⟨_, rfl, .inl ⟨rfl, _, SqL.of (B6 _ _ nrf.symm npf.symm I.hf)⟩, _, rfl, _, rfl, [.str z, _], .cons .str (.cons hv6 .nil), (by show 2 ≤ sizeLine; decide), fun v8 H8 g8 hv8 => ?_⟩
        exact ⟨pf, ys, v8, rfl, rfl, g8 _ _ (B6 _ _ nrf.symm npf.symm I.hf), small1000 (by omega), _, _, _, _, _, _, I.next hz nrf npf nrn npn nfn hfH B6 r6 p6 (.text _ k4 (by omega)) hm1 (by omega) (fun _ => ⟨_, _, rfl, .inr rfl⟩) g8 hv8, rfl⟩
    · have B6 : But2 r p H4 (upd H5 r (.lst [.int (n5 / 2)])) := (But2.one b5).trans (.one But.put)
      have r6 : (upd H5 r (.lst [.int (n5 / 2)])) r = some (.lst [.int (n5 / 2)]) := upd_same
      have p6 : (upd H5 r (.lst [.int (n5 / 2)])) p = some (.lst [.int x4]) := by rw [upd_ne nrp.symm]; exact p5
      have hv6 := hv5.but r5 (But.put (o := .lst [.int (n5 / 2)]))
      refine ⟨_, rfl, _, rfl, rfl, _, rfl, ite2 (fun c2 => ?_) (fun c2 => ?_)⟩
      · refine ⟨_, rfl, _, rfl, _, _, rfl, rfl, _, rfl, r, p, n5 / 2, x4, m, hm1, hmn, (by show [V.ref r, V.int (((m + 2 : Nat) : Int) - 2), V.ref p] = _; rw [e2]), nrp, r6, p6, fun v d a c7 n7 x7 H7 b7 r7 p7 hv fk7 ha hc7 => ?_⟩
        refine ⟨_, rfl, .inl ⟨rfl, _, SqL.of (b7 _ _ nrf.symm npf.symm (B6 _ _ nrf.symm npf.symm I.hf))⟩, _, rfl, _, rfl, [.str z, d], .cons .str (.cons hv .nil), (by show 2 ≤ sizeLine; decide), fun v8 H8 g8 hv8 => ?_⟩
        exact ⟨pf, ys, v8, rfl, rfl, g8 _ _ (b7 _ _ nrf.symm npf.symm (B6 _ _ nrf.symm npf.symm I.hf)), small1000 (by omega), _, _, _, _, _, _, I.next hz nrf npf nrn npn nfn hfH (B6.trans b7) r7 p7 fk7 ha hc7 (fun e => by rw [e] at c2; simp at c2) g8 hv8, rfl⟩
      · refine ⟨_, rfl, .inl ⟨rfl, _, SqL.of (B6 _ _ nrf.symm npf.symm I.hf)⟩, _, rfl, _, rfl, [.str z, _], .cons .str (.cons hv6 .nil), (by show 2 ≤ sizeLine; decide), fun v8 H8 g8 hv8 => ?_⟩
        exact ⟨pf, ys, v8, rfl, rfl, g8 _ _ (B6 _ _ nrf.symm npf.symm I.hf), small1000 (by omega), _, _, _, _, _, _, I.next hz nrf npf nrn npn nfn hfH B6 r6 p6 fk5 hm1 (by omega) (fun _ => ⟨_, _, rfl, .inl rfl⟩) g8 hv8, rfl⟩
  · rintro σ H4 ⟨gs, ys, c4, x4, v6, v7, I, rfl⟩
    obtain ⟨B4, r4, p4, n4, f4, hys, nms, fk, hd, ky, hsum⟩ := I
    rw [List.length_map, List.take_length] at nms
    rw [List.length_map] at hsum
    obtain ⟨F1, F2⟩ := rec_fk (D := m) nam (by omega) nms fk hd
    have hK : keyL (gs.map prG) key := by
      obtain ⟨g, hg, rfl⟩ := List.mem_map.mp (nms ▸ hkey : key ∈ gs.map (·.1))
      obtain ⟨w, l, e, h⟩ := ky g hg rfl
      exact ⟨w, l, List.mem_map.mpr ⟨g, hg, by show Dt.tup [.str g.1, g.2.1] = _; rw [e]⟩, h⟩
    obtain ⟨k4, k5⟩ := mod_lt c4 (m := 9) (by decide)
    refine ⟨_, rfl, _, rfl, pf, _, _, rfl, SqL.of f4, hys, fun v5 H5 g5 hv5 => ?_⟩
    refine ⟨[.str "record", .tup (gs.map prG)], .cons .str (.cons hv5 .nil), (by show 2 ≤ sizeLine; decide), fun v6 H6 g6 hv6 => ?_⟩
    have r6 := g6 _ _ (g5 _ _ r4)
    refine ⟨_, rfl, r, c4, 9, rfl, r6, by decide, by decide, [.str "rows", .str key, .tup [.str "record", .tup (gs.map prG)], .int _], .cons .str (.cons .str (.cons (hv6.but r6 But.put) (.cons .int .nil))), (by show 4 ≤ sizeLine; decide), fun v7 H7 g7 hv7 => ?_⟩
    exact q v7 _ _ _ (c4 / 9) x4 H7 ((((B4.trans (.same g5)).trans (.same g6)).trans (.one But.put)).trans (.same g7)) (g7 _ _ upd_same) (g7 _ _ (by rw [upd_ne nrp.symm]; exact g6 _ _ (g5 _ _ p4))) hv7 (.rows F1 hK k4 (by omega)) (by omega) (by omega)
theorem kinds_all (T : Tx K mg ad) {f fr fw : Addr} {fd fdr fdw : FuncData} (D : Gn K mg "_law_kind" s_law_kind ["row", "deep", "room"] f fd) (Dr : Gn K mg "_law_record_kind" s_law_record_kind ["row", "deep", "room"] fr fdr) (Dw : Gn K mg "_law_rows_kind" s_law_rows_kind ["row", "deep", "room"] fw fdw) :
    ∀ n, FnOk P w K mg base CX0 (3 * n + 6) f fd ["row", "deep", "room"] (skind K n)
  | 0 => fn_none fun vs H Q E z => by obtain ⟨_, _, _, _, m, h1, h2, _⟩ := z; omega
  | n + 1 => by
    have ih := kinds_all T D Dr Dw n
    refine (ok_law_kind T n D Dr Dw ih (ok_law_record_kind T n Dr D ih) ((ok_law_rows_kind T n Dw D ih).imp ?_)).mono (by omega)
    rintro vs H Q E ⟨r, p, c, x, m, h1, h2, z⟩
    exact ⟨r, p, c, x, m, h1, by omega, z⟩
noncomputable def Bad (d : Dt) : Prop := okD d = true ∧ (formD 5 d = false ∨ ∃ a c, FK a c d ∧ a ≤ 5 ∧ 40 < c)
noncomputable def sp_law_refused (K : PySem.W.Frag) (_ : Ads) : Sp := fun vs H Q _ => ∃ (d : Dt) (x : V), vs = [x] ∧ IsP K H d x ∧ Bad d ∧ ∀ H', Same H H' → Q (.bl true) H'
theorem ok_law_refused (T : Tx K mg ad) {f : Addr} {fd : FuncData} (F : Gn K mg "_law_refused" s_law_refused ["kind"] f fd) : FnOk P w K mg base CX0 23 f fd ["kind"] (sp_law_refused K ad) := by
  obtain ⟨f_made_kind, fd_made_kind, D_made_kind⟩ := T.made_kind
  have G_made_kind := ok_made_kind (P := P) (w := w) (base := base) T D_made_kind
  refine F.F.ok sc_law_refused (fun vs H Q E h => ?_) (fun cdv A outer s H vs Q E hr h => ?_)
  · obtain ⟨d, x, rfl, _⟩ := h
    rfl
  obtain ⟨d, x, rfl, hd, bad, q⟩ := h
  refine ⟨_, (@pss_cons _ _ _ _ _ (@ps_set _ _ 1 _ _ _ _ sc_law_refused.nd rfl (Or.inl rfl) pe_bl (by rfl) (by first | exact .inl rfl | exact .inr rfl | assumption)) (@pss_cons _ _ _ _ _ (ps_try1 (i := 2) rfl rfl (px_call G_made_kind (hr.mono (by first | decide | omega)) rfl D_made_kind.m D_made_kind.F.kp D_made_kind.b (@pa_cons _ _ _ _ _ (pv 0) pa_nil (by rfl))) T.x_HandError.m rfl sc_law_refused.nd rfl rfl (fun _ => (@pss_one _ _ _ (@ps_set _ _ 1 _ _ _ _ sc_law_refused.nd rfl (Or.inl rfl) (pe_and (pe_callB (call_isxH (K := K) rfl) rfl T.z_isinstance boot_isinstance (@pa_cons _ _ _ _ _ (pv 2) (@pa_cons _ _ _ _ _ (pe_gref rfl T.x_BadKind.m) pa_nil (by rfl)) (by rfl))) (pe_and (pe_callB (call_isxTH (K := K) rfl) rfl T.z_isinstance boot_isinstance (@pa_cons _ _ _ _ _ (pv 2) (@pa_cons _ _ _ _ _ (pe_gty rfl T.z_ValueError bootVE) pa_nil (by rfl)) (by rfl))) (pe_one (pe_not (pe_callB (call_isxH (K := K) rfl) rfl T.z_isinstance boot_isinstance (@pa_cons _ _ _ _ _ (pv 2) (@pa_cons _ _ _ _ _ (pe_gref rfl T.x_BadValue.m) pa_nil (by rfl)) (by rfl))))))) (by rfl) (by first | exact .inl rfl | exact .inr rfl | assumption))))) (@pss_one _ _ _ (@ps_ret _ _ _ _ (pv 1))))), ?_⟩
  have kk := T.kits
  simp only [Bool.and_eq_true] at kk
  obtain ⟨⟨k1, k2⟩, k3⟩ := kk
  have X := T.x_BadKind.k
  refine ⟨_, rfl, d, x, rfl, hd, bad.1, ?_⟩
  rcases bad.2 with b | ⟨a, c, fk, ha, hc⟩
  · refine .inl ⟨b, fun H1 g1 => ⟨ad.BadKind, rfl, T.exk, fun ea hea => ?_⟩⟩
    have he' := upd_same (H := H1) (a := ea) (o := xO ea ad.BadKind)
    refine ⟨_, rfl, ea, _, _, _, rfl, he', X, beq_iff_eq.mp k1, _, rfl, iteT ⟨_, rfl, ea, _, _, _, rfl, he', X, beq_iff_eq.mp k2, _, rfl, iteT ⟨_, rfl, ea, _, _, _, rfl, he', X, beq_iff_eq.mp k3, _, rfl, ?_⟩⟩⟩
    exact ⟨_, rfl, q _ (g1.trans (same_new hea (xO ea ad.BadKind)))⟩
  · refine .inr ⟨a, c, fk, ha, fun z => by omega, fun _ H1 g1 => ⟨ad.BadKind, rfl, T.exk, fun ea hea => ?_⟩⟩
    have he' := upd_same (H := H1) (a := ea) (o := xO ea ad.BadKind)
    refine ⟨_, rfl, ea, _, _, _, rfl, he', X, beq_iff_eq.mp k1, _, rfl, iteT ⟨_, rfl, ea, _, _, _, rfl, he', X, beq_iff_eq.mp k2, _, rfl, iteT ⟨_, rfl, ea, _, _, _, rfl, he', X, beq_iff_eq.mp k3, _, rfl, ?_⟩⟩⟩
    exact ⟨_, rfl, q _ (g1.trans (same_new hea (xO ea ad.BadKind)))⟩
theorem and_no {K : PySem.W.Frag} {i : Nat} {u u' : Str} {l : List Dt} {t : TT} {A B : TS} {D : Ends} {σ : L2.St} {H : Hp} {x : V} (hσ : σ[i]? = some (some x)) (hd : IsP K H (.tup (.str u' :: l)) x) (hn : u' ≠ u) (h : B D σ H) :
    tIfS (tAnd (tTest (tOp rEq (tOp (nIxP K) (tVar i) (tC (.int 0))) (tC (.str u)))) t) A B D σ H :=
  ⟨x, hσ, _, _, _, hd, rfl, atI_nat (j := 0) rfl, fun v hv => by obtain rfl := isStrV hv; exact ⟨rfl, _, rfl, iteN (strNe hn) (iteF h)⟩⟩
theorem and_yes {K : PySem.W.Frag} {i : Nat} {u : Str} {l : List Dt} {t : TT} {A B : TS} {D : Ends} {σ : L2.St} {H : Hp} {x : V} (hσ : σ[i]? = some (some x)) (hd : IsP K H (.tup (.str u :: l)) x) (h : tIfS t A B D σ H) :
    tIfS (tAnd (tTest (tOp rEq (tOp (nIxP K) (tVar i) (tC (.int 0))) (tC (.str u)))) t) A B D σ H :=
  ⟨x, hσ, _, _, _, hd, rfl, atI_nat (j := 0) rfl, fun v hv => by obtain rfl := isStrV hv; exact ⟨rfl, _, rfl, iteY h⟩⟩
theorem sand_no {K : PySem.W.Frag} {i : Nat} {u u' : Str} {l : List Dt} {t : TT} {A b : TS} {D : Ends} {σ : L2.St} {H : Hp} {x : V} (hσ : σ[i]? = some (some x)) (hd : IsP K H (.tup (.str u' :: l)) x) (hn : u' ≠ u) (h : b D σ H) :
    tSeq (tIfS (tAnd (tTest (tOp rEq (tOp (nIxP K) (tVar i) (tC (.int 0))) (tC (.str u)))) t) A tNext) b D σ H := and_no (B := tNext) (D := { D with nx := b D }) hσ hd hn h
theorem sand_yes {K : PySem.W.Frag} {i : Nat} {u : Str} {l : List Dt} {t : TT} {A b : TS} {D : Ends} {σ : L2.St} {H : Hp} {x : V} (hσ : σ[i]? = some (some x)) (hd : IsP K H (.tup (.str u :: l)) x) (h : tSeq (tIfS t A tNext) b D σ H) :
    tSeq (tIfS (tAnd (tTest (tOp rEq (tOp (nIxP K) (tVar i) (tC (.int 0))) (tC (.str u)))) t) A tNext) b D σ H := and_yes (B := tNext) (D := { D with nx := b D }) hσ hd h
/-- a tuple of fields with one spoilt -/
theorem set_bad {gs : List G4} {i j : Nat} {z : Str} {k e : Dt} (ok : okDs (gs.map prG) = true) (hi : (gs.map prG)[i]? = some (.tup [.str z, k])) (oke : okD e = true) (bad : formD j e = false) :
    okDs ((gs.map prG).set i (.tup [.str z, e])) = true ∧ formD (j + 1) (.tup [.str "record", .tup ((gs.map prG).set i (.tup [.str z, e]))]) = false := by
  have li := (List.getElem?_eq_some_iff.mp hi).1
  have mem : Dt.tup [.str z, e] ∈ (gs.map prG).set i (.tup [.str z, e]) := List.mem_set li _
  have okz : okD (.str z) = true := by
    have h2 : (okD (.str z) && okDs [k]) = true := ok_mem ok _ (List.mem_of_getElem? hi)
    rw [Bool.and_eq_true] at h2
    exact h2.1
  refine ⟨ok_all fun d hd => ?_, ?_⟩
  · rcases List.mem_or_eq_of_mem_set hd with h | rfl
    · exact ok_mem ok d h
    · exact two_ok okz oke
  · show (decide (_ ≤ 8) && ((gs.map prG).set i (.tup [.str z, e])).all (fieldD (formD j)) && adjB _) = false
    have ea : ((gs.map prG).set i (.tup [.str z, e])).all (fieldD (formD j)) = false := by
      rw [Bool.eq_false_iff]
      intro h
      have h2 : (nameB z && formD j e) = true := List.all_eq_true.mp h _ mem
      rw [bad, Bool.and_false] at h2
      cases h2
    rw [ea, Bool.and_false, Bool.false_and]
theorem set_rec {gs : List G4} {i : Nat} {z : Str} {k e : Dt} (ok : okDs (gs.map prG) = true) (hi : (gs.map prG)[i]? = some (.tup [.str z, k])) (oke : okD e = true) (bad : ∀ j, j ≤ 5 → formD j e = false) :
    okD (.tup [.str "record", .tup ((gs.map prG).set i (.tup [.str z, e]))]) = true ∧ ∀ j, j ≤ 5 → formD j (.tup [.str "record", .tup ((gs.map prG).set i (.tup [.str z, e]))]) = false := by
  refine ⟨two_ok (by decide +kernel) (set_bad ok hi oke (bad 0 (by decide))).1, fun j hj => ?_⟩
  cases j with
  | zero => exact form_zero _
  | succ j => exact (set_bad ok hi oke (bad j (by omega))).2
theorem list_bad {e : Dt} {i : Int} (bad : ∀ j, j ≤ 5 → formD j e = false) : ∀ j, j ≤ 5 → formD j (.tup [.str "list", e, .int i]) = false := fun j hj => by
  cases j with
  | zero => exact form_zero _
  | succ j =>
    show (formD j e && _) = false
    rw [bad j (by omega), Bool.false_and]
theorem rows_bad {z e : Dt} {i : Int} (bad : ∀ j, j ≤ 5 → formD j e = false) : ∀ j, j ≤ 5 → formD j (.tup [.str "rows", z, e, .int i]) = false := fun j hj => by
  cases j with
  | zero => exact form_zero _
  | succ j =>
    show (rowsD (formD j) z e && _) = false
    unfold rowsD
    rw [bad j (by omega), Bool.false_and, Bool.false_and]
theorem IsPs.put {K : PySem.W.Frag} {H : Hp} {d : Dt} {v : V} (h : IsP K H d v) : ∀ {l : List Dt} {xs : List V} (i : Nat), IsPs K H l xs → IsPs K H (l.set i d) (xs.set i v)
  | [], xs, i, hl => by cases hl; exact .nil
  | e :: l, xs, 0, hl => by
    cases hl with
    | cons h1 h2 => exact .cons h h2
  | e :: l, xs, i + 1, hl => by
    cases hl with
    | cons h1 h2 => exact .cons h1 (IsPs.put h i h2)
/-- a place within a list -/
theorem place {xs : List V} {d : Int} (h0 : 0 ≤ d) (h1 : d < (xs.length : Int)) : ∃ (i : Nat) (u : V), xs[i]? = some u ∧ atI xs d = some u ∧ ixN xs.length d = some i := by
  have hk : d.toNat < xs.length := by omega
  have ei : ixN xs.length d = some d.toNat := by
    unfold ixN
    rw [if_pos h0, if_pos (by omega)]
  refine ⟨d.toNat, xs[d.toNat], List.getElem?_eq_getElem hk, ?_, ei⟩
  unfold atI
  rw [ei]
  exact List.getElem?_eq_getElem hk
noncomputable def sspoilt (K : PySem.W.Frag) (n : Nat) : Sp := fun vs H Q _ => ∃ (r : Addr) (c : Int) (a m : Nat) (d o : Dt) (x y : V), a ≤ n ∧ vs = [x, .ref r, y] ∧ H r = some (.lst [.int c]) ∧ IsP K H d x ∧ FK a m d ∧ IsP K H o y ∧ okD o = true ∧ (∀ j, j ≤ 5 → formD j o = false) ∧
  ∀ v e c' H', But r H H' → H' r = some (.lst [.int c']) → IsP K H' e v → okD e = true → (∀ j, j ≤ 5 → formD j e = false) → Q v H'
theorem ok_law_spoilt (T : Tx K mg ad) {f : Addr} {fd : FuncData} (n : Nat) (D_law_spoilt : Gn K mg "_law_spoilt" s_law_spoilt ["kind", "row", "odd"] f fd) (G_law_spoilt : FnOk P w K mg base CX0 (n + 1) f fd ["kind", "row", "odd"] (sspoilt K n)) : FnOk P w K mg base CX0 (n + 1 + 1) f fd ["kind", "row", "odd"] (sspoilt K (n + 1)) := by
  obtain ⟨f_law_digit, fd_law_digit, D_law_digit⟩ := T.law_digit
  have G_law_digit := ok_law_digit (P := P) (w := w) (base := base) T D_law_digit
  refine D_law_spoilt.F.ok sc_law_spoilt (fun vs H Q E h => ?_) (fun cdv A outer s H vs Q E hr h => ?_)
  · obtain ⟨r, c, a, m, d, o, x, y, _, rfl, _⟩ := h
    rfl
  obtain ⟨r, c, a, m, d, o, x, y, ha, rfl, hr0, hd, fk, ho, oko, bad, q⟩ := h
  refine ⟨_, (@pss_cons _ _ _ _ _ (@ps_if _ _ _ _ _ _ _ _ (PW.pt (@pw_and _ _ _ _ _ _ _ (pt_cmpR op_eq (@pe_ix _ _ _ _ _ _ _ (ix_tupPN (K := K) rfl) (pv 0) pe_int (fun _ _ => rfl)) pe_str (nomark _)) (@pw_and1 _ _ _ _ (pt_cmpR op_eq (pe_call G_law_digit (hr.mono (by first | decide | omega)) rfl D_law_digit.m D_law_digit.F.kp D_law_digit.b .nil pass0 (@pa_cons _ _ _ _ _ (pv 1) (@pa_cons _ _ _ _ _ pe_int pa_nil (by rfl)) (by rfl))) pe_int (nomark _))))) (@pss_one _ _ _ (@ps_ret _ _ _ _ (@pe_tupPK _ K _ _ _ _ rfl (@pa_cons _ _ _ _ _ pe_str (@pa_cons _ _ _ _ _ (pe_call G_law_spoilt (hr.mono (by first | decide | omega)) rfl D_law_spoilt.m D_law_spoilt.F.kp D_law_spoilt.b .nil pass0 (@pa_cons _ _ _ _ _ (@pe_ix _ _ _ _ _ _ _ (ix_tupPN (K := K) rfl) (pv 0) pe_int (fun _ _ => rfl)) (@pa_cons _ _ _ _ _ (pv 1) (@pa_cons _ _ _ _ _ (pv 2) pa_nil (by rfl)) (by rfl)) (by rfl))) (@pa_cons _ _ _ _ _ (@pe_ix _ _ _ _ _ _ _ (ix_tupPN (K := K) rfl) (pv 0) pe_int (fun _ _ => rfl)) pa_nil (by rfl)) (by rfl)) (by rfl))))) pss_nil) (@pss_cons _ _ _ _ _ (@ps_if _ _ _ _ _ _ _ _ (PW.pt (@pw_and _ _ _ _ _ _ _ (pt_cmpR op_eq (@pe_ix _ _ _ _ _ _ _ (ix_tupPN (K := K) rfl) (pv 0) pe_int (fun _ _ => rfl)) pe_str (nomark _)) (@pw_and _ _ _ _ _ _ _ (pt_cmpR op_gt (pe_callB (call_lenDN (K := K) rfl) rfl T.z_len PySem.boot_len (@pa_cons _ _ _ _ _ (@pe_ix _ _ _ _ _ _ _ (ix_tupPN (K := K) rfl) (pv 0) pe_int (fun _ _ => rfl)) pa_nil (by rfl))) pe_int (nomark _)) (@pw_and1 _ _ _ _ (pt_cmpR op_gt (pe_call G_law_digit (hr.mono (by first | decide | omega)) rfl D_law_digit.m D_law_digit.F.kp D_law_digit.b .nil pass0 (@pa_cons _ _ _ _ _ (pv 1) (@pa_cons _ _ _ _ _ pe_int pa_nil (by rfl)) (by rfl))) pe_int (nomark _)))))) (@pss_cons _ _ _ _ _ (@ps_set _ _ 3 _ _ _ _ sc_law_spoilt.nd rfl (Or.inl rfl) (pe_callTy call_list_of rfl T.z_list boot_list (@pa_cons _ _ _ _ _ (@pe_ix _ _ _ _ _ _ _ (ix_tupPN (K := K) rfl) (pv 0) pe_int (fun _ _ => rfl)) pa_nil (by rfl))) (by rfl) (by first | exact .inl rfl | exact .inr rfl | assumption)) (@pss_cons _ _ _ _ _ (@ps_set _ _ 4 _ _ _ _ sc_law_spoilt.nd rfl (Or.inl rfl) (pe_call G_law_digit (hr.mono (by first | decide | omega)) rfl D_law_digit.m D_law_digit.F.kp D_law_digit.b .nil pass0 (@pa_cons _ _ _ _ _ (pv 1) (@pa_cons _ _ _ _ _ (pe_callB call_len_seq rfl T.z_len PySem.boot_len (@pa_cons _ _ _ _ _ (pv 3) pa_nil (by rfl))) pa_nil (by rfl)) (by rfl))) (by rfl) (by first | exact .inl rfl | exact .inr rfl | assumption)) (@pss_cons _ _ _ _ _ (ps_asg (@pe_tupPK _ K _ _ _ _ rfl (@pa_cons _ _ _ _ _ (@pe_ix _ _ _ _ _ _ _ (ix_tupPN (K := K) rfl) (@pe_ix _ _ _ _ _ _ _ (ix_listK (K := K) rfl) (pv 3) (pv 4) (fun _ _ => rfl)) pe_int (fun _ _ => rfl)) (@pa_cons _ _ _ _ _ (pe_call G_law_spoilt (hr.mono (by first | decide | omega)) rfl D_law_spoilt.m D_law_spoilt.F.kp D_law_spoilt.b .nil pass0 (@pa_cons _ _ _ _ _ (@pe_ix _ _ _ _ _ _ _ (ix_tupPN (K := K) rfl) (@pe_ix _ _ _ _ _ _ _ (ix_listK (K := K) rfl) (pv 3) (pv 4) (fun _ _ => rfl)) pe_int (fun _ _ => rfl)) (@pa_cons _ _ _ _ _ (pv 1) (@pa_cons _ _ _ _ _ (pv 2) pa_nil (by rfl)) (by rfl)) (by rfl))) pa_nil (by rfl)) (by rfl))) (pg_sub (pv 3) (pv 4) set_list)) (@pss_one _ _ _ (@ps_ret _ _ _ _ (@pe_tupPK _ K _ _ _ _ rfl (@pa_cons _ _ _ _ _ pe_str (@pa_cons _ _ _ _ _ (pe_callTy (call_tuplePN (K := K) rfl) rfl T.z_tuple boot_tuple (@pa_cons _ _ _ _ _ (pv 3) pa_nil (by rfl))) pa_nil (by rfl)) (by rfl)))))))) pss_nil) (@pss_cons _ _ _ _ _ (@ps_if _ _ _ _ _ _ _ _ (PW.pt (@pw_and _ _ _ _ _ _ _ (pt_cmpR op_eq (@pe_ix _ _ _ _ _ _ _ (ix_tupPN (K := K) rfl) (pv 0) pe_int (fun _ _ => rfl)) pe_str (nomark _)) (@pw_and1 _ _ _ _ (pt_cmpR op_gt (pe_call G_law_digit (hr.mono (by first | decide | omega)) rfl D_law_digit.m D_law_digit.F.kp D_law_digit.b .nil pass0 (@pa_cons _ _ _ _ _ (pv 1) (@pa_cons _ _ _ _ _ pe_int pa_nil (by rfl)) (by rfl))) pe_int (nomark _))))) (@pss_cons _ _ _ _ _ (@ps_set _ _ 3 _ _ _ _ sc_law_spoilt.nd rfl (Or.inl rfl) (pe_callTy call_list_of rfl T.z_list boot_list (@pa_cons _ _ _ _ _ (@pe_ix _ _ _ _ _ _ _ (ix_tupPN (K := K) rfl) (@pe_ix _ _ _ _ _ _ _ (ix_tupPN (K := K) rfl) (pv 0) pe_int (fun _ _ => rfl)) pe_int (fun _ _ => rfl)) pa_nil (by rfl))) (by rfl) (by first | exact .inl rfl | exact .inr rfl | assumption)) (@pss_cons _ _ _ _ _ (@ps_set _ _ 4 _ _ _ _ sc_law_spoilt.nd rfl (Or.inl rfl) (pe_call G_law_digit (hr.mono (by first | decide | omega)) rfl D_law_digit.m D_law_digit.F.kp D_law_digit.b .nil pass0 (@pa_cons _ _ _ _ _ (pv 1) (@pa_cons _ _ _ _ _ (pe_callB call_len_seq rfl T.z_len PySem.boot_len (@pa_cons _ _ _ _ _ (pv 3) pa_nil (by rfl))) pa_nil (by rfl)) (by rfl))) (by rfl) (by first | exact .inl rfl | exact .inr rfl | assumption)) (@pss_cons _ _ _ _ _ (ps_asg (@pe_tupPK _ K _ _ _ _ rfl (@pa_cons _ _ _ _ _ (@pe_ix _ _ _ _ _ _ _ (ix_tupPN (K := K) rfl) (@pe_ix _ _ _ _ _ _ _ (ix_listK (K := K) rfl) (pv 3) (pv 4) (fun _ _ => rfl)) pe_int (fun _ _ => rfl)) (@pa_cons _ _ _ _ _ (pe_call G_law_spoilt (hr.mono (by first | decide | omega)) rfl D_law_spoilt.m D_law_spoilt.F.kp D_law_spoilt.b .nil pass0 (@pa_cons _ _ _ _ _ (@pe_ix _ _ _ _ _ _ _ (ix_tupPN (K := K) rfl) (@pe_ix _ _ _ _ _ _ _ (ix_listK (K := K) rfl) (pv 3) (pv 4) (fun _ _ => rfl)) pe_int (fun _ _ => rfl)) (@pa_cons _ _ _ _ _ (pv 1) (@pa_cons _ _ _ _ _ (pv 2) pa_nil (by rfl)) (by rfl)) (by rfl))) pa_nil (by rfl)) (by rfl))) (pg_sub (pv 3) (pv 4) set_list)) (@pss_one _ _ _ (@ps_ret _ _ _ _ (@pe_tupPK _ K _ _ _ _ rfl (@pa_cons _ _ _ _ _ pe_str (@pa_cons _ _ _ _ _ (@pe_ix _ _ _ _ _ _ _ (ix_tupPN (K := K) rfl) (pv 0) pe_int (fun _ _ => rfl)) (@pa_cons _ _ _ _ _ (@pe_tupPK _ K _ _ _ _ rfl (@pa_cons _ _ _ _ _ pe_str (@pa_cons _ _ _ _ _ (pe_callTy (call_tuplePN (K := K) rfl) rfl T.z_tuple boot_tuple (@pa_cons _ _ _ _ _ (pv 3) pa_nil (by rfl))) pa_nil (by rfl)) (by rfl))) (@pa_cons _ _ _ _ _ (@pe_ix _ _ _ _ _ _ _ (ix_tupPN (K := K) rfl) (pv 0) pe_int (fun _ _ => rfl)) pa_nil (by rfl)) (by rfl)) (by rfl)) (by rfl)))))))) pss_nil) (@pss_one _ _ _ (@ps_ret _ _ _ _ (pv 2)))))), ?_⟩
  cases fk
  case list a1 c1 k i g h1 h2 =>
    refine sand_yes rfl hd ?_
    have ho1 := ho.but hr0 (But.put (o := .lst [.int (c / 2)]))
    have hd1 := hd.but hr0 (But.put (o := .lst [.int (c / 2)]))
    refine ⟨_, rfl, r, c, 2, rfl, hr0, by decide, by decide, rfl, _, rfl, ite2 (fun c1 => ?_) (fun c1 => ?_)⟩
    · refine ⟨_, rfl, _, _, _, hd1, rfl, rfl, fun vk hvk => ⟨_, rfl, _, rfl, r, c / 2, a1, _, k, o, vk, y, by omega, rfl, upd_same, hvk, g, ho1, oko, bad, fun v e c' H' b' r' hv oke bade => ?_⟩⟩
      refine ⟨_, rfl, _, _, _, hd1.but upd_same b', rfl, rfl, fun vi hvi => ?_⟩
      refine ⟨[.str "list", e, .int i], .cons .str (.cons hv (.cons hvi .nil)), (by show 3 ≤ sizeLine; decide), fun v5 H5 g5 hv5 => ?_⟩
      refine q v5 _ c' H5 ((But.put.trans b').trans (But.same g5)) (g5 _ _ r') hv5 ?_ (list_bad bade)
      show (okD (.str "list") && (okD e && (true && true))) = true
      rw [oke]
      decide +kernel
    · refine sand_no rfl hd1 (by decide) ?_
      refine sand_no rfl hd1 (by decide) ?_
      exact ⟨_, rfl, q y o (c / 2) _ But.put upd_same ho1 oko bad⟩
  case rcd gs g hs hnm hl =>
    have okg : okDs (gs.map prG) = true := by
      have : (okD (.str "record") && (okDs (gs.map prG) && true)) = true := fk_ok (FK.rcd g hs hnm hl)
      rw [Bool.and_eq_true, Bool.and_true] at this
      exact this.2
    refine sand_no rfl hd (by decide) ?_
    refine sand_yes rfl hd ?_
    refine ⟨_, rfl, _, _, _, hd, rfl, rfl, fun v1 hv1 => ⟨_, _, rfl, hv1.d, _, _, rfl, rfl, _, rfl, ite2 (fun c1 => ?_) (fun c1 => iteF ?_)⟩⟩
    · have lg : 0 < gs.length := by
        have : (0 : Int) < ((gs.map prG).length : Nat) := of_decide_eq_true c1
        rw [List.length_map] at this
        omega
      have ho1 := ho.but hr0 (But.put (o := .lst [.int (c / 4)]))
      have hd1 := hd.but hr0 (But.put (o := .lst [.int (c / 4)]))
      refine ⟨_, rfl, r, c, 4, rfl, hr0, by decide, by decide, _, _, rfl, rfl, _, rfl, ite2 (fun c2 => ?_) (fun c2 => ?_)⟩
      · refine ⟨_, rfl, _, _, _, hd1, rfl, rfl, fun v2 hv2 => ?_⟩
        obtain ⟨a2, xs, rfl, ha2, _, ra⟩ := id hv2.unref
        have lx := ra.length
        rw [List.length_map] at lx
        refine ⟨a2, xs, rfl, .inr ha2, fun pf hpf => ?_⟩
        have nrf : r ≠ pf := ne_of_none upd_same hpf
        have hpfH : H pf = none := by rw [upd_ne nrf.symm] at hpf; exact hpf
        have r2 : (upd (upd H r (.lst [.int (c / 4)])) pf (.lst xs)) r = some (.lst [.int (c / 4)]) := by rw [upd_ne nrf]; exact upd_same
        have ho2 := ho1.same (same_new hpf (.lst xs))
        have ra2 := ra.same (same_new hpf (.lst xs))
        have B2 : But r H (upd (upd H r (.lst [.int (c / 4)])) pf (.lst xs)) := But.put.trans (But.same (same_new hpf _))
        have f2 : (upd (upd H r (.lst [.int (c / 4)])) pf (.lst xs)) pf = some (.lst xs) := upd_same
        generalize upd (upd H r (.lst [.int (c / 4)])) pf (.lst xs) = H2 at *
        refine ⟨_, rfl, _, rfl, pf, xs, rfl, .inl (SqL.of f2), r, c / 4, _, rfl, r2, by omega, by omega, ?_⟩
        obtain ⟨k0, k1⟩ := mod_lt (c / 4) (m := ((xs.length : Nat) : Int)) (by omega)
        generalize c / 4 % ((xs.length : Nat) : Int) = at4 at *
        obtain ⟨i, u, hu, hat, hix⟩ := place k0 k1
        have B3 : But r H2 (upd H2 r (.lst [.int (c / 4 / ((xs.length : Nat) : Int))])) := But.put
        have r3 : (upd H2 r (.lst [.int (c / 4 / ((xs.length : Nat) : Int))])) r = some (.lst [.int (c / 4 / ((xs.length : Nat) : Int))]) := upd_same
        generalize upd H2 r (.lst [.int (c / 4 / ((xs.length : Nat) : Int))]) = H3 at *
        have f3 := B3 _ _ nrf.symm f2
        have ra3 := ra2.but r2 B3
        have ho3 := ho2.but r2 B3
        obtain ⟨d0, hd0, hu3⟩ := ra3.get' hu
        have hd0' := hd0
        rw [List.getElem?_map] at hd0
        obtain ⟨g0, hg0, rfl⟩ := Option.map_eq_some_iff.mp hd0
        have mem := List.mem_of_getElem? hg0
        have dl := le_max (List.mem_map.mpr ⟨g0, mem, rfl⟩ : g0.2.2.1 ∈ gs.map (·.2.2.1))
        refine ⟨_, rfl, _, rfl, pf, xs, at4, u, rfl, rfl, SqL.of f3, hat, _, _, _, hu3, rfl, rfl, fun vz hvz => ?_⟩
        obtain rfl := isStrV hvz
        refine ⟨_, rfl, _, rfl, pf, xs, at4, u, rfl, rfl, SqL.of f3, hat, _, _, _, hu3, rfl, rfl, fun vk hvk => ⟨_, rfl, _, rfl, r, _, g0.2.2.1, g0.2.2.2, g0.2.1, o, vk, y, by omega, rfl, r3, hvk, g g0 mem, ho3, oko, bad, fun v e c' H' b' r' hv oke bade => ?_⟩⟩
        refine ⟨[.str g0.1, e], .cons .str (.cons hv .nil), (by show 2 ≤ sizeLine; decide), fun v5 H5 g5 hv5 => ?_⟩
        have f5 := g5 _ _ (b' _ _ nrf.symm f3)
        refine ⟨_, rfl, _, rfl, pf, xs, at4, i, rfl, rfl, f5, hix, ?_⟩
        have hset := ((IsPs.put hv5 i ((ra3.but r3 b').same g5)).but f5 (But.put (o := .lst (xs.set i v5))))
        refine ⟨_, rfl, pf, _, _, rfl, SqL.of upd_same, hset, fun v6 H6 g6 hv6 => ?_⟩
        refine ⟨[.str "record", .tup _], .cons .str (.cons hv6 .nil), (by show 2 ≤ sizeLine; decide), fun v7 H7 g7 hv7 => ?_⟩
        obtain ⟨S1, S2⟩ := set_rec okg hd0' oke bade
        have Bx : But r H (upd H5 pf (.lst (xs.set i v5))) := but_upd ((((B2.trans B3).trans b').trans (But.same g5))) hpfH
        exact q v7 _ c' H7 ((Bx.trans (But.same g6)).trans (But.same g7)) (g7 _ _ (g6 _ _ (by rw [upd_ne nrf]; exact g5 _ _ r'))) hv7 S1 S2
      · refine sand_no rfl hd1 (by decide) ?_
        exact ⟨_, rfl, q y o (c / 4) _ But.put upd_same ho1 oko bad⟩
    · refine sand_no rfl hd (by decide) ?_
      exact ⟨_, rfl, q y o c _ (But.refl _ _) hr0 ho oko bad⟩
  case rows a1 c1 z l i0 g hz h1 h2 =>
    obtain ⟨gs, rfl, ea, _, gfk, _, _, hl⟩ := fk_rec g
    have okr := fk_ok g
    have okg : okDs (gs.map prG) = true := by
      have : (okD (.str "record") && (okDs (gs.map prG) && true)) = true := okr
      rw [Bool.and_eq_true, Bool.and_true] at this
      exact this.2
    obtain ⟨w1, l1, hm, _⟩ := hz
    have lg : 0 < gs.length := by
      have := List.length_pos_of_mem hm
      rwa [List.length_map] at this
    have okz : okD (.str z) = true := by
      have h2 : (okD (.str z) && okDs [.tup (.str w1 :: l1)]) = true := ok_mem okg _ hm
      rw [Bool.and_eq_true] at h2
      exact h2.1
    refine sand_no rfl hd (by decide) ?_
    refine sand_no rfl hd (by decide) ?_
    refine sand_yes rfl hd ?_
    have ho1 := ho.but hr0 (But.put (o := .lst [.int (c / 4)]))
    have hd1 := hd.but hr0 (But.put (o := .lst [.int (c / 4)]))
    refine ⟨_, rfl, r, c, 4, rfl, hr0, by decide, by decide, _, _, rfl, rfl, _, rfl, ite2 (fun c2 => ?_) (fun c2 => ?_)⟩
    · refine ⟨_, rfl, _, _, _, hd1, rfl, rfl, fun vr hvr => ⟨_, _, _, hvr, rfl, rfl, fun v2 hv2 => ?_⟩⟩
      obtain ⟨a2, xs, rfl, ha2, _, ra⟩ := id hv2.unref
      have lx := ra.length
      rw [List.length_map] at lx
      refine ⟨a2, xs, rfl, .inr ha2, fun pf hpf => ?_⟩
      have nrf : r ≠ pf := ne_of_none upd_same hpf
      have hpfH : H pf = none := by rw [upd_ne nrf.symm] at hpf; exact hpf
      have r2 : (upd (upd H r (.lst [.int (c / 4)])) pf (.lst xs)) r = some (.lst [.int (c / 4)]) := by rw [upd_ne nrf]; exact upd_same
      have ho2 := ho1.same (same_new hpf (.lst xs))
      have ra2 := ra.same (same_new hpf (.lst xs))
      have hd2 := hd1.same (same_new hpf (.lst xs))
      have B2 : But r H (upd (upd H r (.lst [.int (c / 4)])) pf (.lst xs)) := But.put.trans (But.same (same_new hpf _))
      have f2 : (upd (upd H r (.lst [.int (c / 4)])) pf (.lst xs)) pf = some (.lst xs) := upd_same
      generalize upd (upd H r (.lst [.int (c / 4)])) pf (.lst xs) = H2 at *
      refine ⟨_, rfl, _, rfl, pf, xs, rfl, .inl (SqL.of f2), r, c / 4, _, rfl, r2, by omega, by omega, ?_⟩
      obtain ⟨k0, k1⟩ := mod_lt (c / 4) (m := ((xs.length : Nat) : Int)) (by omega)
      generalize c / 4 % ((xs.length : Nat) : Int) = at4 at *
      obtain ⟨i, u, hu, hat, hix⟩ := place k0 k1
      have B3 : But r H2 (upd H2 r (.lst [.int (c / 4 / ((xs.length : Nat) : Int))])) := But.put
      have r3 : (upd H2 r (.lst [.int (c / 4 / ((xs.length : Nat) : Int))])) r = some (.lst [.int (c / 4 / ((xs.length : Nat) : Int))]) := upd_same
      generalize upd H2 r (.lst [.int (c / 4 / ((xs.length : Nat) : Int))]) = H3 at *
      have f3 := B3 _ _ nrf.symm f2
      have ra3 := ra2.but r2 B3
      have ho3 := ho2.but r2 B3
      have hd3 := hd2.but r2 B3
      obtain ⟨d0, hd0, hu3⟩ := ra3.get' hu
      have hd0' := hd0
      rw [List.getElem?_map] at hd0
      obtain ⟨g0, hg0, rfl⟩ := Option.map_eq_some_iff.mp hd0
      have mem := List.mem_of_getElem? hg0
      have dl := le_max (List.mem_map.mpr ⟨g0, mem, rfl⟩ : g0.2.2.1 ∈ gs.map (·.2.2.1))
      refine ⟨_, rfl, _, rfl, pf, xs, at4, u, rfl, rfl, SqL.of f3, hat, _, _, _, hu3, rfl, rfl, fun vz hvz => ?_⟩
      obtain rfl := isStrV hvz
      refine ⟨_, rfl, _, rfl, pf, xs, at4, u, rfl, rfl, SqL.of f3, hat, _, _, _, hu3, rfl, rfl, fun vk hvk => ⟨_, rfl, _, rfl, r, _, g0.2.2.1, g0.2.2.2, g0.2.1, o, vk, y, by omega, rfl, r3, hvk, gfk g0 mem, ho3, oko, bad, fun v e c' H' b' r' hv oke bade => ?_⟩⟩
      refine ⟨[.str g0.1, e], .cons .str (.cons hv .nil), (by show 2 ≤ sizeLine; decide), fun v5 H5 g5 hv5 => ?_⟩
      have f5 := g5 _ _ (b' _ _ nrf.symm f3)
      refine ⟨_, rfl, _, rfl, pf, xs, at4, i, rfl, rfl, f5, hix, ?_⟩
      have hset := ((IsPs.put hv5 i ((ra3.but r3 b').same g5)).but f5 (But.put (o := .lst (xs.set i v5))))
      have hdX := ((hd3.but r3 b').same g5).but f5 (But.put (o := .lst (xs.set i v5)))
      refine ⟨_, rfl, _, _, _, hdX, rfl, rfl, fun vz hvz => ?_⟩
      refine ⟨_, rfl, pf, _, _, rfl, SqL.of upd_same, hset, fun v6 H6 g6 hv6 => ?_⟩
      refine ⟨[.str "record", .tup _], .cons .str (.cons hv6 .nil), (by show 2 ≤ sizeLine; decide), fun v7 H7 g7 hv7 => ?_⟩
      refine ⟨_, rfl, _, _, _, (hdX.same g6).same g7, rfl, rfl, fun vi hvi => ?_⟩
      refine ⟨[.str "rows", .str z, _, .int i0], .cons .str (.cons ((hvz.same g6).same g7) (.cons hv7 (.cons hvi .nil))), (by show 4 ≤ sizeLine; decide), fun v8 H8 g8 hv8 => ?_⟩
      obtain ⟨S1, S2⟩ := set_rec okg hd0' oke bade
      have Bx : But r H (upd H5 pf (.lst (xs.set i v5))) := but_upd ((((B2.trans B3).trans b').trans (But.same g5))) hpfH
      refine q v8 _ c' H8 (((Bx.trans (But.same g6)).trans (But.same g7)).trans (But.same g8)) (g8 _ _ (g7 _ _ (g6 _ _ (by rw [upd_ne nrf]; exact g5 _ _ r')))) hv8 ?_ (rows_bad S2)
      show (okD (.str "rows") && (okD (.str z) && (okD _ && (true && true)))) = true
      rw [S1, okz]
      decide +kernel
    · exact ⟨_, rfl, q y o (c / 4) _ But.put upd_same ho1 oko bad⟩
  case text i h1 h2 =>
    refine sand_no rfl hd (by decide) ?_
    refine sand_no rfl hd (by decide) ?_
    refine sand_no rfl hd (by decide) ?_
    exact ⟨_, rfl, q y o c _ (But.refl _ _) hr0 ho oko bad⟩
  case choice ws h1 =>
    refine sand_no rfl hd (by decide) ?_
    refine sand_no rfl hd (by decide) ?_
    refine sand_no rfl hd (by decide) ?_
    exact ⟨_, rfl, q y o c _ (But.refl _ _) hr0 ho oko bad⟩
  case number i j h1 h12 h2 =>
    refine sand_no rfl hd (by decide) ?_
    refine sand_no rfl hd (by decide) ?_
    refine sand_no rfl hd (by decide) ?_
    exact ⟨_, rfl, q y o c _ (But.refl _ _) hr0 ho oko bad⟩
theorem spoilt_all (T : Tx K mg ad) {f : Addr} {fd : FuncData} (A : Gn K mg "_law_spoilt" s_law_spoilt ["kind", "row", "odd"] f fd) : ∀ n, FnOk P w K mg base CX0 (n + 1) f fd ["kind", "row", "odd"] (sspoilt K n)
  | 0 => fn_none fun vs H Q E z => by obtain ⟨_, _, _, _, _, _, _, _, h, _, _, _, pk, _⟩ := z; have := pk.pos; omega
  | n + 1 => ok_law_spoilt T n A (spoilt_all T A n)
theorem cut_take (xs : List V) (n : Nat) (h : n ≤ xs.length) : cutV xs none (some (n : Int)) = xs.take n := by
  unfold cutV
  have e1 : HT.sIx xs.length 0 none = 0 := rfl
  have e2 := HT.sIx_nat xs.length xs.length n
  rw [e1, e2, List.drop_zero]
  congr 1
  omega
/-- a pair for each name, with one kind -/
theorem pairs_comp {K : PySem.W.Frag} {pn l : Addr} {ss : List Str} {d : Dt} {v : V} {u : Option V} {R : Hp → Prop} {H1 : Hp} (hln : H1 l = none) (en : H1 pn = some (.lst (ss.map V.str))) (hv : IsP K H1 d v) (few : ss.length ≤ 8)
    (hd : ∀ ys H', Same H1 H' → H' l = some (.lst ys) → IsPs K H' (ss.map fun z => .tup [.str z, d]) ys → R H') :
    ∃ W : Nat → Nat → List V → L2.St → Hp → Prop, (∃ m, W 0 m [] [u, some v] (upd H1 l (.lst []))) ∧ ∀ i m ys σ' H', W i m ys σ' H' → ((Itl K pn).stop i H' ∧ R H') ∨
      ((Itl K pn).go i H' ∧ ∀ x H'', (Itl K pn).yld i H' x H'' → gName 0 x σ' H'' fun σ2 H2 => cEl (tTupP K (tCons (tVar 0) (tCons (tVar 1) tNil))) ys l σ2 H2 fun ys' σ3 H3 => ∃ m', m' < m ∧ W (i + 1) m' ys' σ3 H3) := by
  refine comp_listR (K := K) (xs := ss.map V.str) (fun i ys σ H' => ∃ u, σ = [u, some v] ∧ Same H1 H' ∧ H' l = some (.lst ys) ∧ IsPs K H' ((ss.take i).map fun z => .tup [.str z, d]) ys) ⟨u, rfl, same_new hln _, upd_same, .nil⟩ (fun i ys σ H' _ r => by obtain ⟨_, _, g, _⟩ := r; exact SqL.of (g _ _ en)) ?_ ?_
  · rintro i x ys σ H2 N hx ⟨u, rfl, g2, e2, hys⟩ next
    rw [List.getElem?_map] at hx
    obtain ⟨z, hz, rfl⟩ := Option.map_eq_some_iff.mp hx
    have ly := hys.length
    rw [List.length_map, List.length_take] at ly
    refine ⟨_, rfl, _, rfl, [.str z, d], .cons .str (.cons (hv.same g2) .nil), (by show 2 ≤ sizeLine; decide), fun v5 H5 g5 hv5 => ⟨g5 _ _ e2, small1000 (by omega), next _ _ _ ⟨_, rfl, same_upd hln (g2.trans g5), upd_same, ?_⟩⟩⟩
    rw [← take_next (fun z : Str => Dt.tup [.str z, d]) hz]
    exact ((hys.same g5).append (.cons hv5 .nil)).but (g5 _ _ e2) But.put
  · rintro ys σ H2 ⟨_, _, g2, e2, hys⟩
    rw [List.length_map, List.take_length] at hys
    exact hd ys H2 g2 e2 hys
theorem Nam.take {m k : Nat} {ss : List Str} (n : Nam m ss) (h : k ≤ m) : Nam k (ss.take k) :=
  ⟨by rw [List.length_take, n.len]; omega, n.asc.sublist (List.take_sublist k ss), fun z hz => n.ok z (List.mem_of_mem_take hz)⟩
theorem one_names (d : Dt) (a c : Nat) (ss : List Str) : (ss.map fun z => ((z, d, a, c) : G4)).map (·.1) = ss := by
  induction ss with
  | nil => rfl
  | cons z r ih => simp only [List.map_cons, ih]
theorem one_sum (d : Dt) (a c : Nat) (ss : List Str) : sumN ((ss.map fun z => ((z, d, a, c) : G4)).map (·.2.2.2)) = ss.length * c := by
  induction ss with
  | nil => simp [sumN]
  | cons z r ih => simp only [List.map_cons, sumN, ih, List.length_cons, Nat.succ_mul]; omega
theorem one_pr (d : Dt) (a c : Nat) (ss : List Str) : (ss.map fun z => ((z, d, a, c) : G4)).map prG = ss.map fun z => .tup [.str z, d] := by rw [List.map_map]; rfl
/-- a record kind of names with one kind -/
theorem FK.of_names {ss : List Str} {m a c : Nat} {d : Dt} (nam : Nam m ss) (h8 : m ≤ 8) (f : FK a c d) : ∃ a', a' ≤ a + 1 ∧ FK a' (m * c + 1) (.tup [.str "record", .tup (ss.map fun z => .tup [.str z, d])]) := by
  obtain ⟨F1, F2⟩ := rec_fk (D := a) nam h8 (one_names d a c ss) (fun g hg => by obtain ⟨z, _, rfl⟩ := List.mem_map.mp hg; exact f) (fun g hg => by obtain ⟨z, _, rfl⟩ := List.mem_map.mp hg; exact Nat.le_refl _)
  rw [one_sum, nam.len, one_pr] at F1
  exact ⟨_, F2, F1⟩
theorem cut_mid (xs : List V) (m n : Nat) (h : n ≤ xs.length) (hm : m ≤ n) : cutV xs (some (m : Int)) (some (n : Int)) = (xs.drop m).take (n - m) := by
  unfold cutV
  rw [HT.sIx_nat, HT.sIx_nat, Nat.min_eq_left h, Nat.min_eq_left (Nat.le_trans hm h)]
theorem sum_app : ∀ l m : List Nat, sumN (l ++ m) = sumN l + sumN m
  | [], m => by show sumN m = 0 + sumN m; omega
  | n :: l, m => by
    show n + sumN (l ++ m) = n + sumN l + sumN m
    rw [sum_app l m]
    omega
theorem FK.of_two {ss tt : List Str} {m a c b e : Nat} {d d' : Dt} (nam : Nam m (ss ++ tt)) (h8 : m ≤ 8) (f : FK a c d) (f' : FK b e d') (ha : a ≤ 3) (hb : b ≤ 3) :
    ∃ a', a' ≤ 4 ∧ FK a' (ss.length * c + tt.length * e + 1) (.tup [.str "record", .tup ((ss.map fun z => .tup [.str z, d]) ++ (tt.map fun z => .tup [.str z, d']))]) := by
  obtain ⟨F1, F2⟩ := rec_fk (D := 3) (gs := (ss.map fun z => ((z, d, a, c) : G4)) ++ (tt.map fun z => ((z, d', b, e) : G4))) nam h8 (by rw [List.map_append, one_names, one_names]) (fun g hg => by
    rcases List.mem_append.mp hg with h | h
    · obtain ⟨z, _, rfl⟩ := List.mem_map.mp h
      exact f
    · obtain ⟨z, _, rfl⟩ := List.mem_map.mp h
      exact f') (fun g hg => by
    rcases List.mem_append.mp hg with h | h
    · obtain ⟨z, _, rfl⟩ := List.mem_map.mp h
      exact ha
    · obtain ⟨z, _, rfl⟩ := List.mem_map.mp h
      exact hb)
  have s1 : sumN (((ss.map fun z => ((z, d, a, c) : G4)) ++ (tt.map fun z => ((z, d', b, e) : G4))).map (fun g : G4 => g.2.2.2)) = ss.length * c + tt.length * e := by rw [List.map_append, sum_app, one_sum, one_sum]
  have s2 : ((ss.map fun z => ((z, d, a, c) : G4)) ++ (tt.map fun z => ((z, d', b, e) : G4))).map prG = (ss.map fun z => .tup [.str z, d]) ++ (tt.map fun z => .tup [.str z, d']) := by rw [List.map_append, one_pr, one_pr]
  rw [s1, s2] at F1
  exact ⟨_, F2, F1⟩
theorem FK.one {a c : Nat} {d : Dt} (f : FK a c d) : FK (a + 1) (c + 1) (.tup [.str "record", .tup [.tup [.str "a", d]]]) := by
  have g := FK.rcd (gs := [("a", d, a, c)]) (fun g hg => by rw [List.mem_singleton.mp hg]; exact f) (List.pairwise_singleton _ _) (fun g hg => by rw [List.mem_singleton.mp hg]; exact (by decide +kernel : nameB "a" = true ∧ ("a" : Str) ≠ "noneone")) (by show 1 ≤ 8; decide)
  have e1 : maxN [a] = a := Nat.max_zero a
  have e2 : sumN [c] = c := rfl
  have g' : FK (maxN [a] + 1) (sumN [c] + 1) (.tup [.str "record", .tup [.tup [.str "a", d]]]) := g
  rw [e1, e2] at g'
  exact g'
noncomputable def GenB (K : PySem.W.Frag) (r : Addr) (H : Hp) (Q : VK) : Prop := ∀ p x y d e (n' : Int) H', But r H H' → H p = none → H' r = some (.lst [.int n']) → H' p = some (.lst [x, y]) → IsP K H' d x → IsP K H' e y → Bad d → Bad e → Q (.ref p) H'
noncomputable def sp_law_great (K : PySem.W.Frag) (_ : Ads) : Sp := fun vs H Q _ => ∃ (r : Addr) (c : Int), vs = [.ref r] ∧ H r = some (.lst [.int c]) ∧ GenB K r H Q
theorem ok_law_great (T : Tx K mg ad) {f : Addr} {fd : FuncData} (F : Gn K mg "_law_great" s_law_great ["row"] f fd) : FnOk P w K mg base CX0 4 f fd ["row"] (sp_law_great K ad) := by
  obtain ⟨f_law_leaf_kind, fd_law_leaf_kind, D_law_leaf_kind⟩ := T.law_leaf_kind
  have G_law_leaf_kind := ok_law_leaf_kind (P := P) (w := w) (base := base) T D_law_leaf_kind
  obtain ⟨f_law_digit, fd_law_digit, D_law_digit⟩ := T.law_digit
  have G_law_digit := ok_law_digit (P := P) (w := w) (base := base) T D_law_digit
  obtain ⟨f_law_names, fd_law_names, D_law_names⟩ := T.law_names
  have G_law_names := ok_law_names (P := P) (w := w) (base := base) T D_law_names
  refine F.F.ok sc_law_great (fun vs H Q E h => ?_) (fun cdv A outer s H vs Q E hr h => ?_)
  · obtain ⟨r, c, rfl, _⟩ := h
    rfl
  obtain ⟨r, c, rfl, hr0, q⟩ := h
  refine ⟨_, (@pss_cons _ _ _ _ _ (@ps_set _ _ 1 _ _ _ _ sc_law_great.nd rfl (Or.inr rfl) (pe_call G_law_leaf_kind (hr.mono (by first | decide | omega)) rfl D_law_leaf_kind.m D_law_leaf_kind.F.kp D_law_leaf_kind.b .nil pass0 (@pa_cons _ _ _ _ _ (pv 0) pa_nil (by rfl))) (by rfl) (by first | exact .inl rfl | exact .inr rfl | assumption)) (@pss_cons _ _ _ _ _ (@ps_set _ _ 2 _ _ _ _ sc_law_great.nd rfl (Or.inl rfl) (pv 1) (by rfl) (by first | exact .inl rfl | exact .inr rfl | assumption)) (@pss_cons _ _ _ _ _ (ps_for PassesOwn.never rfl (pi_range1 rfl T.z_range (@pa_cons _ _ _ _ _ pe_int pa_nil (by rfl))) (pg_name (i := 3) sc_law_great.nd rfl (Or.inl rfl))
        (@pss_one _ _ _ (@ps_set _ _ 2 _ _ _ _ sc_law_great.nd rfl (Or.inl rfl) (@pe_ix _ _ _ _ _ _ _ (ix_listK (K := K) rfl) (@pe_lst _ _ _ _ (@pa_cons _ _ _ _ _ (@pe_tupPK _ K _ _ _ _ rfl (@pa_cons _ _ _ _ _ pe_str (@pa_cons _ _ _ _ _ (pv 2) (@pa_cons _ _ _ _ _ pe_int pa_nil (by rfl)) (by rfl)) (by rfl))) (@pa_cons _ _ _ _ _ (@pe_tupPK _ K _ _ _ _ rfl (@pa_cons _ _ _ _ _ pe_str (@pa_cons _ _ _ _ _ (@pe_tupPK _ K _ _ _ _ rfl (@pa_cons _ _ _ _ _ (@pe_tupPK _ K _ _ _ _ rfl (@pa_cons _ _ _ _ _ pe_str (@pa_cons _ _ _ _ _ (pv 2) pa_nil (by rfl)) (by rfl))) pa_nil (by rfl))) pa_nil (by rfl)) (by rfl))) pa_nil (by rfl)) (by rfl))) (pe_call G_law_digit (hr.mono (by first | decide | omega)) rfl D_law_digit.m D_law_digit.F.kp D_law_digit.b .nil pass0 (@pa_cons _ _ _ _ _ (pv 0) (@pa_cons _ _ _ _ _ pe_int pa_nil (by rfl)) (by rfl))) (fun _ _ => rfl)) (by rfl) (by first | exact .inl rfl | exact .inr rfl | assumption)))) (@pss_cons _ _ _ _ _ (@ps_set _ _ 4 _ _ _ _ sc_law_great.nd rfl (Or.inl rfl) (pe_call G_law_names (hr.mono (by first | decide | omega)) rfl D_law_names.m D_law_names.F.kp D_law_names.b .nil pass0 (@pa_cons _ _ _ _ _ (pv 0) (@pa_cons _ _ _ _ _ pe_int pa_nil (by rfl)) (by rfl))) (by rfl) (by first | exact .inl rfl | exact .inr rfl | assumption)) (@pss_cons _ _ _ _ _ (@ps_set _ _ 5 _ _ _ _ sc_law_great.nd rfl (Or.inr rfl) (@pe_tupPK _ K _ _ _ _ rfl (@pa_cons _ _ _ _ _ pe_str (@pa_cons _ _ _ _ _ (pe_callTy (call_tuplePN (K := K) rfl) rfl T.z_tuple boot_tuple (@pa_cons _ _ _ _ _ (pe_comp rfl (csR (sc := defScope s_law_great) (NL := ["name"]) (N := ["row", "leaf", "deep", "k", "names", "inner", "fields"]) (ρ := [1]) (N' := ["name", "leaf"]) rfl rfl rfl (by decide +kernel) (by decide +kernel) (by decide +kernel) rfl (by decide +kernel)) (pi_listN (K := K) rfl (pv 4)) (fun _ _ _ _ => (pg_name (i := 0) (show List.Nodup (α := Str) ["name", "leaf"] by decide +kernel) rfl (Or.inl rfl))) (fun _ _ _ _ => (pe_tupPK (K := K) rfl (@pa_cons _ _ _ _ _ (pv 0) (@pa_cons _ _ _ _ _ (pv 1) pa_nil (by rfl)) (by rfl))))) pa_nil (by rfl))) pa_nil (by rfl)) (by rfl))) (by rfl) (by first | exact .inl rfl | exact .inr rfl | assumption)) (@pss_cons _ _ _ _ _ (@ps_set _ _ 6 _ _ _ _ sc_law_great.nd rfl (Or.inl rfl) (@pe_op _ _ _ _ _ _ _ _ op_cat (pe_comp rfl (csR (sc := defScope s_law_great) (NL := ["name"]) (N := ["row", "leaf", "deep", "k", "names", "inner", "fields"]) (ρ := [5]) (N' := ["name", "inner"]) rfl rfl rfl (by decide +kernel) (by decide +kernel) (by decide +kernel) rfl (by decide +kernel)) (pi_listN (K := K) rfl (pe_slice sl_list (pv 4) po_none (po_some pe_int))) (fun _ _ _ _ => (pg_name (i := 0) (show List.Nodup (α := Str) ["name", "inner"] by decide +kernel) rfl (Or.inl rfl))) (fun _ _ _ _ => (pe_tupPK (K := K) rfl (@pa_cons _ _ _ _ _ (pv 0) (@pa_cons _ _ _ _ _ (pv 1) pa_nil (by rfl)) (by rfl))))) (pe_comp rfl (csR (sc := defScope s_law_great) (NL := ["name"]) (N := ["row", "leaf", "deep", "k", "names", "inner", "fields"]) (ρ := [1]) (N' := ["name", "leaf"]) rfl rfl rfl (by decide +kernel) (by decide +kernel) (by decide +kernel) rfl (by decide +kernel)) (pi_listN (K := K) rfl (pe_slice sl_list (pv 4) (po_some pe_int) (po_some pe_int))) (fun _ _ _ _ => (pg_name (i := 0) (show List.Nodup (α := Str) ["name", "leaf"] by decide +kernel) rfl (Or.inl rfl))) (fun _ _ _ _ => (pe_tupPK (K := K) rfl (@pa_cons _ _ _ _ _ (pv 0) (@pa_cons _ _ _ _ _ (pv 1) pa_nil (by rfl)) (by rfl)))))) (by rfl) (by first | exact .inl rfl | exact .inr rfl | assumption)) (@pss_one _ _ _ (@ps_ret _ _ _ _ (@pe_lst _ _ _ _ (@pa_cons _ _ _ _ _ (pv 2) (@pa_cons _ _ _ _ _ (@pe_tupPK _ K _ _ _ _ rfl (@pa_cons _ _ _ _ _ pe_str (@pa_cons _ _ _ _ _ (@pe_tupPK _ K _ _ _ _ rfl (@pa_cons _ _ _ _ _ pe_str (@pa_cons _ _ _ _ _ (pe_callTy (call_tuplePN (K := K) rfl) rfl T.z_tuple boot_tuple (@pa_cons _ _ _ _ _ (pv 6) pa_nil (by rfl))) pa_nil (by rfl)) (by rfl))) (@pa_cons _ _ _ _ _ pe_int pa_nil (by rfl)) (by rfl)) (by rfl))) pa_nil (by rfl)) (by rfl))))))))))), ?_⟩
  refine ⟨_, rfl, r, c, rfl, hr0, fun v1 d n1 H1 b1 r1 hv1 fk1 => ?_⟩
  refine ⟨_, rfl, ?_⟩
  have two : ∀ {α : Type} (a b : α), [a, b].length ≤ sizeLine := fun a b => by show 2 ≤ sizeLine; decide
  refine ⟨5, rfl, by decide, by decide, for_range (lo := 0) (n := (5 : Int).toNat) (fun i σ H' => ∃ vd dd cd n' v3, But r H1 H' ∧ H' r = some (.lst [.int n']) ∧ IsP K H' dd vd ∧ FK (i + 1) cd dd ∧ σ = [some (.ref r), some v1, some vd, v3, none, none, none])
    ⟨v1, d, 1, n1, none, But.refl _ _, r1, hv1, fk1, rfl⟩ ?_ ?_⟩
  · rintro i σ H2 hi ⟨vd, dd, cd, n2, v3, b2, r2, hvd, fkd, rfl⟩
    refine ⟨_, rfl, [.str "list", dd, .int 3], .cons .str (.cons hvd (.cons .int .nil)), (by show 3 ≤ sizeLine; decide), fun va Ha ga hva => ?_⟩
    refine ⟨_, rfl, [.str "a", dd], .cons .str (.cons (hvd.same ga) .nil), two _ _, fun vb Hb gb hvb => ?_⟩
    refine ⟨[_], .cons hvb .nil, (by show 1 ≤ sizeLine; decide), fun vc Hc gc hvc => ?_⟩
    refine ⟨[.str "record", _], .cons .str (.cons hvc .nil), two _ _, fun ve He ge hve => ?_⟩
    refine ⟨two _ _, fun p hp => ?_⟩
    have S : Same H2 He := ((ga.trans gb).trans gc).trans ge
    have gp := same_new hp (.lst [va, ve])
    have rp := gp _ _ (S _ _ r2)
    have np : r ≠ p := ne_of_none (S _ _ r2) hp
    have hva' := ((((hva.same gb).same gc).same ge).same gp).but rp (But.put (o := .lst [.int (n2 / 2)]))
    have hve' := (hve.same gp).but rp (But.put (o := .lst [.int (n2 / 2)]))
    refine ⟨_, rfl, r, n2, 2, rfl, rp, by decide, by decide, ?_⟩
    obtain ⟨k0, k1⟩ := mod_lt n2 (m := 2) (by decide)
    obtain ⟨u, hu, hat⟩ := pick (xs := [va, ve]) k0 k1
    have B : But r H1 (upd (upd He p (.lst [va, ve])) r (.lst [.int (n2 / 2)])) := ((b2.trans (But.same S)).trans (But.same gp)).trans But.put
    refine ⟨p, _, _, _, rfl, rfl, SqL.of (by rw [upd_ne np.symm]; exact upd_same), hat, ?_⟩
    rcases List.mem_cons.mp hu with rfl | hu
    · exact ⟨_, _, _, _, _, B, upd_same, hva', .list fkd (by decide) (by decide), rfl⟩
    · obtain rfl := List.mem_singleton.mp hu
      exact ⟨_, _, _, _, _, B, upd_same, hve', fkd.one, rfl⟩
  · rintro σ H2 ⟨vd, dd, cd, n2, v3, b2, r2, hvd, fkd, rfl⟩
    refine ⟨_, rfl, r, n2, 8, rfl, r2, by decide, fun pn ss c3 H3 b3 hpn r3 n3 nam => ?_⟩
    have hv3 := (hv1.but r1 b2).but r2 b3
    have hvd3 := hvd.but r2 b3
    have lss := nam.len
    refine ⟨_, rfl, pn, rfl, ⟨_, SqL.of n3⟩, fun l hln => ?_⟩
    refine pairs_comp hln n3 hv3 (by omega) fun ys H4 g4 e4 hys => ?_
    obtain ⟨ai, hai, fki⟩ := FK.of_names nam (by decide) fk1
    refine ⟨l, ys, _, rfl, SqL.of e4, hys, fun v4 H5 g5 hv4 => ?_⟩
    refine ⟨[.str "record", .tup _], .cons .str (.cons hv4 .nil), two _ _, fun v5 H6 g6 hv5 => ?_⟩
    have S6 : Same H3 H6 := (g4.trans g5).trans g6
    have cut4 : cutV (ss.map V.str) none (some 4) = (ss.take 4).map V.str := by rw [show (4 : Int) = ((4 : Nat) : Int) from rfl, cut_take _ _ (by rw [List.length_map]; omega), List.map_take]
    have cut47 : cutV (ss.map V.str) (some 4) (some 7) = ((ss.drop 4).take 3).map V.str := by rw [show (4 : Int) = ((4 : Nat) : Int) from rfl, show (7 : Int) = ((7 : Nat) : Int) from rfl, cut_mid _ _ _ (by rw [List.length_map]; omega) (by decide), List.map_take, List.map_drop]
    refine ⟨_, rfl, _, rfl, pn, _, rfl, SqL.of (S6 _ _ n3), fun p7 hp7 => ?_⟩
    rw [cut4]
    have g7 := same_new hp7 (.lst ((ss.take 4).map V.str))
    refine ⟨p7, rfl, ⟨_, SqL.of upd_same⟩, fun l8 hl8 => ?_⟩
    refine pairs_comp hl8 upd_same (hv5.same g7) (by rw [List.length_take]; omega) fun ys8 H8 g8 e8 hys8 => ?_
    have S8 : Same H3 H8 := (S6.trans g7).trans g8
    refine ⟨_, rfl, _, rfl, _, rfl, pn, _, rfl, SqL.of (S8 _ _ n3), fun p9 hp9 => ?_⟩
    rw [cut47]
    have g9 := same_new hp9 (.lst (((ss.drop 4).take 3).map V.str))
    refine ⟨p9, rfl, ⟨_, SqL.of upd_same⟩, fun l10 hl10 => ?_⟩
    refine pairs_comp hl10 upd_same ((hv3.same S8).same g9) (by rw [List.length_take]; omega) fun ys10 H10 g10 e10 hys10 => ?_
    have ly8 := hys8.length
    have ly10 := hys10.length
    rw [List.length_map, List.length_take] at ly8 ly10
    refine ⟨l8, l10, ys8, ys10, rfl, rfl, g10 _ _ (g9 _ _ e8), e10, small (by omega), fun p11 hp11 => ?_⟩
    have g11 := same_new hp11 (.lst (ys8 ++ ys10))
    have happ := ((hys8.same g9).same g10).append hys10
    refine ⟨_, rfl, _, rfl, p11, _, _, rfl, SqL.of upd_same, happ.same g11, fun v12 H12 g12 hv12 => ?_⟩
    refine ⟨[.str "record", .tup _], .cons .str (.cons hv12 .nil), two _ _, fun v13 H13 g13 hv13 => ?_⟩
    refine ⟨[.str "list", _, .int 2], .cons .str (.cons hv13 (.cons .int .nil)), (by show 3 ≤ sizeLine; decide), fun v14 H14 g14 hv14 => ?_⟩
    refine ⟨two _ _, fun p15 hp15 => ?_⟩
    have g15 := same_new hp15 (.lst [vd, v14])
    have S14 : Same H3 H14 := ((((((S8.trans g9).trans g10).trans g11).trans g12).trans g13).trans g14)
    have B14 : But r H H14 := ((b1.trans b2).trans b3).trans (But.same S14)
    have r14 := S14 _ _ r3
    have np : r ≠ p15 := ne_of_none r14 hp15
    have hfree : H p15 = none := by
      cases e : H p15 with
      | none => rfl
      | some o => rw [B14 _ _ np.symm e] at hp15; cases hp15
    have nam7 : Nam 7 (ss.take 4 ++ (ss.drop 4).take 3) := by
      have := nam.take (k := 7) (by decide)
      have e : ss.take 7 = ss.take 4 ++ (ss.drop 4).take 3 := by rw [show (7 : Nat) = 4 + 3 from rfl, List.take_add]
      rw [e] at this
      exact this
    obtain ⟨af, haf, fkf⟩ := FK.of_two nam7 (by decide) fki fk1 (by omega) (by decide)
    rw [List.length_take, List.length_take, List.length_drop, lss] at fkf
    have fk41 := FK.list (i := 2) fkf (by decide) (by decide)
    refine q p15 vd v14 dd _ c3 _ (B14.trans (But.same g15)) hfree (g15 _ _ r14) upd_same ((hvd3.same S14).same g15) (hv14.same g15) ⟨fk_ok fkd, .inl ?_⟩ ⟨fk_ok fk41, .inr ⟨_, _, fk41, by omega, by decide⟩⟩
    rw [fk_form fkd]
    decide
theorem seq_name {a b : TS} {D : Ends} {σ : L2.St} {H : Hp} (h : ∀ k : L2.St → Hp → Prop, (∀ σ H, b D σ H → k σ H) → a { D with nx := k } σ H) : tSeq a b D σ H := h _ fun _ _ h => h
/-- the signs of a text -/
noncomputable def sgn (z : Str) : List Str := z.cps.toList.map fun c => ⟨#[c]⟩
theorem sgn_next {β : Type} {z : Str} {i c : Nat} (f : Str → β) (h : z.cps[i]? = some c) : ((sgn z).take i).map f ++ [f ⟨#[c]⟩] = ((sgn z).take (i + 1)).map f := by
  refine take_next f ?_
  unfold sgn
  rw [List.getElem?_map, Array.getElem?_toList, h]
  rfl
theorem sgn_len (z : Str) : (sgn z).length = z.cps.size := by unfold sgn; rw [List.length_map, Array.length_toList]
theorem pairs_sgn {K : PySem.W.Frag} {l : Addr} {z : Str} {d : Dt} {v : V} {u : Option V} {R : Hp → Prop} {H1 : Hp} (hln : H1 l = none) (few : z.cps.size ≤ 9) (hv : IsP K H1 d v)
    (hd : ∀ ys H', Same H1 H' → H' l = some (.lst ys) → IsPs K H' ((sgn z).map fun s => .tup [.str s, d]) ys → R H') :
    ∃ W : Nat → Nat → List V → L2.St → Hp → Prop, (∃ m, W 0 m [] [u, some v] (upd H1 l (.lst []))) ∧ ∀ i m ys σ' H', W i m ys σ' H' → ((Its z).stop i H' ∧ R H') ∨
      ((Its z).go i H' ∧ ∀ x H'', (Its z).yld i H' x H'' → gName 0 x σ' H'' fun σ2 H2 => cEl (tTupP K (tCons (tVar 0) (tCons (tVar 1) tNil))) ys l σ2 H2 fun ys' σ3 H3 => ∃ m', m' < m ∧ W (i + 1) m' ys' σ3 H3) := by
  refine comp_strR (fun i ys σ H' => (∃ u, σ = [u, some v]) ∧ Same H1 H' ∧ H' l = some (.lst ys) ∧ IsPs K H' (((sgn z).take i).map fun s => .tup [.str s, d]) ys) ⟨⟨u, rfl⟩, same_new hln _, upd_same, .nil⟩ ?_ ?_
  · rintro i c ys σ H2 N hc ⟨⟨u, rfl⟩, g2, e2, hys⟩ next
    have li : i < z.cps.size := (Array.getElem?_eq_some_iff.mp hc).1
    have ly := hys.length
    rw [List.length_map, List.length_take] at ly
    refine ⟨_, rfl, _, rfl, [.str ⟨#[c]⟩, d], .cons .str (.cons (hv.same g2) .nil), (by show 2 ≤ sizeLine; decide), fun v5 H5 g5 hv5 => ⟨g5 _ _ e2, small1000 (by omega), next _ _ _ ⟨⟨_, rfl⟩, same_upd hln (g2.trans g5), upd_same, ?_⟩⟩⟩
    rw [← sgn_next (fun s => Dt.tup [.str s, d]) hc]
    exact ((hys.same g5).append (.cons hv5 .nil)).but (g5 _ _ e2) But.put
  · rintro ys σ H2 ⟨_, g2, e2, hys⟩
    rw [← sgn_len, List.take_length] at hys
    exact hd ys H2 g2 e2 hys
noncomputable def t3 : Dt := .tup [.str "text", .int 3]
noncomputable def signD (z : Str) : Dt := .tup (z.cps.toList.map fun c => .str ⟨#[c]⟩)
noncomputable def ownD : Dt := .tup [.str "record", .tup [.tup [.str "a", t3], .tup [.str "b", .tup [.str "choice", .tup [.str "x"]]], .tup [.str "c", .tup [.str "list", t3, .int 2]]]]
noncomputable def oddL1 : List Dt := [.tup [.str "number", .int 1, .int 0], .tup [.str "number", .int ((-((10 : Int) ^ (30 : Int).toNat)) - (1 : Int)), .int 0], .tup [.str "number", .int 0, .int (((10 : Int) ^ (30 : Int).toNat) + (1 : Int))], .tup [.str "number", .int 0]]
noncomputable def oddL2 : List Dt := oddL1 ++ [.tup [.str "number", .int 0, .int 1, .int 2]]
noncomputable def oddL3 : List Dt := oddL2 ++ [.tup [.str "number", .str "0", .int 1], .tup [.str "number", .int 0, t3], .tup [.str "text", .int 61], .tup [.str "text", .int (-1)], .tup [.str "text"]]
noncomputable def oddL4 : List Dt := oddL3 ++ [.tup [.str "text", .int 3, .int 3], .tup [.str "text", .str "3"]]
noncomputable def oddL5 : List Dt := oddL4 ++ [.tup [.str "choice", .tup []], .tup [.str "choice", .tup [.str "a", .str "a"]], .tup [.str "choice", .tup [.str "each"]], .tup [.str "choice", .tup [.str "a", .str "B"]], .tup [.str "choice"]]
noncomputable def oddL6 : List Dt := oddL5 ++ [.tup [.str "choice", .tup [.str "a", .str ""]], .tup [.str "choice", signD "abcdefghi"], .tup [.str "choice", .str "ab"], .tup [.str "choice", .tup [.str "a", .int 1]]]
noncomputable def oddL7 : List Dt := oddL6 ++ [.tup [.str "list", t3], .tup [.str "list", t3, .int 9], .tup [.str "list", t3, .int (-1)], .tup [.str "list", .int 3, t3], .tup [.str "list", .tup [.str "text", .int 61], .int 3]]
noncomputable def oddL8 : List Dt := oddL7 ++ [.tup [.str "list", t3, t3]]
noncomputable def oddL9 : List Dt := oddL8 ++ [.tup [.str "record", .tup [.tup [.str "b", t3], .tup [.str "a", t3]]], .tup [.str "record", .tup [.tup [.str "a", t3], .tup [.str "a", t3]]], .tup [.str "record", .tup [.tup [.str "a", t3, t3]]]]
noncomputable def oddL10 : List Dt := oddL9 ++ [.tup [.str "record", .tup [.tup [.str "each", t3]]], .tup [.str "record", .tup [.tup [.str "A", t3]]], .tup [.str "record", t3], .tup [.str "record", .tup [.tup [.str "a", .int 3]]]]
noncomputable def oddL11 : List Dt := oddL10 ++ [.tup [.str "record"]]
noncomputable def oddL12 : List Dt := oddL11 ++ [.tup [.str "record", .tup ((sgn "abcdefghi").map fun s => .tup [.str s, t3])], .tup [.str "record", .tup [.tup [.int 1, t3]]], .tup [.str "record", .tup [.str "a", t3]]]
noncomputable def oddL13 : List Dt := oddL12 ++ [.tup [.str "rows", .str "z", ownD, .int 3], .tup [.str "rows", .str "b", ownD, .int 3], .tup [.str "rows", .str "c", ownD, .int 3], .tup [.str "rows", .str "a", ownD, .int 9]]
noncomputable def oddL14 : List Dt := oddL13 ++ [.tup [.str "rows", .str "a", ownD], .tup [.str "rows", .str "a", t3, .int 3], .tup [.str "rows", .str "a", ownD, .int (-1)], .tup [.str "rows", ownD, .str "a", .int 3]]
noncomputable def oddL15 : List Dt := oddL14 ++ [.tup [.str "rows", .int 1, ownD, .int 3]]
noncomputable def oddL16 : List Dt := oddL15 ++ [.tup [], .tup [.str "word"], .tup [.str "texts", .int 3], .tup [.int 3], .tup [t3], .tup [.str "number", .int 0, .int ((10 : Int) ^ (59 : Int).toNat)], .tup [.str "", .int 3], .tup [.str "list"]]
theorem odd_bad : ∀ d ∈ oddL16, okD d = true ∧ ∀ j, j < 6 → formD j d = false := by decide +kernel
/-- what stays while the odd ones are laid out -/
structure OdB (K : PySem.W.Frag) (r : Addr) (c : Int) (vt : V) (H0 H : Hp) (xd : Dt) (vx : V) : Prop where
  S : Same H0 H
  hr : H r = some (.lst [.int c])
  ht : IsP K H t3 vt
  hx : IsP K H xd vx
structure OdI (K : PySem.W.Frag) (r : Addr) (c : Int) (vt : V) (H0 H : Hp) (po : Addr) (ys : List V) (ds : List Dt) (xd : Dt) (vx : V) : Prop extends OdB K r c vt H0 H xd vx where
  eo : H po = some (.lst ys)
  io : IsPs K H ds ys
  hn : H0 po = none
theorem OdB.same {K : PySem.W.Frag} {r : Addr} {c : Int} {vt vx : V} {H0 H H' : Hp} {xd : Dt} (I : OdB K r c vt H0 H xd vx) (g : Same H H') : OdB K r c vt H0 H' xd vx := ⟨I.S.trans g, g _ _ I.hr, I.ht.same g, I.hx.same g⟩
theorem OdB.first {K : PySem.W.Frag} {r p : Addr} {c : Int} {vt vx : V} {H0 H H' : Hp} {xd : Dt} {ds : List Dt} {vs : List V} (I : OdB K r c vt H0 H xd vx) (g : Same H H') (hp : H' p = none) (h : IsPs K H' ds vs) : OdI K r c vt H0 (upd H' p (.lst vs)) p vs ds xd vx :=
  ⟨I.same (g.trans (same_new hp _)), upd_same, h.same (same_new hp _), (I.S.trans g).free hp⟩
theorem OdI.cat {K : PySem.W.Frag} {r po p q : Addr} {c : Int} {vt vx : V} {H0 H H' : Hp} {xd : Dt} {ds es : List Dt} {ys vs : List V} {o : HO} (I : OdI K r c vt H0 H po ys ds xd vx) (g : Same H H') (hp : H' p = none) (hq : upd H' p o q = none) (h : IsPs K H' es vs) :
    OdI K r c vt H0 (upd (upd H' p o) q (.lst (ys ++ vs))) q (ys ++ vs) (ds ++ es) xd vx :=
  have S := g.trans ((same_new hp o).trans (same_new hq (.lst (ys ++ vs))))
  ⟨I.toOdB.same S, upd_same, (I.io.same S).append (h.same ((same_new hp o).trans (same_new hq _))), (I.S.trans (g.trans (same_new hp o))).free hq⟩
theorem OdI.app {K : PySem.W.Frag} {r po : Addr} {c : Int} {vt vx : V} {H0 H H' : Hp} {xd e : Dt} {ds : List Dt} {ys : List V} {v : V} (I : OdI K r c vt H0 H po ys ds xd vx) (g : Same H H') (h : IsP K H' e v) (nr : r ≠ po) :
    OdI K r c vt H0 (upd H' po (.lst (ys ++ [v]))) po (ys ++ [v]) (ds ++ [e]) xd vx := by
  have e' := g _ _ I.eo
  refine ⟨⟨same_upd I.hn (I.S.trans g), ?_, (I.ht.same g).but e' But.put, (I.hx.same g).but e' But.put⟩, upd_same, ((I.io.same g).append (.cons h .nil)).but e' But.put, I.hn⟩
  rw [upd_ne nr]
  exact g _ _ I.hr
theorem OdI.own {K : PySem.W.Frag} {r po : Addr} {c : Int} {vt vx vx' : V} {H0 H H' : Hp} {xd xd' : Dt} {ds : List Dt} {ys : List V} (I : OdI K r c vt H0 H po ys ds xd vx) (g : Same H H') (h : IsP K H' xd' vx') : OdI K r c vt H0 H' po ys ds xd' vx' :=
  ⟨⟨I.S.trans g, g _ _ I.hr, I.ht.same g, h⟩, g _ _ I.eo, I.io.same g, I.hn⟩
theorem OdI.few {K : PySem.W.Frag} {r po : Addr} {c : Int} {vt vx : V} {H0 H : Hp} {xd : Dt} {ds : List Dt} {ys : List V} (I : OdI K r c vt H0 H po ys ds xd vx) (h : ds.length ≤ 900) : ys.length < sizeLine := by
  have := I.io.length
  exact small1000 (by omega)
theorem OdI.few2 {K : PySem.W.Frag} {r po : Addr} {c : Int} {vt vx : V} {H0 H : Hp} {xd : Dt} {ds : List Dt} {ys vs : List V} (I : OdI K r c vt H0 H po ys ds xd vx) (h : ds.length ≤ 800) (h' : vs.length ≤ 100) : ys.length + vs.length ≤ sizeLine := by
  have := I.io.length
  exact small (by omega)
noncomputable def sp_law_odd (K : PySem.W.Frag) (_ : Ads) : Sp := fun vs H Q _ => ∃ (r : Addr) (c : Int), vs = [.ref r] ∧ H r = some (.lst [.int c]) ∧ ∀ v d c' H', But r H H' → H' r = some (.lst [.int c']) → IsP K H' d v → okD d = true → (∀ j, j ≤ 5 → formD j d = false) → Q v H'
theorem ok_law_odd (T : Tx K mg ad) {f : Addr} {fd : FuncData} (F : Gn K mg "_law_odd" s_law_odd ["row"] f fd) : FnOk P w K mg base CX0 2 f fd ["row"] (sp_law_odd K ad) := by
  obtain ⟨f_law_digit, fd_law_digit, D_law_digit⟩ := T.law_digit
  have G_law_digit := ok_law_digit (P := P) (w := w) (base := base) T D_law_digit
  refine F.F.ok sc_law_odd (fun vs H Q E h => ?_) (fun cdv A outer s H vs Q E hr h => ?_)
  · obtain ⟨r, c, rfl, _⟩ := h
    rfl
  obtain ⟨r, c, rfl, hr0, q⟩ := h
  refine ⟨_, (@pss_cons _ _ _ _ _ (@ps_set _ _ 1 _ _ _ _ sc_law_odd.nd rfl (Or.inr rfl) (@pe_tupPK _ K _ _ _ _ rfl (@pa_cons _ _ _ _ _ pe_str (@pa_cons _ _ _ _ _ pe_int pa_nil (by rfl)) (by rfl))) (by rfl) (by first | exact .inl rfl | exact .inr rfl | assumption)) (@pss_cons _ _ _ _ _ (@ps_set _ _ 2 _ _ _ _ sc_law_odd.nd rfl (Or.inl rfl) (@pe_lst _ _ _ _ (@pa_cons _ _ _ _ _ (@pe_tupPK _ K _ _ _ _ rfl (@pa_cons _ _ _ _ _ pe_str (@pa_cons _ _ _ _ _ pe_int (@pa_cons _ _ _ _ _ pe_int pa_nil (by rfl)) (by rfl)) (by rfl))) (@pa_cons _ _ _ _ _ (@pe_tupPK _ K _ _ _ _ rfl (@pa_cons _ _ _ _ _ pe_str (@pa_cons _ _ _ _ _ (@pe_op _ _ _ _ _ _ _ _ op_sub (@pe_un _ _ _ _ _ _ un_neg (@pe_op _ _ _ _ _ _ _ _ op_pow pe_int pe_int)) pe_int) (@pa_cons _ _ _ _ _ pe_int pa_nil (by rfl)) (by rfl)) (by rfl))) (@pa_cons _ _ _ _ _ (@pe_tupPK _ K _ _ _ _ rfl (@pa_cons _ _ _ _ _ pe_str (@pa_cons _ _ _ _ _ pe_int (@pa_cons _ _ _ _ _ (@pe_op _ _ _ _ _ _ _ _ op_add (@pe_op _ _ _ _ _ _ _ _ op_pow pe_int pe_int) pe_int) pa_nil (by rfl)) (by rfl)) (by rfl))) (@pa_cons _ _ _ _ _ (@pe_tupPK _ K _ _ _ _ rfl (@pa_cons _ _ _ _ _ pe_str (@pa_cons _ _ _ _ _ pe_int pa_nil (by rfl)) (by rfl))) pa_nil (by rfl)) (by rfl)) (by rfl)) (by rfl))) (by rfl) (by first | exact .inl rfl | exact .inr rfl | assumption)) (@pss_cons _ _ _ _ _ (@ps_expr _ _ _ _ (pe_bm PySem.F.plainAttrs_list PySem.F.slot_list_append PySem.F.type_list_append mt_append (pv 2) (@pa_cons _ _ _ _ _ (@pe_tupPK _ K _ _ _ _ rfl (@pa_cons _ _ _ _ _ pe_str (@pa_cons _ _ _ _ _ pe_int (@pa_cons _ _ _ _ _ pe_int (@pa_cons _ _ _ _ _ pe_int pa_nil (by rfl)) (by rfl)) (by rfl)) (by rfl))) pa_nil (by rfl))) (by rfl)) (@pss_cons _ _ _ _ _ (@ps_set _ _ 2 _ _ _ _ sc_law_odd.nd rfl (Or.inl rfl) (@pe_op _ _ _ _ _ _ _ _ op_cat (pv 2) (@pe_lst _ _ _ _ (@pa_cons _ _ _ _ _ (@pe_tupPK _ K _ _ _ _ rfl (@pa_cons _ _ _ _ _ pe_str (@pa_cons _ _ _ _ _ pe_str (@pa_cons _ _ _ _ _ pe_int pa_nil (by rfl)) (by rfl)) (by rfl))) (@pa_cons _ _ _ _ _ (@pe_tupPK _ K _ _ _ _ rfl (@pa_cons _ _ _ _ _ pe_str (@pa_cons _ _ _ _ _ pe_int (@pa_cons _ _ _ _ _ (pv 1) pa_nil (by rfl)) (by rfl)) (by rfl))) (@pa_cons _ _ _ _ _ (@pe_tupPK _ K _ _ _ _ rfl (@pa_cons _ _ _ _ _ pe_str (@pa_cons _ _ _ _ _ pe_int pa_nil (by rfl)) (by rfl))) (@pa_cons _ _ _ _ _ (@pe_tupPK _ K _ _ _ _ rfl (@pa_cons _ _ _ _ _ pe_str (@pa_cons _ _ _ _ _ (@pe_un _ _ _ _ _ _ un_neg pe_int) pa_nil (by rfl)) (by rfl))) (@pa_cons _ _ _ _ _ (@pe_tupPK _ K _ _ _ _ rfl (@pa_cons _ _ _ _ _ pe_str pa_nil (by rfl))) pa_nil (by rfl)) (by rfl)) (by rfl)) (by rfl)) (by rfl)))) (by rfl) (by first | exact .inl rfl | exact .inr rfl | assumption)) (@pss_cons _ _ _ _ _ (@ps_set _ _ 2 _ _ _ _ sc_law_odd.nd rfl (Or.inl rfl) (@pe_op _ _ _ _ _ _ _ _ op_cat (pv 2) (@pe_lst _ _ _ _ (@pa_cons _ _ _ _ _ (@pe_tupPK _ K _ _ _ _ rfl (@pa_cons _ _ _ _ _ pe_str (@pa_cons _ _ _ _ _ pe_int (@pa_cons _ _ _ _ _ pe_int pa_nil (by rfl)) (by rfl)) (by rfl))) (@pa_cons _ _ _ _ _ (@pe_tupPK _ K _ _ _ _ rfl (@pa_cons _ _ _ _ _ pe_str (@pa_cons _ _ _ _ _ pe_str pa_nil (by rfl)) (by rfl))) pa_nil (by rfl)) (by rfl)))) (by rfl) (by first | exact .inl rfl | exact .inr rfl | assumption)) (@pss_cons _ _ _ _ _ (@ps_set _ _ 2 _ _ _ _ sc_law_odd.nd rfl (Or.inl rfl) (@pe_op _ _ _ _ _ _ _ _ op_cat (pv 2) (@pe_lst _ _ _ _ (@pa_cons _ _ _ _ _ (@pe_tupPK _ K _ _ _ _ rfl (@pa_cons _ _ _ _ _ pe_str (@pa_cons _ _ _ _ _ (@pe_tupPK _ K _ _ _ _ rfl pa_nil) pa_nil (by rfl)) (by rfl))) (@pa_cons _ _ _ _ _ (@pe_tupPK _ K _ _ _ _ rfl (@pa_cons _ _ _ _ _ pe_str (@pa_cons _ _ _ _ _ (@pe_tupPK _ K _ _ _ _ rfl (@pa_cons _ _ _ _ _ pe_str (@pa_cons _ _ _ _ _ pe_str pa_nil (by rfl)) (by rfl))) pa_nil (by rfl)) (by rfl))) (@pa_cons _ _ _ _ _ (@pe_tupPK _ K _ _ _ _ rfl (@pa_cons _ _ _ _ _ pe_str (@pa_cons _ _ _ _ _ (@pe_tupPK _ K _ _ _ _ rfl (@pa_cons _ _ _ _ _ pe_str pa_nil (by rfl))) pa_nil (by rfl)) (by rfl))) (@pa_cons _ _ _ _ _ (@pe_tupPK _ K _ _ _ _ rfl (@pa_cons _ _ _ _ _ pe_str (@pa_cons _ _ _ _ _ (@pe_tupPK _ K _ _ _ _ rfl (@pa_cons _ _ _ _ _ pe_str (@pa_cons _ _ _ _ _ pe_str pa_nil (by rfl)) (by rfl))) pa_nil (by rfl)) (by rfl))) (@pa_cons _ _ _ _ _ (@pe_tupPK _ K _ _ _ _ rfl (@pa_cons _ _ _ _ _ pe_str pa_nil (by rfl))) pa_nil (by rfl)) (by rfl)) (by rfl)) (by rfl)) (by rfl)))) (by rfl) (by first | exact .inl rfl | exact .inr rfl | assumption)) (@pss_cons _ _ _ _ _ (@ps_set _ _ 2 _ _ _ _ sc_law_odd.nd rfl (Or.inl rfl) (@pe_op _ _ _ _ _ _ _ _ op_cat (pv 2) (@pe_lst _ _ _ _ (@pa_cons _ _ _ _ _ (@pe_tupPK _ K _ _ _ _ rfl (@pa_cons _ _ _ _ _ pe_str (@pa_cons _ _ _ _ _ (@pe_tupPK _ K _ _ _ _ rfl (@pa_cons _ _ _ _ _ pe_str (@pa_cons _ _ _ _ _ pe_str pa_nil (by rfl)) (by rfl))) pa_nil (by rfl)) (by rfl))) (@pa_cons _ _ _ _ _ (@pe_tupPK _ K _ _ _ _ rfl (@pa_cons _ _ _ _ _ pe_str (@pa_cons _ _ _ _ _ (pe_callTy (call_tupS (K := K) rfl rfl) rfl T.z_tuple boot_tuple (@pa_cons _ _ _ _ _ pe_str pa_nil (by rfl))) pa_nil (by rfl)) (by rfl))) (@pa_cons _ _ _ _ _ (@pe_tupPK _ K _ _ _ _ rfl (@pa_cons _ _ _ _ _ pe_str (@pa_cons _ _ _ _ _ pe_str pa_nil (by rfl)) (by rfl))) (@pa_cons _ _ _ _ _ (@pe_tupPK _ K _ _ _ _ rfl (@pa_cons _ _ _ _ _ pe_str (@pa_cons _ _ _ _ _ (@pe_tupPK _ K _ _ _ _ rfl (@pa_cons _ _ _ _ _ pe_str (@pa_cons _ _ _ _ _ pe_int pa_nil (by rfl)) (by rfl))) pa_nil (by rfl)) (by rfl))) pa_nil (by rfl)) (by rfl)) (by rfl)) (by rfl)))) (by rfl) (by first | exact .inl rfl | exact .inr rfl | assumption)) (@pss_cons _ _ _ _ _ (@ps_set _ _ 2 _ _ _ _ sc_law_odd.nd rfl (Or.inl rfl) (@pe_op _ _ _ _ _ _ _ _ op_cat (pv 2) (@pe_lst _ _ _ _ (@pa_cons _ _ _ _ _ (@pe_tupPK _ K _ _ _ _ rfl (@pa_cons _ _ _ _ _ pe_str (@pa_cons _ _ _ _ _ (pv 1) pa_nil (by rfl)) (by rfl))) (@pa_cons _ _ _ _ _ (@pe_tupPK _ K _ _ _ _ rfl (@pa_cons _ _ _ _ _ pe_str (@pa_cons _ _ _ _ _ (pv 1) (@pa_cons _ _ _ _ _ pe_int pa_nil (by rfl)) (by rfl)) (by rfl))) (@pa_cons _ _ _ _ _ (@pe_tupPK _ K _ _ _ _ rfl (@pa_cons _ _ _ _ _ pe_str (@pa_cons _ _ _ _ _ (pv 1) (@pa_cons _ _ _ _ _ (@pe_un _ _ _ _ _ _ un_neg pe_int) pa_nil (by rfl)) (by rfl)) (by rfl))) (@pa_cons _ _ _ _ _ (@pe_tupPK _ K _ _ _ _ rfl (@pa_cons _ _ _ _ _ pe_str (@pa_cons _ _ _ _ _ pe_int (@pa_cons _ _ _ _ _ (pv 1) pa_nil (by rfl)) (by rfl)) (by rfl))) (@pa_cons _ _ _ _ _ (@pe_tupPK _ K _ _ _ _ rfl (@pa_cons _ _ _ _ _ pe_str (@pa_cons _ _ _ _ _ (@pe_tupPK _ K _ _ _ _ rfl (@pa_cons _ _ _ _ _ pe_str (@pa_cons _ _ _ _ _ pe_int pa_nil (by rfl)) (by rfl))) (@pa_cons _ _ _ _ _ pe_int pa_nil (by rfl)) (by rfl)) (by rfl))) pa_nil (by rfl)) (by rfl)) (by rfl)) (by rfl)) (by rfl)))) (by rfl) (by first | exact .inl rfl | exact .inr rfl | assumption)) (@pss_cons _ _ _ _ _ (@ps_expr _ _ _ _ (pe_bm PySem.F.plainAttrs_list PySem.F.slot_list_append PySem.F.type_list_append mt_append (pv 2) (@pa_cons _ _ _ _ _ (@pe_tupPK _ K _ _ _ _ rfl (@pa_cons _ _ _ _ _ pe_str (@pa_cons _ _ _ _ _ (pv 1) (@pa_cons _ _ _ _ _ (pv 1) pa_nil (by rfl)) (by rfl)) (by rfl))) pa_nil (by rfl))) (by rfl)) (@pss_cons _ _ _ _ _ (@ps_set _ _ 2 _ _ _ _ sc_law_odd.nd rfl (Or.inl rfl) (@pe_op _ _ _ _ _ _ _ _ op_cat (pv 2) (@pe_lst _ _ _ _ (@pa_cons _ _ _ _ _ (@pe_tupPK _ K _ _ _ _ rfl (@pa_cons _ _ _ _ _ pe_str (@pa_cons _ _ _ _ _ (@pe_tupPK _ K _ _ _ _ rfl (@pa_cons _ _ _ _ _ (@pe_tupPK _ K _ _ _ _ rfl (@pa_cons _ _ _ _ _ pe_str (@pa_cons _ _ _ _ _ (pv 1) pa_nil (by rfl)) (by rfl))) (@pa_cons _ _ _ _ _ (@pe_tupPK _ K _ _ _ _ rfl (@pa_cons _ _ _ _ _ pe_str (@pa_cons _ _ _ _ _ (pv 1) pa_nil (by rfl)) (by rfl))) pa_nil (by rfl)) (by rfl))) pa_nil (by rfl)) (by rfl))) (@pa_cons _ _ _ _ _ (@pe_tupPK _ K _ _ _ _ rfl (@pa_cons _ _ _ _ _ pe_str (@pa_cons _ _ _ _ _ (@pe_tupPK _ K _ _ _ _ rfl (@pa_cons _ _ _ _ _ (@pe_tupPK _ K _ _ _ _ rfl (@pa_cons _ _ _ _ _ pe_str (@pa_cons _ _ _ _ _ (pv 1) pa_nil (by rfl)) (by rfl))) (@pa_cons _ _ _ _ _ (@pe_tupPK _ K _ _ _ _ rfl (@pa_cons _ _ _ _ _ pe_str (@pa_cons _ _ _ _ _ (pv 1) pa_nil (by rfl)) (by rfl))) pa_nil (by rfl)) (by rfl))) pa_nil (by rfl)) (by rfl))) (@pa_cons _ _ _ _ _ (@pe_tupPK _ K _ _ _ _ rfl (@pa_cons _ _ _ _ _ pe_str (@pa_cons _ _ _ _ _ (@pe_tupPK _ K _ _ _ _ rfl (@pa_cons _ _ _ _ _ (@pe_tupPK _ K _ _ _ _ rfl (@pa_cons _ _ _ _ _ pe_str (@pa_cons _ _ _ _ _ (pv 1) (@pa_cons _ _ _ _ _ (pv 1) pa_nil (by rfl)) (by rfl)) (by rfl))) pa_nil (by rfl))) pa_nil (by rfl)) (by rfl))) pa_nil (by rfl)) (by rfl)) (by rfl)))) (by rfl) (by first | exact .inl rfl | exact .inr rfl | assumption)) (@pss_cons _ _ _ _ _ (@ps_set _ _ 2 _ _ _ _ sc_law_odd.nd rfl (Or.inl rfl) (@pe_op _ _ _ _ _ _ _ _ op_cat (pv 2) (@pe_lst _ _ _ _ (@pa_cons _ _ _ _ _ (@pe_tupPK _ K _ _ _ _ rfl (@pa_cons _ _ _ _ _ pe_str (@pa_cons _ _ _ _ _ (@pe_tupPK _ K _ _ _ _ rfl (@pa_cons _ _ _ _ _ (@pe_tupPK _ K _ _ _ _ rfl (@pa_cons _ _ _ _ _ pe_str (@pa_cons _ _ _ _ _ (pv 1) pa_nil (by rfl)) (by rfl))) pa_nil (by rfl))) pa_nil (by rfl)) (by rfl))) (@pa_cons _ _ _ _ _ (@pe_tupPK _ K _ _ _ _ rfl (@pa_cons _ _ _ _ _ pe_str (@pa_cons _ _ _ _ _ (@pe_tupPK _ K _ _ _ _ rfl (@pa_cons _ _ _ _ _ (@pe_tupPK _ K _ _ _ _ rfl (@pa_cons _ _ _ _ _ pe_str (@pa_cons _ _ _ _ _ (pv 1) pa_nil (by rfl)) (by rfl))) pa_nil (by rfl))) pa_nil (by rfl)) (by rfl))) (@pa_cons _ _ _ _ _ (@pe_tupPK _ K _ _ _ _ rfl (@pa_cons _ _ _ _ _ pe_str (@pa_cons _ _ _ _ _ (pv 1) pa_nil (by rfl)) (by rfl))) (@pa_cons _ _ _ _ _ (@pe_tupPK _ K _ _ _ _ rfl (@pa_cons _ _ _ _ _ pe_str (@pa_cons _ _ _ _ _ (@pe_tupPK _ K _ _ _ _ rfl (@pa_cons _ _ _ _ _ (@pe_tupPK _ K _ _ _ _ rfl (@pa_cons _ _ _ _ _ pe_str (@pa_cons _ _ _ _ _ pe_int pa_nil (by rfl)) (by rfl))) pa_nil (by rfl))) pa_nil (by rfl)) (by rfl))) pa_nil (by rfl)) (by rfl)) (by rfl)) (by rfl)))) (by rfl) (by first | exact .inl rfl | exact .inr rfl | assumption)) (@pss_cons _ _ _ _ _ (@ps_expr _ _ _ _ (pe_bm PySem.F.plainAttrs_list PySem.F.slot_list_append PySem.F.type_list_append mt_append (pv 2) (@pa_cons _ _ _ _ _ (@pe_tupPK _ K _ _ _ _ rfl (@pa_cons _ _ _ _ _ pe_str pa_nil (by rfl))) pa_nil (by rfl))) (by rfl)) (@pss_cons _ _ _ _ _ (@ps_set _ _ 2 _ _ _ _ sc_law_odd.nd rfl (Or.inl rfl) (@pe_op _ _ _ _ _ _ _ _ op_cat (pv 2) (@pe_lst _ _ _ _ (@pa_cons _ _ _ _ _ (@pe_tupPK _ K _ _ _ _ rfl (@pa_cons _ _ _ _ _ pe_str (@pa_cons _ _ _ _ _ (pe_callTy (call_tuplePN (K := K) rfl) rfl T.z_tuple boot_tuple (@pa_cons _ _ _ _ _ (pe_comp rfl (csR (sc := defScope s_law_odd) (NL := ["name"]) (N := ["row", "t", "odd", "own"]) (ρ := [1]) (N' := ["name", "t"]) rfl rfl rfl (by decide +kernel) (by decide +kernel) (by decide +kernel) rfl (by decide +kernel)) (pi_str pe_str) (fun _ _ _ _ => (pg_name (i := 0) (show List.Nodup (α := Str) ["name", "t"] by decide +kernel) rfl (Or.inl rfl))) (fun _ _ _ _ => (pe_tupPK (K := K) rfl (@pa_cons _ _ _ _ _ (pv 0) (@pa_cons _ _ _ _ _ (pv 1) pa_nil (by rfl)) (by rfl))))) pa_nil (by rfl))) pa_nil (by rfl)) (by rfl))) (@pa_cons _ _ _ _ _ (@pe_tupPK _ K _ _ _ _ rfl (@pa_cons _ _ _ _ _ pe_str (@pa_cons _ _ _ _ _ (@pe_tupPK _ K _ _ _ _ rfl (@pa_cons _ _ _ _ _ (@pe_tupPK _ K _ _ _ _ rfl (@pa_cons _ _ _ _ _ pe_int (@pa_cons _ _ _ _ _ (pv 1) pa_nil (by rfl)) (by rfl))) pa_nil (by rfl))) pa_nil (by rfl)) (by rfl))) (@pa_cons _ _ _ _ _ (@pe_tupPK _ K _ _ _ _ rfl (@pa_cons _ _ _ _ _ pe_str (@pa_cons _ _ _ _ _ (@pe_tupPK _ K _ _ _ _ rfl (@pa_cons _ _ _ _ _ pe_str (@pa_cons _ _ _ _ _ (pv 1) pa_nil (by rfl)) (by rfl))) pa_nil (by rfl)) (by rfl))) pa_nil (by rfl)) (by rfl)) (by rfl)))) (by rfl) (by first | exact .inl rfl | exact .inr rfl | assumption)) (@pss_cons _ _ _ _ _ (@ps_set _ _ 3 _ _ _ _ sc_law_odd.nd rfl (Or.inl rfl) (@pe_tupPK _ K _ _ _ _ rfl (@pa_cons _ _ _ _ _ pe_str (@pa_cons _ _ _ _ _ (@pe_tupPK _ K _ _ _ _ rfl (@pa_cons _ _ _ _ _ (@pe_tupPK _ K _ _ _ _ rfl (@pa_cons _ _ _ _ _ pe_str (@pa_cons _ _ _ _ _ (pv 1) pa_nil (by rfl)) (by rfl))) (@pa_cons _ _ _ _ _ (@pe_tupPK _ K _ _ _ _ rfl (@pa_cons _ _ _ _ _ pe_str (@pa_cons _ _ _ _ _ (@pe_tupPK _ K _ _ _ _ rfl (@pa_cons _ _ _ _ _ pe_str (@pa_cons _ _ _ _ _ (@pe_tupPK _ K _ _ _ _ rfl (@pa_cons _ _ _ _ _ pe_str pa_nil (by rfl))) pa_nil (by rfl)) (by rfl))) pa_nil (by rfl)) (by rfl))) (@pa_cons _ _ _ _ _ (@pe_tupPK _ K _ _ _ _ rfl (@pa_cons _ _ _ _ _ pe_str (@pa_cons _ _ _ _ _ (@pe_tupPK _ K _ _ _ _ rfl (@pa_cons _ _ _ _ _ pe_str (@pa_cons _ _ _ _ _ (pv 1) (@pa_cons _ _ _ _ _ pe_int pa_nil (by rfl)) (by rfl)) (by rfl))) pa_nil (by rfl)) (by rfl))) pa_nil (by rfl)) (by rfl)) (by rfl))) pa_nil (by rfl)) (by rfl))) (by rfl) (by first | exact .inl rfl | exact .inr rfl | assumption)) (@pss_cons _ _ _ _ _ (@ps_set _ _ 2 _ _ _ _ sc_law_odd.nd rfl (Or.inl rfl) (@pe_op _ _ _ _ _ _ _ _ op_cat (pv 2) (@pe_lst _ _ _ _ (@pa_cons _ _ _ _ _ (@pe_tupPK _ K _ _ _ _ rfl (@pa_cons _ _ _ _ _ pe_str (@pa_cons _ _ _ _ _ pe_str (@pa_cons _ _ _ _ _ (pv 3) (@pa_cons _ _ _ _ _ pe_int pa_nil (by rfl)) (by rfl)) (by rfl)) (by rfl))) (@pa_cons _ _ _ _ _ (@pe_tupPK _ K _ _ _ _ rfl (@pa_cons _ _ _ _ _ pe_str (@pa_cons _ _ _ _ _ pe_str (@pa_cons _ _ _ _ _ (pv 3) (@pa_cons _ _ _ _ _ pe_int pa_nil (by rfl)) (by rfl)) (by rfl)) (by rfl))) (@pa_cons _ _ _ _ _ (@pe_tupPK _ K _ _ _ _ rfl (@pa_cons _ _ _ _ _ pe_str (@pa_cons _ _ _ _ _ pe_str (@pa_cons _ _ _ _ _ (pv 3) (@pa_cons _ _ _ _ _ pe_int pa_nil (by rfl)) (by rfl)) (by rfl)) (by rfl))) (@pa_cons _ _ _ _ _ (@pe_tupPK _ K _ _ _ _ rfl (@pa_cons _ _ _ _ _ pe_str (@pa_cons _ _ _ _ _ pe_str (@pa_cons _ _ _ _ _ (pv 3) (@pa_cons _ _ _ _ _ pe_int pa_nil (by rfl)) (by rfl)) (by rfl)) (by rfl))) pa_nil (by rfl)) (by rfl)) (by rfl)) (by rfl)))) (by rfl) (by first | exact .inl rfl | exact .inr rfl | assumption)) (@pss_cons _ _ _ _ _ (@ps_set _ _ 2 _ _ _ _ sc_law_odd.nd rfl (Or.inl rfl) (@pe_op _ _ _ _ _ _ _ _ op_cat (pv 2) (@pe_lst _ _ _ _ (@pa_cons _ _ _ _ _ (@pe_tupPK _ K _ _ _ _ rfl (@pa_cons _ _ _ _ _ pe_str (@pa_cons _ _ _ _ _ pe_str (@pa_cons _ _ _ _ _ (pv 3) pa_nil (by rfl)) (by rfl)) (by rfl))) (@pa_cons _ _ _ _ _ (@pe_tupPK _ K _ _ _ _ rfl (@pa_cons _ _ _ _ _ pe_str (@pa_cons _ _ _ _ _ pe_str (@pa_cons _ _ _ _ _ (pv 1) (@pa_cons _ _ _ _ _ pe_int pa_nil (by rfl)) (by rfl)) (by rfl)) (by rfl))) (@pa_cons _ _ _ _ _ (@pe_tupPK _ K _ _ _ _ rfl (@pa_cons _ _ _ _ _ pe_str (@pa_cons _ _ _ _ _ pe_str (@pa_cons _ _ _ _ _ (pv 3) (@pa_cons _ _ _ _ _ (@pe_un _ _ _ _ _ _ un_neg pe_int) pa_nil (by rfl)) (by rfl)) (by rfl)) (by rfl))) (@pa_cons _ _ _ _ _ (@pe_tupPK _ K _ _ _ _ rfl (@pa_cons _ _ _ _ _ pe_str (@pa_cons _ _ _ _ _ (pv 3) (@pa_cons _ _ _ _ _ pe_str (@pa_cons _ _ _ _ _ pe_int pa_nil (by rfl)) (by rfl)) (by rfl)) (by rfl))) pa_nil (by rfl)) (by rfl)) (by rfl)) (by rfl)))) (by rfl) (by first | exact .inl rfl | exact .inr rfl | assumption)) (@pss_cons _ _ _ _ _ (@ps_expr _ _ _ _ (pe_bm PySem.F.plainAttrs_list PySem.F.slot_list_append PySem.F.type_list_append mt_append (pv 2) (@pa_cons _ _ _ _ _ (@pe_tupPK _ K _ _ _ _ rfl (@pa_cons _ _ _ _ _ pe_str (@pa_cons _ _ _ _ _ pe_int (@pa_cons _ _ _ _ _ (pv 3) (@pa_cons _ _ _ _ _ pe_int pa_nil (by rfl)) (by rfl)) (by rfl)) (by rfl))) pa_nil (by rfl))) (by rfl)) (@pss_cons _ _ _ _ _ (@ps_set _ _ 2 _ _ _ _ sc_law_odd.nd rfl (Or.inl rfl) (@pe_op _ _ _ _ _ _ _ _ op_cat (pv 2) (@pe_lst _ _ _ _ (@pa_cons _ _ _ _ _ (@pe_tupPK _ K _ _ _ _ rfl pa_nil) (@pa_cons _ _ _ _ _ (@pe_tupPK _ K _ _ _ _ rfl (@pa_cons _ _ _ _ _ pe_str pa_nil (by rfl))) (@pa_cons _ _ _ _ _ (@pe_tupPK _ K _ _ _ _ rfl (@pa_cons _ _ _ _ _ pe_str (@pa_cons _ _ _ _ _ pe_int pa_nil (by rfl)) (by rfl))) (@pa_cons _ _ _ _ _ (@pe_tupPK _ K _ _ _ _ rfl (@pa_cons _ _ _ _ _ pe_int pa_nil (by rfl))) (@pa_cons _ _ _ _ _ (@pe_tupPK _ K _ _ _ _ rfl (@pa_cons _ _ _ _ _ (pv 1) pa_nil (by rfl))) (@pa_cons _ _ _ _ _ (@pe_tupPK _ K _ _ _ _ rfl (@pa_cons _ _ _ _ _ pe_str (@pa_cons _ _ _ _ _ pe_int (@pa_cons _ _ _ _ _ (@pe_op _ _ _ _ _ _ _ _ op_pow pe_int pe_int) pa_nil (by rfl)) (by rfl)) (by rfl))) (@pa_cons _ _ _ _ _ (@pe_tupPK _ K _ _ _ _ rfl (@pa_cons _ _ _ _ _ pe_str (@pa_cons _ _ _ _ _ pe_int pa_nil (by rfl)) (by rfl))) (@pa_cons _ _ _ _ _ (@pe_tupPK _ K _ _ _ _ rfl (@pa_cons _ _ _ _ _ pe_str pa_nil (by rfl))) pa_nil (by rfl)) (by rfl)) (by rfl)) (by rfl)) (by rfl)) (by rfl)) (by rfl)) (by rfl)))) (by rfl) (by first | exact .inl rfl | exact .inr rfl | assumption)) (@pss_one _ _ _ (@ps_ret _ _ _ _ (@pe_ix _ _ _ _ _ _ _ (ix_listK (K := K) rfl) (pv 2) (pe_call G_law_digit (hr.mono (by first | decide | omega)) rfl D_law_digit.m D_law_digit.F.kp D_law_digit.b .nil pass0 (@pa_cons _ _ _ _ _ (pv 0) (@pa_cons _ _ _ _ _ (pe_callB call_len_seq rfl T.z_len PySem.boot_len (@pa_cons _ _ _ _ _ (pv 2) pa_nil (by rfl))) pa_nil (by rfl)) (by rfl))) (fun _ _ => rfl)))))))))))))))))))))), ?_⟩
  refine seq_name fun k hk1 => ?_
  refine ⟨[.str "text", .int 3], .cons .str (.cons .int .nil), (by show 2 ≤ sizeLine; decide), fun vt X1 g0 hvt => ?_⟩
  refine hk1 _ _ ?_
  clear hk1
  have I1 : OdB K r c vt H X1 t3 vt := ⟨g0, g0 _ _ hr0, hvt, hvt⟩
  refine seq_name fun k hk2 => ?_
  refine ⟨[.str "number", .int 1, .int 0], .cons .str (.cons .int (.cons .int .nil)), (by show 3 ≤ sizeLine; decide), fun v1 H1 g1 w1 => ?_⟩
  refine ⟨_, _, rfl, rfl, ⟨by decide, by decide, by decide⟩, _, rfl, _, _, rfl, rfl, ?_⟩
  refine ⟨[.str "number", .int ((-((10 : Int) ^ (30 : Int).toNat)) - (1 : Int)), .int 0], .cons .str (.cons .int (.cons .int .nil)), (by show 3 ≤ sizeLine; decide), fun v2 H2 g2 w2 => ?_⟩
  refine ⟨_, _, rfl, rfl, ⟨by decide, by decide, by decide⟩, _, _, rfl, rfl, ?_⟩
  refine ⟨[.str "number", .int 0, .int (((10 : Int) ^ (30 : Int).toNat) + (1 : Int))], .cons .str (.cons .int (.cons .int .nil)), (by show 3 ≤ sizeLine; decide), fun v3 H3 g3 w3 => ?_⟩
  refine ⟨[.str "number", .int 0], .cons .str (.cons .int .nil), (by show 2 ≤ sizeLine; decide), fun v4 H4 g4 w4 => ?_⟩
  refine ⟨(by show 4 ≤ sizeLine; decide), fun p2 hp => ?_⟩
  have J : OdI K r c vt H (upd _ p2 (.lst [v1, v2, v3, v4])) p2 [v1, v2, v3, v4] oddL1 t3 vt := I1.first ((((g1).trans g2).trans g3).trans g4) hp (.cons ((((w1).same g2).same g3).same g4) (.cons (((w2).same g3).same g4) (.cons ((w3).same g4) (.cons (w4) .nil))))
  refine hk2 _ _ ?_
  revert J
  generalize upd _ p2 (.lst [v1, v2, v3, v4]) = X2
  generalize [v1, v2, v3, v4] = ys2
  intro I2
  clear hk2
  clear hp
  clear w4 g4 w3 g3 w2 g2 w1 g1
  clear H4 v4 H3 v3 H2 v2 H1 v1
  clear I1
  refine seq_name fun k hk3 => ?_
  refine ⟨_, rfl, .inl ⟨rfl, _, SqL.of I2.eo⟩, ?_⟩
  refine ⟨[.str "number", .int 0, .int 1, .int 2], .cons .str (.cons .int (.cons .int (.cons .int .nil))), (by show 4 ≤ sizeLine; decide), fun v5 H5 g5 w5 => ?_⟩
  refine ⟨p2, ys2, v5, rfl, rfl, (g5) _ _ I2.eo, I2.few (by decide +kernel), ?_⟩
  have J : OdI K r c vt H _ p2 _ oddL2 _ _ := I2.app (g5) (w5) (ne_of_none hr0 I2.hn)
  refine hk3 _ _ ?_
  revert J
  generalize upd _ p2 (.lst (ys2 ++ [v5])) = X3
  generalize ys2 ++ [v5] = ys3
  intro I3
  clear hk3
  clear w5 g5
  clear H5 v5
  clear I2
  refine seq_name fun k hk4 => ?_
  refine ⟨_, rfl, ?_⟩
  refine ⟨[.str "number", .str "0", .int 1], .cons .str (.cons .str (.cons .int .nil)), (by show 3 ≤ sizeLine; decide), fun v6 H6 g6 w6 => ?_⟩
  refine ⟨_, rfl, ?_⟩
  refine ⟨[.str "number", .int 0, t3], .cons .str (.cons .int (.cons ((I3.ht).same g6) .nil)), (by show 3 ≤ sizeLine; decide), fun v7 H7 g7 w7 => ?_⟩
  refine ⟨[.str "text", .int 61], .cons .str (.cons .int .nil), (by show 2 ≤ sizeLine; decide), fun v8 H8 g8 w8 => ?_⟩
  refine ⟨_, rfl, ?_⟩
  refine ⟨[.str "text", .int (-1)], .cons .str (.cons .int .nil), (by show 2 ≤ sizeLine; decide), fun v9 H9 g9 w9 => ?_⟩
  refine ⟨[.str "text"], .cons .str .nil, (by show 1 ≤ sizeLine; decide), fun v10 H10 g10 w10 => ?_⟩
  refine ⟨(by show 5 ≤ sizeLine; decide), fun q4 hl => ?_⟩
  refine ⟨p2, q4, ys3, _, rfl, rfl, same_new hl _ _ _ ((((((g6).trans g7).trans g8).trans g9).trans g10) _ _ I3.eo), upd_same, I3.few2 (by decide +kernel) (by show 5 ≤ 100; decide), fun p4 hn => ?_⟩
  have J : OdI K r c vt H _ p4 _ oddL3 _ _ := I3.cat (((((g6).trans g7).trans g8).trans g9).trans g10) hl hn (.cons (((((w6).same g7).same g8).same g9).same g10) (.cons ((((w7).same g8).same g9).same g10) (.cons (((w8).same g9).same g10) (.cons ((w9).same g10) (.cons (w10) .nil)))))
  refine hk4 _ _ ?_
  revert J
  generalize upd _ p4 (.lst (ys3 ++ [v6, v7, v8, v9, v10])) = X4
  generalize ys3 ++ [v6, v7, v8, v9, v10] = ys4
  intro I4
  clear hk4
  clear hn hl
  clear w10 g10 w9 g9 w8 g8 w7 g7 w6 g6
  clear H10 v10 H9 v9 H8 v8 H7 v7 H6 v6
  clear I3
  refine seq_name fun k hk5 => ?_
  refine ⟨_, rfl, ?_⟩
  refine ⟨[.str "text", .int 3, .int 3], .cons .str (.cons .int (.cons .int .nil)), (by show 3 ≤ sizeLine; decide), fun v11 H11 g11 w11 => ?_⟩
  refine ⟨[.str "text", .str "3"], .cons .str (.cons .str .nil), (by show 2 ≤ sizeLine; decide), fun v12 H12 g12 w12 => ?_⟩
  refine ⟨(by show 2 ≤ sizeLine; decide), fun q5 hl => ?_⟩
  refine ⟨p4, q5, ys4, _, rfl, rfl, same_new hl _ _ _ (((g11).trans g12) _ _ I4.eo), upd_same, I4.few2 (by decide +kernel) (by show 2 ≤ 100; decide), fun p5 hn => ?_⟩
  have J : OdI K r c vt H _ p5 _ oddL4 _ _ := I4.cat ((g11).trans g12) hl hn (.cons ((w11).same g12) (.cons (w12) .nil))
  refine hk5 _ _ ?_
  revert J
  generalize upd _ p5 (.lst (ys4 ++ [v11, v12])) = X5
  generalize ys4 ++ [v11, v12] = ys5
  intro I5
  clear hk5
  clear hn hl
  clear w12 g12 w11 g11
  clear H12 v12 H11 v11
  clear I4
  refine seq_name fun k hk6 => ?_
  refine ⟨_, rfl, ?_⟩
  refine ⟨[], .nil, (by show 0 ≤ sizeLine; decide), fun v13 H13 g13 w13 => ?_⟩
  refine ⟨[.str "choice", .tup []], .cons .str (.cons (w13) .nil), (by show 2 ≤ sizeLine; decide), fun v14 H14 g14 w14 => ?_⟩
  refine ⟨[.str "a", .str "a"], .cons .str (.cons .str .nil), (by show 2 ≤ sizeLine; decide), fun v15 H15 g15 w15 => ?_⟩
  refine ⟨[.str "choice", .tup [.str "a", .str "a"]], .cons .str (.cons (w15) .nil), (by show 2 ≤ sizeLine; decide), fun v16 H16 g16 w16 => ?_⟩
  refine ⟨[.str "each"], .cons .str .nil, (by show 1 ≤ sizeLine; decide), fun v17 H17 g17 w17 => ?_⟩
  refine ⟨[.str "choice", .tup [.str "each"]], .cons .str (.cons (w17) .nil), (by show 2 ≤ sizeLine; decide), fun v18 H18 g18 w18 => ?_⟩
  refine ⟨[.str "a", .str "B"], .cons .str (.cons .str .nil), (by show 2 ≤ sizeLine; decide), fun v19 H19 g19 w19 => ?_⟩
  refine ⟨[.str "choice", .tup [.str "a", .str "B"]], .cons .str (.cons (w19) .nil), (by show 2 ≤ sizeLine; decide), fun v20 H20 g20 w20 => ?_⟩
  refine ⟨[.str "choice"], .cons .str .nil, (by show 1 ≤ sizeLine; decide), fun v21 H21 g21 w21 => ?_⟩
  refine ⟨(by show 5 ≤ sizeLine; decide), fun q6 hl => ?_⟩
  refine ⟨p5, q6, ys5, _, rfl, rfl, same_new hl _ _ _ ((((((((((g13).trans g14).trans g15).trans g16).trans g17).trans g18).trans g19).trans g20).trans g21) _ _ I5.eo), upd_same, I5.few2 (by decide +kernel) (by show 5 ≤ 100; decide), fun p6 hn => ?_⟩
  have J : OdI K r c vt H _ p6 _ oddL5 _ _ := I5.cat (((((((((g13).trans g14).trans g15).trans g16).trans g17).trans g18).trans g19).trans g20).trans g21) hl hn (.cons ((((((((w14).same g15).same g16).same g17).same g18).same g19).same g20).same g21) (.cons ((((((w16).same g17).same g18).same g19).same g20).same g21) (.cons ((((w18).same g19).same g20).same g21) (.cons ((w20).same g21) (.cons (w21) .nil)))))
  refine hk6 _ _ ?_
  revert J
  generalize upd _ p6 (.lst (ys5 ++ [v14, v16, v18, v20, v21])) = X6
  generalize ys5 ++ [v14, v16, v18, v20, v21] = ys6
  intro I6
  clear hk6
  clear hn hl
  clear w21 g21 w20 g20 w19 g19 w18 g18 w17 g17 w16 g16 w15 g15 w14 g14 w13 g13
  clear H21 v21 H20 v20 H19 v19 H18 v18 H17 v17 H16 v16 H15 v15 H14 v14 H13 v13
  clear I5
  refine seq_name fun k hk7 => ?_
  refine ⟨_, rfl, ?_⟩
  refine ⟨[.str "a", .str ""], .cons .str (.cons .str .nil), (by show 2 ≤ sizeLine; decide), fun v22 H22 g22 w22 => ?_⟩
  refine ⟨[.str "choice", .tup [.str "a", .str ""]], .cons .str (.cons (w22) .nil), (by show 2 ≤ sizeLine; decide), fun v23 H23 g23 w23 => ?_⟩
  refine ⟨_, rfl, (by decide +kernel), fun v24 H24 g24 w24 => ?_⟩
  refine ⟨[.str "choice", signD "abcdefghi"], .cons .str (.cons (w24) .nil), (by show 2 ≤ sizeLine; decide), fun v25 H25 g25 w25 => ?_⟩
  refine ⟨[.str "choice", .str "ab"], .cons .str (.cons .str .nil), (by show 2 ≤ sizeLine; decide), fun v26 H26 g26 w26 => ?_⟩
  refine ⟨[.str "a", .int 1], .cons .str (.cons .int .nil), (by show 2 ≤ sizeLine; decide), fun v27 H27 g27 w27 => ?_⟩
  refine ⟨[.str "choice", .tup [.str "a", .int 1]], .cons .str (.cons (w27) .nil), (by show 2 ≤ sizeLine; decide), fun v28 H28 g28 w28 => ?_⟩
  refine ⟨(by show 4 ≤ sizeLine; decide), fun q7 hl => ?_⟩
  refine ⟨p6, q7, ys6, _, rfl, rfl, same_new hl _ _ _ ((((((((g22).trans g23).trans g24).trans g25).trans g26).trans g27).trans g28) _ _ I6.eo), upd_same, I6.few2 (by decide +kernel) (by show 4 ≤ 100; decide), fun p7 hn => ?_⟩
  have J : OdI K r c vt H _ p7 _ oddL6 _ _ := I6.cat (((((((g22).trans g23).trans g24).trans g25).trans g26).trans g27).trans g28) hl hn (.cons ((((((w23).same g24).same g25).same g26).same g27).same g28) (.cons ((((w25).same g26).same g27).same g28) (.cons (((w26).same g27).same g28) (.cons (w28) .nil))))
  refine hk7 _ _ ?_
  revert J
  generalize upd _ p7 (.lst (ys6 ++ [v23, v25, v26, v28])) = X7
  generalize ys6 ++ [v23, v25, v26, v28] = ys7
  intro I7
  clear hk7
  clear hn hl
  clear w28 g28 w27 g27 w26 g26 w25 g25 w24 g24 w23 g23 w22 g22
  clear H28 v28 H27 v27 H26 v26 H25 v25 H24 v24 H23 v23 H22 v22
  clear I6
  refine seq_name fun k hk8 => ?_
  refine ⟨_, rfl, ?_⟩
  refine ⟨_, rfl, ?_⟩
  refine ⟨[.str "list", t3], .cons .str (.cons (I7.ht) .nil), (by show 2 ≤ sizeLine; decide), fun v29 H29 g29 w29 => ?_⟩
  refine ⟨_, rfl, ?_⟩
  refine ⟨[.str "list", t3, .int 9], .cons .str (.cons ((I7.ht).same g29) (.cons .int .nil)), (by show 3 ≤ sizeLine; decide), fun v30 H30 g30 w30 => ?_⟩
  refine ⟨_, rfl, ?_⟩
  refine ⟨_, rfl, ?_⟩
  refine ⟨[.str "list", t3, .int (-1)], .cons .str (.cons (((I7.ht).same g29).same g30) (.cons .int .nil)), (by show 3 ≤ sizeLine; decide), fun v31 H31 g31 w31 => ?_⟩
  refine ⟨_, rfl, ?_⟩
  refine ⟨[.str "list", .int 3, t3], .cons .str (.cons .int (.cons ((((I7.ht).same g29).same g30).same g31) .nil)), (by show 3 ≤ sizeLine; decide), fun v32 H32 g32 w32 => ?_⟩
  refine ⟨[.str "text", .int 61], .cons .str (.cons .int .nil), (by show 2 ≤ sizeLine; decide), fun v33 H33 g33 w33 => ?_⟩
  refine ⟨[.str "list", .tup [.str "text", .int 61], .int 3], .cons .str (.cons (w33) (.cons .int .nil)), (by show 3 ≤ sizeLine; decide), fun v34 H34 g34 w34 => ?_⟩
  refine ⟨(by show 5 ≤ sizeLine; decide), fun q8 hl => ?_⟩
  refine ⟨p7, q8, ys7, _, rfl, rfl, same_new hl _ _ _ (((((((g29).trans g30).trans g31).trans g32).trans g33).trans g34) _ _ I7.eo), upd_same, I7.few2 (by decide +kernel) (by show 5 ≤ 100; decide), fun p8 hn => ?_⟩
  have J : OdI K r c vt H _ p8 _ oddL7 _ _ := I7.cat ((((((g29).trans g30).trans g31).trans g32).trans g33).trans g34) hl hn (.cons ((((((w29).same g30).same g31).same g32).same g33).same g34) (.cons (((((w30).same g31).same g32).same g33).same g34) (.cons ((((w31).same g32).same g33).same g34) (.cons (((w32).same g33).same g34) (.cons (w34) .nil)))))
  refine hk8 _ _ ?_
  revert J
  generalize upd _ p8 (.lst (ys7 ++ [v29, v30, v31, v32, v34])) = X8
  generalize ys7 ++ [v29, v30, v31, v32, v34] = ys8
  intro I8
  clear hk8
  clear hn hl
  clear w34 g34 w33 g33 w32 g32 w31 g31 w30 g30 w29 g29
  clear H34 v34 H33 v33 H32 v32 H31 v31 H30 v30 H29 v29
  clear I7
  refine seq_name fun k hk9 => ?_
  refine ⟨_, rfl, .inl ⟨rfl, _, SqL.of I8.eo⟩, ?_⟩
  refine ⟨_, rfl, ?_⟩
  refine ⟨_, rfl, ?_⟩
  refine ⟨[.str "list", t3, t3], .cons .str (.cons (I8.ht) (.cons (I8.ht) .nil)), (by show 3 ≤ sizeLine; decide), fun v35 H35 g35 w35 => ?_⟩
  refine ⟨p8, ys8, v35, rfl, rfl, (g35) _ _ I8.eo, I8.few (by decide +kernel), ?_⟩
  have J : OdI K r c vt H _ p8 _ oddL8 _ _ := I8.app (g35) (w35) (ne_of_none hr0 I8.hn)
  refine hk9 _ _ ?_
  revert J
  generalize upd _ p8 (.lst (ys8 ++ [v35])) = X9
  generalize ys8 ++ [v35] = ys9
  intro I9
  clear hk9
  clear w35 g35
  clear H35 v35
  clear I8
  refine seq_name fun k hk10 => ?_
  refine ⟨_, rfl, ?_⟩
  refine ⟨_, rfl, ?_⟩
  refine ⟨[.str "b", t3], .cons .str (.cons (I9.ht) .nil), (by show 2 ≤ sizeLine; decide), fun v36 H36 g36 w36 => ?_⟩
  refine ⟨_, rfl, ?_⟩
  refine ⟨[.str "a", t3], .cons .str (.cons ((I9.ht).same g36) .nil), (by show 2 ≤ sizeLine; decide), fun v37 H37 g37 w37 => ?_⟩
  refine ⟨[.tup [.str "b", t3], .tup [.str "a", t3]], .cons ((w36).same g37) (.cons (w37) .nil), (by show 2 ≤ sizeLine; decide), fun v38 H38 g38 w38 => ?_⟩
  refine ⟨[.str "record", .tup [.tup [.str "b", t3], .tup [.str "a", t3]]], .cons .str (.cons (w38) .nil), (by show 2 ≤ sizeLine; decide), fun v39 H39 g39 w39 => ?_⟩
  refine ⟨_, rfl, ?_⟩
  refine ⟨[.str "a", t3], .cons .str (.cons (((((I9.ht).same g36).same g37).same g38).same g39) .nil), (by show 2 ≤ sizeLine; decide), fun v40 H40 g40 w40 => ?_⟩
  refine ⟨_, rfl, ?_⟩
  refine ⟨[.str "a", t3], .cons .str (.cons ((((((I9.ht).same g36).same g37).same g38).same g39).same g40) .nil), (by show 2 ≤ sizeLine; decide), fun v41 H41 g41 w41 => ?_⟩
  refine ⟨[.tup [.str "a", t3], .tup [.str "a", t3]], .cons ((w40).same g41) (.cons (w41) .nil), (by show 2 ≤ sizeLine; decide), fun v42 H42 g42 w42 => ?_⟩
  refine ⟨[.str "record", .tup [.tup [.str "a", t3], .tup [.str "a", t3]]], .cons .str (.cons (w42) .nil), (by show 2 ≤ sizeLine; decide), fun v43 H43 g43 w43 => ?_⟩
  refine ⟨_, rfl, ?_⟩
  refine ⟨_, rfl, ?_⟩
  refine ⟨[.str "a", t3, t3], .cons .str (.cons (((((((((I9.ht).same g36).same g37).same g38).same g39).same g40).same g41).same g42).same g43) (.cons (((((((((I9.ht).same g36).same g37).same g38).same g39).same g40).same g41).same g42).same g43) .nil)), (by show 3 ≤ sizeLine; decide), fun v44 H44 g44 w44 => ?_⟩
  refine ⟨[.tup [.str "a", t3, t3]], .cons (w44) .nil, (by show 1 ≤ sizeLine; decide), fun v45 H45 g45 w45 => ?_⟩
  refine ⟨[.str "record", .tup [.tup [.str "a", t3, t3]]], .cons .str (.cons (w45) .nil), (by show 2 ≤ sizeLine; decide), fun v46 H46 g46 w46 => ?_⟩
  refine ⟨(by show 3 ≤ sizeLine; decide), fun q10 hl => ?_⟩
  refine ⟨p8, q10, ys9, _, rfl, rfl, same_new hl _ _ _ ((((((((((((g36).trans g37).trans g38).trans g39).trans g40).trans g41).trans g42).trans g43).trans g44).trans g45).trans g46) _ _ I9.eo), upd_same, I9.few2 (by decide +kernel) (by show 3 ≤ 100; decide), fun p10 hn => ?_⟩
  have J : OdI K r c vt H _ p10 _ oddL9 _ _ := I9.cat (((((((((((g36).trans g37).trans g38).trans g39).trans g40).trans g41).trans g42).trans g43).trans g44).trans g45).trans g46) hl hn (.cons ((((((((w39).same g40).same g41).same g42).same g43).same g44).same g45).same g46) (.cons ((((w43).same g44).same g45).same g46) (.cons (w46) .nil)))
  refine hk10 _ _ ?_
  revert J
  generalize upd _ p10 (.lst (ys9 ++ [v39, v43, v46])) = X10
  generalize ys9 ++ [v39, v43, v46] = ys10
  intro I10
  clear hk10
  clear hn hl
  clear w46 g46 w45 g45 w44 g44 w43 g43 w42 g42 w41 g41 w40 g40 w39 g39 w38 g38 w37 g37 w36 g36
  clear H46 v46 H45 v45 H44 v44 H43 v43 H42 v42 H41 v41 H40 v40 H39 v39 H38 v38 H37 v37 H36 v36
  clear I9
  refine seq_name fun k hk11 => ?_
  refine ⟨_, rfl, ?_⟩
  refine ⟨_, rfl, ?_⟩
  refine ⟨[.str "each", t3], .cons .str (.cons (I10.ht) .nil), (by show 2 ≤ sizeLine; decide), fun v47 H47 g47 w47 => ?_⟩
  refine ⟨[.tup [.str "each", t3]], .cons (w47) .nil, (by show 1 ≤ sizeLine; decide), fun v48 H48 g48 w48 => ?_⟩
  refine ⟨[.str "record", .tup [.tup [.str "each", t3]]], .cons .str (.cons (w48) .nil), (by show 2 ≤ sizeLine; decide), fun v49 H49 g49 w49 => ?_⟩
  refine ⟨_, rfl, ?_⟩
  refine ⟨[.str "A", t3], .cons .str (.cons ((((I10.ht).same g47).same g48).same g49) .nil), (by show 2 ≤ sizeLine; decide), fun v50 H50 g50 w50 => ?_⟩
  refine ⟨[.tup [.str "A", t3]], .cons (w50) .nil, (by show 1 ≤ sizeLine; decide), fun v51 H51 g51 w51 => ?_⟩
  refine ⟨[.str "record", .tup [.tup [.str "A", t3]]], .cons .str (.cons (w51) .nil), (by show 2 ≤ sizeLine; decide), fun v52 H52 g52 w52 => ?_⟩
  refine ⟨_, rfl, ?_⟩
  refine ⟨[.str "record", t3], .cons .str (.cons (((((((I10.ht).same g47).same g48).same g49).same g50).same g51).same g52) .nil), (by show 2 ≤ sizeLine; decide), fun v53 H53 g53 w53 => ?_⟩
  refine ⟨[.str "a", .int 3], .cons .str (.cons .int .nil), (by show 2 ≤ sizeLine; decide), fun v54 H54 g54 w54 => ?_⟩
  refine ⟨[.tup [.str "a", .int 3]], .cons (w54) .nil, (by show 1 ≤ sizeLine; decide), fun v55 H55 g55 w55 => ?_⟩
  refine ⟨[.str "record", .tup [.tup [.str "a", .int 3]]], .cons .str (.cons (w55) .nil), (by show 2 ≤ sizeLine; decide), fun v56 H56 g56 w56 => ?_⟩
  refine ⟨(by show 4 ≤ sizeLine; decide), fun q11 hl => ?_⟩
  refine ⟨p10, q11, ys10, _, rfl, rfl, same_new hl _ _ _ (((((((((((g47).trans g48).trans g49).trans g50).trans g51).trans g52).trans g53).trans g54).trans g55).trans g56) _ _ I10.eo), upd_same, I10.few2 (by decide +kernel) (by show 4 ≤ 100; decide), fun p11 hn => ?_⟩
  have J : OdI K r c vt H _ p11 _ oddL10 _ _ := I10.cat ((((((((((g47).trans g48).trans g49).trans g50).trans g51).trans g52).trans g53).trans g54).trans g55).trans g56) hl hn (.cons ((((((((w49).same g50).same g51).same g52).same g53).same g54).same g55).same g56) (.cons (((((w52).same g53).same g54).same g55).same g56) (.cons ((((w53).same g54).same g55).same g56) (.cons (w56) .nil))))
  refine hk11 _ _ ?_
  revert J
  generalize upd _ p11 (.lst (ys10 ++ [v49, v52, v53, v56])) = X11
  generalize ys10 ++ [v49, v52, v53, v56] = ys11
  intro I11
  clear hk11
  clear hn hl
  clear w56 g56 w55 g55 w54 g54 w53 g53 w52 g52 w51 g51 w50 g50 w49 g49 w48 g48 w47 g47
  clear H56 v56 H55 v55 H54 v54 H53 v53 H52 v52 H51 v51 H50 v50 H49 v49 H48 v48 H47 v47
  clear I10
  refine seq_name fun k hk12 => ?_
  refine ⟨_, rfl, .inl ⟨rfl, _, SqL.of I11.eo⟩, ?_⟩
  refine ⟨[.str "record"], .cons .str .nil, (by show 1 ≤ sizeLine; decide), fun v57 H57 g57 w57 => ?_⟩
  refine ⟨p11, ys11, v57, rfl, rfl, (g57) _ _ I11.eo, I11.few (by decide +kernel), ?_⟩
  have J : OdI K r c vt H _ p11 _ oddL11 _ _ := I11.app (g57) (w57) (ne_of_none hr0 I11.hn)
  refine hk12 _ _ ?_
  revert J
  generalize upd _ p11 (.lst (ys11 ++ [v57])) = X12
  generalize ys11 ++ [v57] = ys12
  intro I12
  clear hk12
  clear w57 g57
  clear H57 v57
  clear I11
  refine seq_name fun k hk13 => ?_
  refine ⟨_, rfl, ?_⟩
  refine ⟨_, rfl, fun l58 n58 => ?_⟩
  refine pairs_sgn n58 (by decide +kernel) (I12.ht) fun ys58 H58a g58a e58 i58 => ?_
  refine ⟨l58, ys58, _, rfl, SqL.of e58, i58, fun v58 H58 g58 w58 => ?_⟩
  refine ⟨[.str "record", .tup ((sgn "abcdefghi").map fun s => .tup [.str s, t3])], .cons .str (.cons (w58) .nil), (by show 2 ≤ sizeLine; decide), fun v59 H59 g59 w59 => ?_⟩
  refine ⟨_, rfl, ?_⟩
  refine ⟨[.int 1, t3], .cons .int (.cons ((((I12.ht).same g58a).same g58).same g59) .nil), (by show 2 ≤ sizeLine; decide), fun v60 H60 g60 w60 => ?_⟩
  refine ⟨[.tup [.int 1, t3]], .cons (w60) .nil, (by show 1 ≤ sizeLine; decide), fun v61 H61 g61 w61 => ?_⟩
  refine ⟨[.str "record", .tup [.tup [.int 1, t3]]], .cons .str (.cons (w61) .nil), (by show 2 ≤ sizeLine; decide), fun v62 H62 g62 w62 => ?_⟩
  refine ⟨_, rfl, ?_⟩
  refine ⟨[.str "a", t3], .cons .str (.cons (((((((I12.ht).same g58a).same g58).same g59).same g60).same g61).same g62) .nil), (by show 2 ≤ sizeLine; decide), fun v63 H63 g63 w63 => ?_⟩
  refine ⟨[.str "record", .tup [.str "a", t3]], .cons .str (.cons (w63) .nil), (by show 2 ≤ sizeLine; decide), fun v64 H64 g64 w64 => ?_⟩
  refine ⟨(by show 3 ≤ sizeLine; decide), fun q13 hl => ?_⟩
  refine ⟨p11, q13, ys12, _, rfl, rfl, same_new hl _ _ _ (((((((((g58a).trans g58).trans g59).trans g60).trans g61).trans g62).trans g63).trans g64) _ _ I12.eo), upd_same, I12.few2 (by decide +kernel) (by show 3 ≤ 100; decide), fun p13 hn => ?_⟩
  have J : OdI K r c vt H _ p13 _ oddL12 _ _ := I12.cat ((((((((g58a).trans g58).trans g59).trans g60).trans g61).trans g62).trans g63).trans g64) hl hn (.cons ((((((w59).same g60).same g61).same g62).same g63).same g64) (.cons (((w62).same g63).same g64) (.cons (w64) .nil)))
  refine hk13 _ _ ?_
  revert J
  generalize upd _ p13 (.lst (ys12 ++ [v59, v62, v64])) = X13
  generalize ys12 ++ [v59, v62, v64] = ys13
  intro I13
  clear hk13
  clear hn hl
  clear w64 g64 w63 g63 w62 g62 w61 g61 w60 g60 w59 g59
  clear H64 v64 H63 v63 H62 v62 H61 v61 H60 v60 H59 v59
  clear I12
  refine seq_name fun k hk14 => ?_
  refine ⟨_, rfl, ?_⟩
  refine ⟨[.str "a", t3], .cons .str (.cons (I13.ht) .nil), (by show 2 ≤ sizeLine; decide), fun v65 H65 g65 w65 => ?_⟩
  refine ⟨[.str "x"], .cons .str .nil, (by show 1 ≤ sizeLine; decide), fun v66 H66 g66 w66 => ?_⟩
  refine ⟨[.str "choice", .tup [.str "x"]], .cons .str (.cons (w66) .nil), (by show 2 ≤ sizeLine; decide), fun v67 H67 g67 w67 => ?_⟩
  refine ⟨[.str "b", .tup [.str "choice", .tup [.str "x"]]], .cons .str (.cons (w67) .nil), (by show 2 ≤ sizeLine; decide), fun v68 H68 g68 w68 => ?_⟩
  refine ⟨_, rfl, ?_⟩
  refine ⟨[.str "list", t3, .int 2], .cons .str (.cons (((((I13.ht).same g65).same g66).same g67).same g68) (.cons .int .nil)), (by show 3 ≤ sizeLine; decide), fun v69 H69 g69 w69 => ?_⟩
  refine ⟨[.str "c", .tup [.str "list", t3, .int 2]], .cons .str (.cons (w69) .nil), (by show 2 ≤ sizeLine; decide), fun v70 H70 g70 w70 => ?_⟩
  refine ⟨[.tup [.str "a", t3], .tup [.str "b", .tup [.str "choice", .tup [.str "x"]]], .tup [.str "c", .tup [.str "list", t3, .int 2]]], .cons ((((((w65).same g66).same g67).same g68).same g69).same g70) (.cons (((w68).same g69).same g70) (.cons (w70) .nil)), (by show 3 ≤ sizeLine; decide), fun v71 H71 g71 w71 => ?_⟩
  refine ⟨[.str "record", .tup [.tup [.str "a", t3], .tup [.str "b", .tup [.str "choice", .tup [.str "x"]]], .tup [.str "c", .tup [.str "list", t3, .int 2]]]], .cons .str (.cons (w71) .nil), (by show 2 ≤ sizeLine; decide), fun v72 H72 g72 w72 => ?_⟩
  have J := I13.own (xd' := ownD) ((((((((g65).trans g66).trans g67).trans g68).trans g69).trans g70).trans g71).trans g72) (w72)
  refine hk14 _ _ ?_
  clear hk14
  have I14 := J
  clear J
  refine seq_name fun k hk15 => ?_
  refine ⟨_, rfl, ?_⟩
  refine ⟨_, rfl, ?_⟩
  refine ⟨[.str "rows", .str "z", ownD, .int 3], .cons .str (.cons .str (.cons (I14.hx) (.cons .int .nil))), (by show 4 ≤ sizeLine; decide), fun v73 H73 g73 w73 => ?_⟩
  refine ⟨_, rfl, ?_⟩
  refine ⟨[.str "rows", .str "b", ownD, .int 3], .cons .str (.cons .str (.cons ((I14.hx).same g73) (.cons .int .nil))), (by show 4 ≤ sizeLine; decide), fun v74 H74 g74 w74 => ?_⟩
  refine ⟨_, rfl, ?_⟩
  refine ⟨[.str "rows", .str "c", ownD, .int 3], .cons .str (.cons .str (.cons (((I14.hx).same g73).same g74) (.cons .int .nil))), (by show 4 ≤ sizeLine; decide), fun v75 H75 g75 w75 => ?_⟩
  refine ⟨_, rfl, ?_⟩
  refine ⟨[.str "rows", .str "a", ownD, .int 9], .cons .str (.cons .str (.cons ((((I14.hx).same g73).same g74).same g75) (.cons .int .nil))), (by show 4 ≤ sizeLine; decide), fun v76 H76 g76 w76 => ?_⟩
  refine ⟨(by show 4 ≤ sizeLine; decide), fun q15 hl => ?_⟩
  refine ⟨p13, q15, ys13, _, rfl, rfl, same_new hl _ _ _ (((((g73).trans g74).trans g75).trans g76) _ _ I14.eo), upd_same, I14.few2 (by decide +kernel) (by show 4 ≤ 100; decide), fun p15 hn => ?_⟩
  have J : OdI K r c vt H _ p15 _ oddL13 _ _ := I14.cat ((((g73).trans g74).trans g75).trans g76) hl hn (.cons ((((w73).same g74).same g75).same g76) (.cons (((w74).same g75).same g76) (.cons ((w75).same g76) (.cons (w76) .nil))))
  refine hk15 _ _ ?_
  revert J
  generalize upd _ p15 (.lst (ys13 ++ [v73, v74, v75, v76])) = X15
  generalize ys13 ++ [v73, v74, v75, v76] = ys15
  intro I15
  clear hk15
  clear hn hl
  clear w76 g76 w75 g75 w74 g74 w73 g73
  clear H76 v76 H75 v75 H74 v74 H73 v73
  clear I14
  refine seq_name fun k hk16 => ?_
  refine ⟨_, rfl, ?_⟩
  refine ⟨_, rfl, ?_⟩
  refine ⟨[.str "rows", .str "a", ownD], .cons .str (.cons .str (.cons (I15.hx) .nil)), (by show 3 ≤ sizeLine; decide), fun v77 H77 g77 w77 => ?_⟩
  refine ⟨_, rfl, ?_⟩
  refine ⟨[.str "rows", .str "a", t3, .int 3], .cons .str (.cons .str (.cons ((I15.ht).same g77) (.cons .int .nil))), (by show 4 ≤ sizeLine; decide), fun v78 H78 g78 w78 => ?_⟩
  refine ⟨_, rfl, ?_⟩
  refine ⟨_, rfl, ?_⟩
  refine ⟨[.str "rows", .str "a", ownD, .int (-1)], .cons .str (.cons .str (.cons (((I15.hx).same g77).same g78) (.cons .int .nil))), (by show 4 ≤ sizeLine; decide), fun v79 H79 g79 w79 => ?_⟩
  refine ⟨_, rfl, ?_⟩
  refine ⟨[.str "rows", ownD, .str "a", .int 3], .cons .str (.cons ((((I15.hx).same g77).same g78).same g79) (.cons .str (.cons .int .nil))), (by show 4 ≤ sizeLine; decide), fun v80 H80 g80 w80 => ?_⟩
  refine ⟨(by show 4 ≤ sizeLine; decide), fun q16 hl => ?_⟩
  refine ⟨p15, q16, ys15, _, rfl, rfl, same_new hl _ _ _ (((((g77).trans g78).trans g79).trans g80) _ _ I15.eo), upd_same, I15.few2 (by decide +kernel) (by show 4 ≤ 100; decide), fun p16 hn => ?_⟩
  have J : OdI K r c vt H _ p16 _ oddL14 _ _ := I15.cat ((((g77).trans g78).trans g79).trans g80) hl hn (.cons ((((w77).same g78).same g79).same g80) (.cons (((w78).same g79).same g80) (.cons ((w79).same g80) (.cons (w80) .nil))))
  refine hk16 _ _ ?_
  revert J
  generalize upd _ p16 (.lst (ys15 ++ [v77, v78, v79, v80])) = X16
  generalize ys15 ++ [v77, v78, v79, v80] = ys16
  intro I16
  clear hk16
  clear hn hl
  clear w80 g80 w79 g79 w78 g78 w77 g77
  clear H80 v80 H79 v79 H78 v78 H77 v77
  clear I15
  refine seq_name fun k hk17 => ?_
  refine ⟨_, rfl, .inl ⟨rfl, _, SqL.of I16.eo⟩, ?_⟩
  refine ⟨_, rfl, ?_⟩
  refine ⟨[.str "rows", .int 1, ownD, .int 3], .cons .str (.cons .int (.cons (I16.hx) (.cons .int .nil))), (by show 4 ≤ sizeLine; decide), fun v81 H81 g81 w81 => ?_⟩
  refine ⟨p16, ys16, v81, rfl, rfl, (g81) _ _ I16.eo, I16.few (by decide +kernel), ?_⟩
  have J : OdI K r c vt H _ p16 _ oddL15 _ _ := I16.app (g81) (w81) (ne_of_none hr0 I16.hn)
  refine hk17 _ _ ?_
  revert J
  generalize upd _ p16 (.lst (ys16 ++ [v81])) = X17
  generalize ys16 ++ [v81] = ys17
  intro I17
  clear hk17
  clear w81 g81
  clear H81 v81
  clear I16
  refine seq_name fun k hk18 => ?_
  refine ⟨_, rfl, ?_⟩
  refine ⟨[], .nil, (by show 0 ≤ sizeLine; decide), fun v82 H82 g82 w82 => ?_⟩
  refine ⟨[.str "word"], .cons .str .nil, (by show 1 ≤ sizeLine; decide), fun v83 H83 g83 w83 => ?_⟩
  refine ⟨[.str "texts", .int 3], .cons .str (.cons .int .nil), (by show 2 ≤ sizeLine; decide), fun v84 H84 g84 w84 => ?_⟩
  refine ⟨[.int 3], .cons .int .nil, (by show 1 ≤ sizeLine; decide), fun v85 H85 g85 w85 => ?_⟩
  refine ⟨_, rfl, ?_⟩
  refine ⟨[t3], .cons (((((I17.ht).same g82).same g83).same g84).same g85) .nil, (by show 1 ≤ sizeLine; decide), fun v86 H86 g86 w86 => ?_⟩
  refine ⟨_, _, rfl, rfl, ⟨by decide, by decide, by decide⟩, ?_⟩
  refine ⟨[.str "number", .int 0, .int ((10 : Int) ^ (59 : Int).toNat)], .cons .str (.cons .int (.cons .int .nil)), (by show 3 ≤ sizeLine; decide), fun v87 H87 g87 w87 => ?_⟩
  refine ⟨[.str "", .int 3], .cons .str (.cons .int .nil), (by show 2 ≤ sizeLine; decide), fun v88 H88 g88 w88 => ?_⟩
  refine ⟨[.str "list"], .cons .str .nil, (by show 1 ≤ sizeLine; decide), fun v89 H89 g89 w89 => ?_⟩
  refine ⟨(by show 8 ≤ sizeLine; decide), fun q18 hl => ?_⟩
  refine ⟨p16, q18, ys17, _, rfl, rfl, same_new hl _ _ _ (((((((((g82).trans g83).trans g84).trans g85).trans g86).trans g87).trans g88).trans g89) _ _ I17.eo), upd_same, I17.few2 (by decide +kernel) (by show 8 ≤ 100; decide), fun p18 hn => ?_⟩
  have J : OdI K r c vt H _ p18 _ oddL16 _ _ := I17.cat ((((((((g82).trans g83).trans g84).trans g85).trans g86).trans g87).trans g88).trans g89) hl hn (.cons ((((((((w82).same g83).same g84).same g85).same g86).same g87).same g88).same g89) (.cons (((((((w83).same g84).same g85).same g86).same g87).same g88).same g89) (.cons ((((((w84).same g85).same g86).same g87).same g88).same g89) (.cons (((((w85).same g86).same g87).same g88).same g89) (.cons ((((w86).same g87).same g88).same g89) (.cons (((w87).same g88).same g89) (.cons ((w88).same g89) (.cons (w89) .nil))))))))
  refine hk18 _ _ ?_
  revert J
  generalize upd _ p18 (.lst (ys17 ++ [v82, v83, v84, v85, v86, v87, v88, v89])) = X18
  generalize ys17 ++ [v82, v83, v84, v85, v86, v87, v88, v89] = ys18
  intro I18
  clear hk18
  clear hn hl
  clear w89 g89 w88 g88 w87 g87 w86 g86 w85 g85 w84 g84 w83 g83 w82 g82
  clear H89 v89 H88 v88 H87 v87 H86 v86 H85 v85 H84 v84 H83 v83 H82 v82
  clear I17
  have ly := I18.io.length
  have lo : oddL16.length = 55 := by decide +kernel
  obtain ⟨k0, k1⟩ := mod_lt c (m := ((ys18.length : Nat) : Int)) (by omega)
  obtain ⟨i, u, hu, hat, _⟩ := place k0 k1
  obtain ⟨d, hd, hpu⟩ := I18.io.get' hu
  obtain ⟨okd, bd⟩ := odd_bad d (List.mem_of_getElem? hd)
  have nr : r ≠ p18 := ne_of_none hr0 I18.hn
  refine ⟨_, rfl, _, rfl, _, rfl, p18, ys18, rfl, .inl (SqL.of I18.eo), r, c, _, rfl, I18.hr, by omega, by omega, ?_⟩
  exact ⟨p18, _, _, _, rfl, rfl, SqL.of (by rw [upd_ne nr.symm]; exact I18.eo), hat, q u d _ _ ((But.same I18.S).trans But.put) upd_same (hpu.but I18.hr But.put) okd fun j hj => bd j (by omega)⟩
theorem dep_strs : ∀ p : List Str, (Dt.tup (p.map Dt.str)).dep ≤ 3 := fun p => by
  show depS (p.map Dt.str) + 1 ≤ 3
  have : ∀ q : List Str, depS (q.map Dt.str) ≤ 2 := fun q => by
    induction q with
    | nil => exact Nat.zero_le _
    | cons a r ih => simp only [List.map_cons, depS, Dt.dep]; omega
  have := this p
  omega
theorem fk_dep {a c : Nat} {d : Dt} (g : FK a c d) : d.dep ≤ 3 * a + 7 := by
  induction g with
  | text i => simp only [Dt.dep, depS]; omega
  | choice ws =>
    have := dep_strs ws
    simp only [Dt.dep, depS] at this ⊢
    omega
  | number i j => simp only [Dt.dep, depS]; omega
  | list g _ _ ih => simp only [Dt.dep, depS]; omega
  | rows g _ _ _ ih => simp only [Dt.dep, depS] at ih ⊢; omega
  | @rcd gs g nd nm hl ih =>
    have key : ∀ l : List G4, (∀ f ∈ l, f ∈ gs) → depS (l.map prG) ≤ 3 * maxN (gs.map (·.2.2.1)) + 8 := by
      intro l
      induction l with
      | nil => intro _; simp only [List.map_nil, depS]; omega
      | cons f l ih2 =>
        intro h
        have h0 := h f List.mem_cons_self
        have h1 := ih f h0
        have h3 := le_max (List.mem_map.mpr ⟨f, h0, rfl⟩ : f.2.2.1 ∈ gs.map (·.2.2.1))
        have h2 := ih2 fun f hf => h f (List.mem_cons_of_mem _ hf)
        simp only [List.map_cons, depS, Dt.dep]
        omega
    have := key gs fun _ h => h
    simp only [Dt.dep, depS]
    omega
theorem ok_law (T : Tx K mg ad) {f : Addr} {fd : FuncData} (F : Gn K mg "law" s_law ["script"] f fd) : FnOk P w K mg base CX0 depth f fd ["script"] (sp_law K ad) := by
  obtain ⟨f_law_own, fd_law_own, D_law_own⟩ := T.law_own
  have G_law_own := ok_law_own (P := P) (w := w) (base := base) T D_law_own
  obtain ⟨f_law_great, fd_law_great, D_law_great⟩ := T.law_great
  have G_law_great := ok_law_great (P := P) (w := w) (base := base) T D_law_great
  obtain ⟨f_law_kind, fd_law_kind, D_law_kind⟩ := T.law_kind
  obtain ⟨f1, d1, D1⟩ := T.law_record_kind
  obtain ⟨f2, d2, D2⟩ := T.law_rows_kind
  have G_law_kind := kinds_all (P := P) (w := w) (base := base) T D_law_kind D1 D2 5
  obtain ⟨f_law_odd, fd_law_odd, D_law_odd⟩ := T.law_odd
  have G_law_odd := ok_law_odd (P := P) (w := w) (base := base) T D_law_odd
  obtain ⟨f_law_spoilt, fd_law_spoilt, D_law_spoilt⟩ := T.law_spoilt
  have G_law_spoilt := spoilt_all (P := P) (w := w) (base := base) T D_law_spoilt 5
  obtain ⟨f_law_refused, fd_law_refused, D_law_refused⟩ := T.law_refused
  have G_law_refused := ok_law_refused (P := P) (w := w) (base := base) T D_law_refused
  obtain ⟨f_made_kind, fd_made_kind, D_made_kind⟩ := T.made_kind
  have G_made_kind := ok_made_kind (P := P) (w := w) (base := base) T D_made_kind
  refine F.F.ok sc_law (fun vs H Q E h => ?_) (fun cdv A outer s H vs Q E hr h => ?_)
  · obtain ⟨a, ns, rfl, _⟩ := h
    rfl
  obtain ⟨a, ns, rfl, hs, h63, q⟩ := h
  refine ⟨_, (@pss_cons _ _ _ _ _ (ps_for PassesOwn.never rfl (pi_range1 rfl T.z_range (@pa_cons _ _ _ _ _ (pe_callB (call_min2 rfl) rfl T.z_min boot_min (@pa_cons _ _ _ _ _ pe_int (@pa_cons _ _ _ _ _ (@pe_op _ _ _ _ _ _ _ _ op_add pe_int (pe_callB call_len_seq rfl T.z_len PySem.boot_len (@pa_cons _ _ _ _ _ (pv 0) pa_nil (by rfl)))) pa_nil (by rfl)) (by rfl))) pa_nil (by rfl))) (pg_name (i := 1) sc_law.nd rfl (Or.inl rfl))
        (@pss_cons _ _ _ _ _ (@ps_set _ _ 2 _ _ _ _ sc_law.nd rfl (Or.inl rfl) (pe_call G_law_own (hr.mono (by first | decide | omega)) rfl D_law_own.m D_law_own.F.kp D_law_own.b .nil pass0 (@pa_cons _ _ _ _ _ (pv 0) (@pa_cons _ _ _ _ _ (pv 1) pa_nil (by rfl)) (by rfl))) (by rfl) (by first | exact .inl rfl | exact .inr rfl | assumption)) (@pss_cons _ _ _ _ _ (ps_for PassesOwn.never rfl (pi_range1 rfl T.z_range (@pa_cons _ _ _ _ _ pe_int pa_nil (by rfl))) (pg_name (i := 3) sc_law.nd rfl (Or.inl rfl))
        (@pss_cons _ _ _ _ _ (@ps_set _ _ 4 _ _ _ _ sc_law.nd rfl (Or.inl rfl) (pe_call G_law_kind (hr.mono (by first | decide | omega)) rfl D_law_kind.m D_law_kind.F.kp D_law_kind.b .nil pass0 (@pa_cons _ _ _ _ _ (pv 2) (@pa_cons _ _ _ _ _ pe_int (@pa_cons _ _ _ _ _ (@pe_lst _ _ _ _ (@pa_cons _ _ _ _ _ pe_int pa_nil (by rfl))) pa_nil (by rfl)) (by rfl)) (by rfl))) (by rfl) (by first | exact .inl rfl | exact .inr rfl | assumption)) (@pss_one _ _ _ (@ps_if _ _ _ _ _ _ _ _ (PW.pt (@pw_or _ _ _ _ _ _ _ (pt_cmpR (op_neDN (K := K) rfl hr.units) (pe_call G_made_kind (hr.mono (by first | decide | omega)) rfl D_made_kind.m D_made_kind.F.kp D_made_kind.b .nil passF (@pa_cons _ _ _ _ _ (pv 4) pa_nil (by rfl))) (pv 4) (nomark _)) (@pw_or1 _ _ _ _ (@pt_not _ _ _ _ (@pt_val _ _ _ (pe_call G_law_refused (hr.mono (by first | decide | omega)) rfl D_law_refused.m D_law_refused.F.kp D_law_refused.b .nil pass0 (@pa_cons _ _ _ _ _ (pe_call G_law_spoilt (hr.mono (by first | decide | omega)) rfl D_law_spoilt.m D_law_spoilt.F.kp D_law_spoilt.b .nil pass0 (@pa_cons _ _ _ _ _ (pv 4) (@pa_cons _ _ _ _ _ (pv 2) (@pa_cons _ _ _ _ _ (pe_call G_law_odd (hr.mono (by first | decide | omega)) rfl D_law_odd.m D_law_odd.F.kp D_law_odd.b .nil pass0 (@pa_cons _ _ _ _ _ (pv 2) pa_nil (by rfl))) pa_nil (by rfl)) (by rfl)) (by rfl))) pa_nil (by rfl))) (by intro _; rfl)))))) (@pss_one _ _ _ (@ps_ret _ _ _ _ pe_bl)) pss_nil)))) (@pss_one _ _ _ (@ps_if _ _ _ _ _ _ _ _ (@pt_not _ _ _ _ (@pt_val _ _ _ (pe_callB call_all rfl T.z_all boot_all (@pa_cons _ _ _ _ _ (pe_comp rfl (cs0 (NL := ["kind"]) rfl (by decide +kernel) (by decide +kernel)) (pi_listN (K := K) rfl (pe_call G_law_great (hr.mono (by first | decide | omega)) rfl D_law_great.m D_law_great.F.kp D_law_great.b .nil pass0 (@pa_cons _ _ _ _ _ (pv 2) pa_nil (by rfl)))) (fun _ _ _ _ => (pg_name (i := 0) (show List.Nodup (α := Str) ["kind"] by decide +kernel) rfl (Or.inl rfl))) (fun _ _ _ _ => (pe_call G_law_refused (hr.mono (by first | decide | omega)) rfl D_law_refused.m D_law_refused.F.kp D_law_refused.b .nil pass0 (@pa_cons _ _ _ _ _ (pv 0) pa_nil (by rfl))))) pa_nil (by rfl))) (by intro _; rfl))) (@pss_one _ _ _ (@ps_ret _ _ _ _ pe_bl)) pss_nil))))) (@pss_one _ _ _ (@ps_ret _ _ _ _ pe_bl))), ?_⟩
  have lns : (ns.map V.int).length = ns.length := List.length_map ..
  refine ⟨_, rfl, a, _, rfl, .inl hs, _, _, rfl, rfl, _, _, rfl, ?_⟩
  rw [lns]
  generalize hJ : (if (1 + ((ns.length : Nat) : Int)) < 12 then (1 + ((ns.length : Nat) : Int)) else 12) = J
  have J1 : 0 ≤ J ∧ J ≤ 12 := by rw [← hJ]; split <;> omega
  refine ⟨J, rfl, by omega, by omega, for_range (lo := 0) (n := J.toNat) (fun i σ H' => Same H H' ∧ ∃ v1 v2 v3 v4, σ = [some (.ref a), v1, v2, v3, v4]) ⟨Same.refl H, _, _, _, _, rfl⟩ ?_ ?_⟩
  · rintro i σ H1 hi ⟨g1, v1, v2, v3, v4, rfl⟩
    refine seq_name fun k9 hk9 => ?_
    refine ⟨_, rfl, _, rfl, a, ns, i, (by show [V.ref a, V.int (0 + (i : Int))] = _; rw [Int.zero_add]), g1.seq hs, h63, by omega, fun r c H2 hr2 g2 e2 => ?_⟩
    refine hk9 _ _ ?_
    clear hk9
    have hrH : H r = none := g1.free hr2
    have keep : ∀ {H3 H4 : Hp}, Same H H3 → But r H3 H4 → Same H H4 := fun s b x o e => b x o (ne_of_none e hrH) (s x o e)
    have keep2 : ∀ {p : Addr} {H3 H4 : Hp}, H p = none → Same H H3 → But2 r p H3 H4 → Same H H4 := fun hp s b x o e => b x o (ne_of_none e hrH) (ne_of_none e hp) (s x o e)
    refine seq_name fun k9 hk9 => ?_
    refine ⟨6, rfl, by decide, by decide, for_range (lo := 0) (n := (6 : Int).toNat) (fun j σ H' => Same H H' ∧ ∃ c' v3 v4, H' r = some (.lst [.int c']) ∧ σ = [some (.ref a), some (.int (0 + (i : Int))), some (.ref r), v3, v4]) ⟨g1.trans g2, c, _, _, e2, rfl⟩ ?_ ?_⟩
    · rintro j σ H3 hj ⟨S3, c3, v3, v4, r3, rfl⟩
      refine ⟨_, rfl, (by show 1 ≤ sizeLine; decide), fun p1 hp1 => ?_⟩
      have g3 := same_new hp1 (.lst [.int 30])
      refine ⟨r, p1, c3, 30, 5, by decide, by decide, rfl, ne_of_none r3 hp1, g3 _ _ r3, upd_same, fun vk dk ak ck n4 x4 H4 b4 r4 p4 hvk fkk hak hck => ?_⟩
      have S4 := keep2 (S3.free hp1) (S3.trans g3) b4
      have bk : bud 30 = 6 := by decide
      have dp : dk.dep ≤ 60 := by have := fk_dep fkk; omega
      refine ⟨_, rfl, dk, vk, rfl, hvk, fk_ok fkk, .inr ⟨ak, ck, fkk, hak, fun _ H5 g5 => ?_, fun z => by omega⟩⟩
      refine ⟨_, rfl, dk, dk, (hvk.same g5).d, (hvk.same g5).d, dp, _, rfl, ?_⟩
      rw [eqD_refl]
      refine iteF ⟨_, rfl, _, rfl, _, rfl, r, n4, rfl, g5 _ _ r4, fun vo dd c6 H6 b6 r6 hvo oko bado => ?_⟩
      refine ⟨r, c6, ak, ck, dk, dd, vk, vo, hak, rfl, r6, (hvk.same g5).but (g5 _ _ r4) b6, fkk, hvo, oko, bado, fun vs ds c7 H7 b7 r7 hvs oks bads => ?_⟩
      refine ⟨ds, vs, rfl, hvs, ⟨oks, .inl (bads 5 (by decide))⟩, fun H8 g8 => ⟨_, rfl, iteF ?_⟩⟩
      exact ⟨(keep (keep (S4.trans g5) b6) b7).trans g8, c7, _, _, g8 _ _ r7, rfl⟩
    · rintro σ H3 ⟨S3, c3, v3, v4, r3, rfl⟩
      refine hk9 _ _ ?_
      refine ⟨_, rfl, r, c3, rfl, r3, fun pg x y d e n7 H7 b7 hpg r7 e7 hx hy bd be => ?_⟩
      have S7 := keep S3 b7
      refine ⟨pg, rfl, ⟨_, SqL.of e7⟩, fun l hln => ?_⟩
      refine comp_listR (K := K) (xs := [x, y]) (fun i us σ H' => us = bls (List.replicate i true) ∧ i ≤ 2 ∧ Same H7 H' ∧ H' l = some (.lst us) ∧ σ.length = 1) ⟨rfl, by decide, same_new hln _, upd_same, rfl⟩ (fun i us σ H' _ r => SqL.of (r.2.2.1 _ _ e7)) ?_ ?_
      · rintro i u us σ H8 N hu ⟨rfl, hi2, g8, e8, hσ⟩ next
        have hb : ∃ du, IsP K H7 du u ∧ Bad du := by
          match i, hu with
          | 0, h => exact ⟨d, by cases h; exact hx, bd⟩
          | 1, h => exact ⟨e, by cases h; exact hy, be⟩
        obtain ⟨du, hdu, bdu⟩ := hb
        have li := (List.getElem?_eq_some_iff.mp hu).1
        match σ, hσ with
        | [_], _ =>
          refine ⟨_, rfl, du, u, rfl, hdu.same g8, bdu, fun H9 g9 => ⟨g9 _ _ e8, ?_, next _ _ _ ⟨?_, li, same_upd hln (g8.trans g9), upd_same, rfl⟩⟩⟩
          · rw [bls, List.length_map, List.length_replicate]
            exact small1000 (by omega)
          · show List.map V.bl _ ++ [V.bl true] = List.map V.bl _
            rw [List.replicate_succ', List.map_append]
            rfl
      · rintro us σ H8 ⟨rfl, _, g8, e8, _⟩
        refine ⟨l, _, rfl, rfl, SqL.of e8, _, rfl, ?_⟩
        exact iteF ⟨S7.trans g8, _, _, _, _, rfl⟩
  · rintro σ H1 ⟨g1, v1, v2, v3, v4, rfl⟩
    exact q H1
end
@[elab_as_elim] theorem of_len0 {α : Type} {p : List α → Prop} {us : List α} (hl : us.length = 0) (h : p []) : p us := by
  cases us with
  | nil => exact h
  | cons a r => cases hl
@[elab_as_elim] theorem of_len1 {α : Type} {p : List α → Prop} {us : List α} (hl : us.length = 1) (h : ∀ x0, p [x0]) : p us := by
  cases us with
  | nil => cases hl
  | cons a r => exact of_len0 (p := fun r => p (a :: r)) (Nat.succ.inj hl) (h a)
@[elab_as_elim] theorem of_len2 {α : Type} {p : List α → Prop} {us : List α} (hl : us.length = 2) (h : ∀ x0 x1, p [x0, x1]) : p us := by
  cases us with
  | nil => cases hl
  | cons a r => exact of_len1 (p := fun r => p (a :: r)) (Nat.succ.inj hl) (h a)
@[elab_as_elim] theorem of_len3 {α : Type} {p : List α → Prop} {us : List α} (hl : us.length = 3) (h : ∀ x0 x1 x2, p [x0, x1, x2]) : p us := by
  cases us with
  | nil => cases hl
  | cons a r => exact of_len2 (p := fun r => p (a :: r)) (Nat.succ.inj hl) (h a)
theorem tx_mk {K : PySem.W.Frag} {h : Heap} {mg : Str → Option Value} (X : K.In h) (G : h.Ns mainGlobals mg)
    {f0 : Addr} {od0 an0 : Option Addr} {sl0 : Array (Option Value)} {oc0 kV0 dc0 pm0 cd0 ct0 : Value}
    {f1 : Addr} {od1 an1 : Option Addr} {sl1 : Array (Option Value)} {oc1 kV1 dc1 pm1 cd1 ct1 : Value}
    {f2 : Addr} {od2 an2 : Option Addr} {sl2 : Array (Option Value)} {oc2 kV2 dc2 pm2 cd2 ct2 : Value}
    {f3 : Addr} {od3 an3 : Option Addr} {sl3 : Array (Option Value)} {oc3 kV3 dc3 pm3 cd3 ct3 : Value}
    {f4 : Addr} {od4 an4 : Option Addr} {sl4 : Array (Option Value)} {oc4 kV4 dc4 pm4 cd4 ct4 : Value}
    {f5 : Addr} {od5 an5 : Option Addr} {sl5 : Array (Option Value)} {oc5 kV5 dc5 pm5 cd5 ct5 : Value}
    {f6 : Addr} {od6 an6 : Option Addr} {sl6 : Array (Option Value)} {oc6 kV6 dc6 pm6 cd6 ct6 : Value}
    {f7 : Addr} {od7 an7 : Option Addr} {sl7 : Array (Option Value)} {oc7 kV7 dc7 pm7 cd7 ct7 : Value}
    {f8 : Addr} {od8 an8 : Option Addr} {sl8 : Array (Option Value)} {oc8 kV8 dc8 pm8 cd8 ct8 : Value}
    {f9 : Addr} {od9 an9 : Option Addr} {sl9 : Array (Option Value)} {oc9 kV9 dc9 pm9 cd9 ct9 : Value}
    {f10 : Addr} {od10 an10 : Option Addr} {sl10 : Array (Option Value)} {oc10 kV10 dc10 pm10 cd10 ct10 : Value}
    {f11 : Addr} {od11 an11 : Option Addr} {sl11 : Array (Option Value)} {oc11 kV11 dc11 pm11 cd11 ct11 : Value}
    {f12 : Addr} {od12 an12 : Option Addr} {sl12 : Array (Option Value)} {oc12 kV12 dc12 pm12 cd12 ct12 : Value}
    {f13 : Addr} {od13 an13 : Option Addr} {sl13 : Array (Option Value)} {oc13 kV13 dc13 pm13 cd13 ct13 : Value}
    {f14 : Addr} {od14 an14 : Option Addr} {sl14 : Array (Option Value)} {oc14 kV14 dc14 pm14 cd14 ct14 : Value}
    {f15 : Addr} {od15 an15 : Option Addr} {sl15 : Array (Option Value)} {oc15 kV15 dc15 pm15 cd15 ct15 : Value}
    {f16 : Addr} {od16 an16 : Option Addr} {sl16 : Array (Option Value)} {oc16 kV16 dc16 pm16 cd16 ct16 : Value}
    {f17 : Addr} {od17 an17 : Option Addr} {sl17 : Array (Option Value)} {oc17 kV17 dc17 pm17 cd17 ct17 : Value}
    {f18 : Addr} {od18 an18 : Option Addr} {sl18 : Array (Option Value)} {oc18 kV18 dc18 pm18 cd18 ct18 : Value}
    {f19 : Addr} {od19 an19 : Option Addr} {sl19 : Array (Option Value)} {oc19 kV19 dc19 pm19 cd19 ct19 : Value}
    {f20 : Addr} {od20 an20 : Option Addr} {sl20 : Array (Option Value)} {oc20 kV20 dc20 pm20 cd20 ct20 : Value}
    {f21 : Addr} {od21 an21 : Option Addr} {sl21 : Array (Option Value)} {oc21 kV21 dc21 pm21 cd21 ct21 : Value}
    {f22 : Addr} {od22 an22 : Option Addr} {sl22 : Array (Option Value)} {oc22 kV22 dc22 pm22 cd22 ct22 : Value}
    {f23 : Addr} {od23 an23 : Option Addr} {sl23 : Array (Option Value)} {oc23 kV23 dc23 pm23 cd23 ct23 : Value}
    {f24 : Addr} {od24 an24 : Option Addr} {sl24 : Array (Option Value)} {oc24 kV24 dc24 pm24 cd24 ct24 : Value}
    {f25 : Addr} {od25 an25 : Option Addr} {sl25 : Array (Option Value)} {oc25 kV25 dc25 pm25 cd25 ct25 : Value}
    {f26 : Addr} {od26 an26 : Option Addr} {sl26 : Array (Option Value)} {oc26 kV26 dc26 pm26 cd26 ct26 : Value}
    {f27 : Addr} {od27 an27 : Option Addr} {sl27 : Array (Option Value)} {oc27 kV27 dc27 pm27 cd27 ct27 : Value}
    {f28 : Addr} {od28 an28 : Option Addr} {sl28 : Array (Option Value)} {oc28 kV28 dc28 pm28 cd28 ct28 : Value}
    {f29 : Addr} {od29 an29 : Option Addr} {sl29 : Array (Option Value)} {oc29 kV29 dc29 pm29 cd29 ct29 : Value}
    {C_HandError : Addr} {cdx0 : ClassData}
    {C_BadKind : Addr} {cdx1 : ClassData}
    {C_BadValue : Addr} {cdx2 : ClassData}
    {tk0 : Tok}
    {tk1 : Tok}
    {tk2 : Tok}
    {tk3 : Tok}
    {tk4 : Tok}
    {tk5 : Tok}
    {tk6 : Tok}
    {tk7 : Tok}
    {tk8 : Tok}
    {da9 : Addr}
    (a0 : PySem.W.nsIn K mainGlobals "is_name" = some (some (.ref f0))) (l0 : K.lookup f0 = some ⟨oc0, od0, .func (PySem.W.fnOf "is_name" "is_name" (defArgs s_is_name) (defBody s_is_name) (defScope s_is_name) .none kV0 dc0 pm0 an0 cd0 ct0), sl0⟩) (c0 : PySem.W.codeIn K cd0 "is_name" = true) (k0 : PySem.W.keepIn K (.ref f0) = true)
    (a1 : PySem.W.nsIn K mainGlobals "is_whole" = some (some (.ref f1))) (l1 : K.lookup f1 = some ⟨oc1, od1, .func (PySem.W.fnOf "is_whole" "is_whole" (defArgs s_is_whole) (defBody s_is_whole) (defScope s_is_whole) .none kV1 dc1 pm1 an1 cd1 ct1), sl1⟩) (c1 : PySem.W.codeIn K cd1 "is_whole" = true) (k1 : PySem.W.keepIn K (.ref f1) = true)
    (a2 : PySem.W.nsIn K mainGlobals "is_whole_within" = some (some (.ref f2))) (l2 : K.lookup f2 = some ⟨oc2, od2, .func (PySem.W.fnOf "is_whole_within" "is_whole_within" (defArgs s_is_whole_within) (defBody s_is_whole_within) (defScope s_is_whole_within) .none kV2 dc2 pm2 an2 cd2 ct2), sl2⟩) (c2 : PySem.W.codeIn K cd2 "is_whole_within" = true) (k2 : PySem.W.keepIn K (.ref f2) = true)
    (a3 : PySem.W.nsIn K mainGlobals "made_kind" = some (some (.ref f3))) (l3 : K.lookup f3 = some ⟨oc3, od3, .func (PySem.W.fnOf "made_kind" "made_kind" (defArgs s_made_kind) (defBody s_made_kind) (defScope s_made_kind) .none kV3 dc3 pm3 an3 cd3 ct3), sl3⟩) (c3 : PySem.W.codeIn K cd3 "made_kind" = true) (k3 : PySem.W.keepIn K (.ref f3) = true)
    (a4 : PySem.W.nsIn K mainGlobals "is_formed" = some (some (.ref f4))) (l4 : K.lookup f4 = some ⟨oc4, od4, .func (PySem.W.fnOf "is_formed" "is_formed" (defArgs s_is_formed) (defBody s_is_formed) (defScope s_is_formed) .none kV4 dc4 pm4 an4 cd4 ct4), sl4⟩) (c4 : PySem.W.codeIn K cd4 "is_formed" = true) (k4 : PySem.W.keepIn K (.ref f4) = true)
    (a5 : PySem.W.nsIn K mainGlobals "has_parts" = some (some (.ref f5))) (l5 : K.lookup f5 = some ⟨oc5, od5, .func (PySem.W.fnOf "has_parts" "has_parts" (defArgs s_has_parts) (defBody s_has_parts) (defScope s_has_parts) .none kV5 dc5 pm5 an5 cd5 ct5), sl5⟩) (c5 : PySem.W.codeIn K cd5 "has_parts" = true) (k5 : PySem.W.keepIn K (.ref f5) = true)
    (a6 : PySem.W.nsIn K mainGlobals "are_bounds" = some (some (.ref f6))) (l6 : K.lookup f6 = some ⟨oc6, od6, .func (PySem.W.fnOf "are_bounds" "are_bounds" (defArgs s_are_bounds) (defBody s_are_bounds) (defScope s_are_bounds) .none kV6 dc6 pm6 an6 cd6 ct6), sl6⟩) (c6 : PySem.W.codeIn K cd6 "are_bounds" = true) (k6 : PySem.W.keepIn K (.ref f6) = true)
    (a7 : PySem.W.nsIn K mainGlobals "are_words" = some (some (.ref f7))) (l7 : K.lookup f7 = some ⟨oc7, od7, .func (PySem.W.fnOf "are_words" "are_words" (defArgs s_are_words) (defBody s_are_words) (defScope s_are_words) .none kV7 dc7 pm7 an7 cd7 ct7), sl7⟩) (c7 : PySem.W.codeIn K cd7 "are_words" = true) (k7 : PySem.W.keepIn K (.ref f7) = true)
    (a8 : PySem.W.nsIn K mainGlobals "are_fields" = some (some (.ref f8))) (l8 : K.lookup f8 = some ⟨oc8, od8, .func (PySem.W.fnOf "are_fields" "are_fields" (defArgs s_are_fields) (defBody s_are_fields) (defScope s_are_fields) .none kV8 dc8 pm8 an8 cd8 ct8), sl8⟩) (c8 : PySem.W.codeIn K cd8 "are_fields" = true) (k8 : PySem.W.keepIn K (.ref f8) = true)
    (a9 : PySem.W.nsIn K mainGlobals "is_field" = some (some (.ref f9))) (l9 : K.lookup f9 = some ⟨oc9, od9, .func (PySem.W.fnOf "is_field" "is_field" (defArgs s_is_field) (defBody s_is_field) (defScope s_is_field) .none kV9 dc9 pm9 an9 cd9 ct9), sl9⟩) (c9 : PySem.W.codeIn K cd9 "is_field" = true) (k9 : PySem.W.keepIn K (.ref f9) = true)
    (a10 : PySem.W.nsIn K mainGlobals "are_rows" = some (some (.ref f10))) (l10 : K.lookup f10 = some ⟨oc10, od10, .func (PySem.W.fnOf "are_rows" "are_rows" (defArgs s_are_rows) (defBody s_are_rows) (defScope s_are_rows) .none kV10 dc10 pm10 an10 cd10 ct10), sl10⟩) (c10 : PySem.W.codeIn K cd10 "are_rows" = true) (k10 : PySem.W.keepIn K (.ref f10) = true)
    (a11 : PySem.W.nsIn K mainGlobals "field_kind" = some (some (.ref f11))) (l11 : K.lookup f11 = some ⟨oc11, od11, .func (PySem.W.fnOf "field_kind" "field_kind" (defArgs s_field_kind) (defBody s_field_kind) (defScope s_field_kind) .none kV11 dc11 pm11 an11 cd11 ct11), sl11⟩) (c11 : PySem.W.codeIn K cd11 "field_kind" = true) (k11 : PySem.W.keepIn K (.ref f11) = true)
    (a12 : PySem.W.nsIn K mainGlobals "item_kind" = some (some (.ref f12))) (l12 : K.lookup f12 = some ⟨oc12, od12, .func (PySem.W.fnOf "item_kind" "item_kind" (defArgs s_item_kind) (defBody s_item_kind) (defScope s_item_kind) .none kV12 dc12 pm12 an12 cd12 ct12), sl12⟩) (c12 : PySem.W.codeIn K cd12 "item_kind" = true) (k12 : PySem.W.keepIn K (.ref f12) = true)
    (a13 : PySem.W.nsIn K mainGlobals "kinds_within" = some (some (.ref f13))) (l13 : K.lookup f13 = some ⟨oc13, od13, .func (PySem.W.fnOf "kinds_within" "kinds_within" (defArgs s_kinds_within) (defBody s_kinds_within) (defScope s_kinds_within) .none kV13 dc13 pm13 an13 cd13 ct13), sl13⟩) (c13 : PySem.W.codeIn K cd13 "kinds_within" = true) (k13 : PySem.W.keepIn K (.ref f13) = true)
    (a14 : PySem.W.nsIn K mainGlobals "kind_many" = some (some (.ref f14))) (l14 : K.lookup f14 = some ⟨oc14, od14, .func (PySem.W.fnOf "kind_many" "kind_many" (defArgs s_kind_many) (defBody s_kind_many) (defScope s_kind_many) .none kV14 dc14 pm14 an14 cd14 ct14), sl14⟩) (c14 : PySem.W.codeIn K cd14 "kind_many" = true) (k14 : PySem.W.keepIn K (.ref f14) = true)
    (a15 : PySem.W.nsIn K mainGlobals "_law_cell_at" = some (some (.ref f15))) (l15 : K.lookup f15 = some ⟨oc15, od15, .func (PySem.W.fnOf "_law_cell_at" "_law_cell_at" (defArgs s_law_cell_at) (defBody s_law_cell_at) (defScope s_law_cell_at) .none kV15 dc15 pm15 an15 cd15 ct15), sl15⟩) (c15 : PySem.W.codeIn K cd15 "_law_cell_at" = true) (k15 : PySem.W.keepIn K (.ref f15) = true)
    (a16 : PySem.W.nsIn K mainGlobals "_law_mixed" = some (some (.ref f16))) (l16 : K.lookup f16 = some ⟨oc16, od16, .func (PySem.W.fnOf "_law_mixed" "_law_mixed" (defArgs s_law_mixed) (defBody s_law_mixed) (defScope s_law_mixed) .none kV16 dc16 pm16 an16 cd16 ct16), sl16⟩) (c16 : PySem.W.codeIn K cd16 "_law_mixed" = true) (k16 : PySem.W.keepIn K (.ref f16) = true)
    (a17 : PySem.W.nsIn K mainGlobals "_law_own" = some (some (.ref f17))) (l17 : K.lookup f17 = some ⟨oc17, od17, .func (PySem.W.fnOf "_law_own" "_law_own" (defArgs s_law_own) (defBody s_law_own) (defScope s_law_own) .none kV17 dc17 pm17 an17 cd17 ct17), sl17⟩) (c17 : PySem.W.codeIn K cd17 "_law_own" = true) (k17 : PySem.W.keepIn K (.ref f17) = true)
    (a18 : PySem.W.nsIn K mainGlobals "_law_digit" = some (some (.ref f18))) (l18 : K.lookup f18 = some ⟨oc18, od18, .func (PySem.W.fnOf "_law_digit" "_law_digit" (defArgs s_law_digit) (defBody s_law_digit) (defScope s_law_digit) .none kV18 dc18 pm18 an18 cd18 ct18), sl18⟩) (c18 : PySem.W.codeIn K cd18 "_law_digit" = true) (k18 : PySem.W.keepIn K (.ref f18) = true)
    (a19 : PySem.W.nsIn K mainGlobals "_law_names" = some (some (.ref f19))) (l19 : K.lookup f19 = some ⟨oc19, od19, .func (PySem.W.fnOf "_law_names" "_law_names" (defArgs s_law_names) (defBody s_law_names) (defScope s_law_names) .none kV19 dc19 pm19 an19 cd19 ct19), sl19⟩) (c19 : PySem.W.codeIn K cd19 "_law_names" = true) (k19 : PySem.W.keepIn K (.ref f19) = true)
    (a20 : PySem.W.nsIn K mainGlobals "_law_number_kind" = some (some (.ref f20))) (l20 : K.lookup f20 = some ⟨oc20, od20, .func (PySem.W.fnOf "_law_number_kind" "_law_number_kind" (defArgs s_law_number_kind) (defBody s_law_number_kind) (defScope s_law_number_kind) .none kV20 dc20 pm20 an20 cd20 ct20), sl20⟩) (c20 : PySem.W.codeIn K cd20 "_law_number_kind" = true) (k20 : PySem.W.keepIn K (.ref f20) = true)
    (a21 : PySem.W.nsIn K mainGlobals "_law_leaf_kind" = some (some (.ref f21))) (l21 : K.lookup f21 = some ⟨oc21, od21, .func (PySem.W.fnOf "_law_leaf_kind" "_law_leaf_kind" (defArgs s_law_leaf_kind) (defBody s_law_leaf_kind) (defScope s_law_leaf_kind) .none kV21 dc21 pm21 an21 cd21 ct21), sl21⟩) (c21 : PySem.W.codeIn K cd21 "_law_leaf_kind" = true) (k21 : PySem.W.keepIn K (.ref f21) = true)
    (a22 : PySem.W.nsIn K mainGlobals "_law_record_kind" = some (some (.ref f22))) (l22 : K.lookup f22 = some ⟨oc22, od22, .func (PySem.W.fnOf "_law_record_kind" "_law_record_kind" (defArgs s_law_record_kind) (defBody s_law_record_kind) (defScope s_law_record_kind) .none kV22 dc22 pm22 an22 cd22 ct22), sl22⟩) (c22 : PySem.W.codeIn K cd22 "_law_record_kind" = true) (k22 : PySem.W.keepIn K (.ref f22) = true)
    (a23 : PySem.W.nsIn K mainGlobals "_law_rows_kind" = some (some (.ref f23))) (l23 : K.lookup f23 = some ⟨oc23, od23, .func (PySem.W.fnOf "_law_rows_kind" "_law_rows_kind" (defArgs s_law_rows_kind) (defBody s_law_rows_kind) (defScope s_law_rows_kind) .none kV23 dc23 pm23 an23 cd23 ct23), sl23⟩) (c23 : PySem.W.codeIn K cd23 "_law_rows_kind" = true) (k23 : PySem.W.keepIn K (.ref f23) = true)
    (a24 : PySem.W.nsIn K mainGlobals "_law_kind" = some (some (.ref f24))) (l24 : K.lookup f24 = some ⟨oc24, od24, .func (PySem.W.fnOf "_law_kind" "_law_kind" (defArgs s_law_kind) (defBody s_law_kind) (defScope s_law_kind) .none kV24 dc24 pm24 an24 cd24 ct24), sl24⟩) (c24 : PySem.W.codeIn K cd24 "_law_kind" = true) (k24 : PySem.W.keepIn K (.ref f24) = true)
    (a25 : PySem.W.nsIn K mainGlobals "_law_odd" = some (some (.ref f25))) (l25 : K.lookup f25 = some ⟨oc25, od25, .func (PySem.W.fnOf "_law_odd" "_law_odd" (defArgs s_law_odd) (defBody s_law_odd) (defScope s_law_odd) .none kV25 dc25 pm25 an25 cd25 ct25), sl25⟩) (c25 : PySem.W.codeIn K cd25 "_law_odd" = true) (k25 : PySem.W.keepIn K (.ref f25) = true)
    (a26 : PySem.W.nsIn K mainGlobals "_law_spoilt" = some (some (.ref f26))) (l26 : K.lookup f26 = some ⟨oc26, od26, .func (PySem.W.fnOf "_law_spoilt" "_law_spoilt" (defArgs s_law_spoilt) (defBody s_law_spoilt) (defScope s_law_spoilt) .none kV26 dc26 pm26 an26 cd26 ct26), sl26⟩) (c26 : PySem.W.codeIn K cd26 "_law_spoilt" = true) (k26 : PySem.W.keepIn K (.ref f26) = true)
    (a27 : PySem.W.nsIn K mainGlobals "_law_refused" = some (some (.ref f27))) (l27 : K.lookup f27 = some ⟨oc27, od27, .func (PySem.W.fnOf "_law_refused" "_law_refused" (defArgs s_law_refused) (defBody s_law_refused) (defScope s_law_refused) .none kV27 dc27 pm27 an27 cd27 ct27), sl27⟩) (c27 : PySem.W.codeIn K cd27 "_law_refused" = true) (k27 : PySem.W.keepIn K (.ref f27) = true)
    (a28 : PySem.W.nsIn K mainGlobals "_law_great" = some (some (.ref f28))) (l28 : K.lookup f28 = some ⟨oc28, od28, .func (PySem.W.fnOf "_law_great" "_law_great" (defArgs s_law_great) (defBody s_law_great) (defScope s_law_great) .none kV28 dc28 pm28 an28 cd28 ct28), sl28⟩) (c28 : PySem.W.codeIn K cd28 "_law_great" = true) (k28 : PySem.W.keepIn K (.ref f28) = true)
    (a29 : PySem.W.nsIn K mainGlobals "law" = some (some (.ref f29))) (l29 : K.lookup f29 = some ⟨oc29, od29, .func (PySem.W.fnOf "law" "law" (defArgs s_law) (defBody s_law) (defScope s_law) .none kV29 dc29 pm29 an29 cd29 ct29), sl29⟩) (c29 : PySem.W.codeIn K cd29 "law" = true) (k29 : PySem.W.keepIn K (.ref f29) = true)
    (xa0 : PySem.W.nsIn K mainGlobals "HandError" = some (some (.ref C_HandError))) (xq0 : PySem.W.excIn K C_HandError bmV "ValueError.__new__" = true) (xg0 : PySem.W.findIn K (.ref C_HandError) "__getattribute__" = some (some (.builtin "BaseException.__getattribute__"))) (xt0 : PySem.W.findIn K (.ref C_HandError) "__getattr__" = some none) (xc0 : PySem.W.findIn K (.ref C_HandError) "__class__" = some (some (.builtin "object.__class__"))) (xb0 : PySem.W.mroIn K C_HandError (.type "BaseException") = some true) (xo0 : PySem.W.mroIn K C_HandError (.type "object") = some true) (xd0 : PySem.W.clsIn K C_HandError = some cdx0) (xk0 : PySem.W.keepIn K (.ref C_HandError) = true)
    (xa1 : PySem.W.nsIn K mainGlobals "BadKind" = some (some (.ref C_BadKind))) (xq1 : PySem.W.excIn K C_BadKind bmV "ValueError.__new__" = true) (xg1 : PySem.W.findIn K (.ref C_BadKind) "__getattribute__" = some (some (.builtin "BaseException.__getattribute__"))) (xt1 : PySem.W.findIn K (.ref C_BadKind) "__getattr__" = some none) (xc1 : PySem.W.findIn K (.ref C_BadKind) "__class__" = some (some (.builtin "object.__class__"))) (xb1 : PySem.W.mroIn K C_BadKind (.type "BaseException") = some true) (xo1 : PySem.W.mroIn K C_BadKind (.type "object") = some true) (xd1 : PySem.W.clsIn K C_BadKind = some cdx1) (xk1 : PySem.W.keepIn K (.ref C_BadKind) = true)
    (xa2 : PySem.W.nsIn K mainGlobals "BadValue" = some (some (.ref C_BadValue))) (xq2 : PySem.W.excIn K C_BadValue bmV "ValueError.__new__" = true) (xg2 : PySem.W.findIn K (.ref C_BadValue) "__getattribute__" = some (some (.builtin "BaseException.__getattribute__"))) (xt2 : PySem.W.findIn K (.ref C_BadValue) "__getattr__" = some none) (xc2 : PySem.W.findIn K (.ref C_BadValue) "__class__" = some (some (.builtin "object.__class__"))) (xb2 : PySem.W.mroIn K C_BadValue (.type "BaseException") = some true) (xo2 : PySem.W.mroIn K C_BadValue (.type "object") = some true) (xd2 : PySem.W.clsIn K C_BadValue = some cdx2) (xk2 : PySem.W.keepIn K (.ref C_BadValue) = true)
    (g0 : PySem.W.nsIn K mainGlobals "LETTERS" = some (some (.str "abcdefghijklmnopqrstuvwxyz" tk0)))
    (g1 : PySem.W.nsIn K mainGlobals "LONGEST_NAME" = some (some (.int 8 tk1)))
    (g2 : PySem.W.nsIn K mainGlobals "EACH" = some (some (.str "each" tk2)))
    (g3 : PySem.W.nsIn K mainGlobals "MOST_SIGNS" = some (some (.int 60 tk3)))
    (g4 : PySem.W.nsIn K mainGlobals "MOST_WORDS" = some (some (.int 8 tk4)))
    (g5 : PySem.W.nsIn K mainGlobals "MOST_FIELDS" = some (some (.int 8 tk5)))
    (g6 : PySem.W.nsIn K mainGlobals "MOST_ITEMS" = some (some (.int 8 tk6)))
    (g7 : PySem.W.nsIn K mainGlobals "MOST_KINDS" = some (some (.int 40 tk7)))
    (g8 : PySem.W.nsIn K mainGlobals "DEEPEST" = some (some (.int 5 tk8)))
    (g9 : PySem.W.nsIn K mainGlobals "PART_COUNTS" = some (some (.ref da9))) (gd9 : KTD.tabLook (KTD.datLooks fun b => K.lookup b) (fun b => K.lookup b) da9 (kdat [("number", 3), ("text", 2), ("choice", 2), ("list", 3), ("record", 2), ("rows", 4)]) = true)
    (z0 : PySem.W.nsIn K mainGlobals "ValueError" = some none)
    (z1 : PySem.W.nsIn K mainGlobals "all" = some none)
    (z2 : PySem.W.nsIn K mainGlobals "bool" = some none)
    (z3 : PySem.W.nsIn K mainGlobals "int" = some none)
    (z4 : PySem.W.nsIn K mainGlobals "isinstance" = some none)
    (z5 : PySem.W.nsIn K mainGlobals "len" = some none)
    (z6 : PySem.W.nsIn K mainGlobals "list" = some none)
    (z7 : PySem.W.nsIn K mainGlobals "min" = some none)
    (z8 : PySem.W.nsIn K mainGlobals "range" = some none)
    (z9 : PySem.W.nsIn K mainGlobals "set" = some none)
    (z10 : PySem.W.nsIn K mainGlobals "sorted" = some none)
    (z11 : PySem.W.nsIn K mainGlobals "str" = some none)
    (z12 : PySem.W.nsIn K mainGlobals "sum" = some none)
    (z13 : PySem.W.nsIn K mainGlobals "tuple" = some none)
    (z14 : PySem.W.nsIn K mainGlobals "zip" = some none)
    (q0 : (PySem.W.kitOne K (.ref C_BadKind) (.ref C_BadKind) == some true && PySem.W.kitOne K (.ref C_BadKind) (.type "ValueError") == some true && PySem.W.kitOne K (.ref C_BadKind) (.ref C_BadValue) == some false) = true)
    (q1 : PySem.W.exmOne K (.ref C_BadKind) (.ref C_HandError) = some true) : Tx K mg ⟨C_HandError, C_BadKind, C_BadValue⟩ :=
  ⟨⟨f0, _, fun_mk (st := s_is_name) l0 c0 k0, (fun_mk (st := s_is_name) l0 c0 k0).binds (ps := ["text"]) fun _ _ _ _ _ _ us hl => of_len1 hl fun _ => rfl, PySem.W.mg_of X G a0⟩,
    ⟨f1, _, fun_mk (st := s_is_whole) l1 c1 k1, (fun_mk (st := s_is_whole) l1 c1 k1).binds (ps := ["thing"]) fun _ _ _ _ _ _ us hl => of_len1 hl fun _ => rfl, PySem.W.mg_of X G a1⟩,
    ⟨f2, _, fun_mk (st := s_is_whole_within) l2 c2 k2, (fun_mk (st := s_is_whole_within) l2 c2 k2).binds (ps := ["thing", "low", "high"]) fun _ _ _ _ _ _ us hl => of_len3 hl fun _ _ _ => rfl, PySem.W.mg_of X G a2⟩,
    ⟨f3, _, fun_mk (st := s_made_kind) l3 c3 k3, (fun_mk (st := s_made_kind) l3 c3 k3).binds (ps := ["kind"]) fun _ _ _ _ _ _ us hl => of_len1 hl fun _ => rfl, PySem.W.mg_of X G a3⟩,
    ⟨f4, _, fun_mk (st := s_is_formed) l4 c4 k4, (fun_mk (st := s_is_formed) l4 c4 k4).binds (ps := ["thing", "room"]) fun _ _ _ _ _ _ us hl => of_len2 hl fun _ _ => rfl, PySem.W.mg_of X G a4⟩,
    ⟨f5, _, fun_mk (st := s_has_parts) l5 c5 k5, (fun_mk (st := s_has_parts) l5 c5 k5).binds (ps := ["thing"]) fun _ _ _ _ _ _ us hl => of_len1 hl fun _ => rfl, PySem.W.mg_of X G a5⟩,
    ⟨f6, _, fun_mk (st := s_are_bounds) l6 c6 k6, (fun_mk (st := s_are_bounds) l6 c6 k6).binds (ps := ["low", "high"]) fun _ _ _ _ _ _ us hl => of_len2 hl fun _ _ => rfl, PySem.W.mg_of X G a6⟩,
    ⟨f7, _, fun_mk (st := s_are_words) l7 c7 k7, (fun_mk (st := s_are_words) l7 c7 k7).binds (ps := ["words"]) fun _ _ _ _ _ _ us hl => of_len1 hl fun _ => rfl, PySem.W.mg_of X G a7⟩,
    ⟨f8, _, fun_mk (st := s_are_fields) l8 c8 k8, (fun_mk (st := s_are_fields) l8 c8 k8).binds (ps := ["fields", "room"]) fun _ _ _ _ _ _ us hl => of_len2 hl fun _ _ => rfl, PySem.W.mg_of X G a8⟩,
    ⟨f9, _, fun_mk (st := s_is_field) l9 c9 k9, (fun_mk (st := s_is_field) l9 c9 k9).binds (ps := ["field", "room"]) fun _ _ _ _ _ _ us hl => of_len2 hl fun _ _ => rfl, PySem.W.mg_of X G a9⟩,
    ⟨f10, _, fun_mk (st := s_are_rows) l10 c10 k10, (fun_mk (st := s_are_rows) l10 c10 k10).binds (ps := ["key", "items", "room"]) fun _ _ _ _ _ _ us hl => of_len3 hl fun _ _ _ => rfl, PySem.W.mg_of X G a10⟩,
    ⟨f11, _, fun_mk (st := s_field_kind) l11 c11 k11, (fun_mk (st := s_field_kind) l11 c11 k11).binds (ps := ["kind", "name"]) fun _ _ _ _ _ _ us hl => of_len2 hl fun _ _ => rfl, PySem.W.mg_of X G a11⟩,
    ⟨f12, _, fun_mk (st := s_item_kind) l12 c12 k12, (fun_mk (st := s_item_kind) l12 c12 k12).binds (ps := ["kind"]) fun _ _ _ _ _ _ us hl => of_len1 hl fun _ => rfl, PySem.W.mg_of X G a12⟩,
    ⟨f13, _, fun_mk (st := s_kinds_within) l13 c13 k13, (fun_mk (st := s_kinds_within) l13 c13 k13).binds (ps := ["kind"]) fun _ _ _ _ _ _ us hl => of_len1 hl fun _ => rfl, PySem.W.mg_of X G a13⟩,
    ⟨f14, _, fun_mk (st := s_kind_many) l14 c14 k14, (fun_mk (st := s_kind_many) l14 c14 k14).binds (ps := ["kind"]) fun _ _ _ _ _ _ us hl => of_len1 hl fun _ => rfl, PySem.W.mg_of X G a14⟩,
    ⟨f15, _, fun_mk (st := s_law_cell_at) l15 c15 k15, (fun_mk (st := s_law_cell_at) l15 c15 k15).binds (ps := ["script", "k"]) fun _ _ _ _ _ _ us hl => of_len2 hl fun _ _ => rfl, PySem.W.mg_of X G a15⟩,
    ⟨f16, _, fun_mk (st := s_law_mixed) l16 c16 k16, (fun_mk (st := s_law_mixed) l16 c16 k16).binds (ps := ["cell", "k"]) fun _ _ _ _ _ _ us hl => of_len2 hl fun _ _ => rfl, PySem.W.mg_of X G a16⟩,
    ⟨f17, _, fun_mk (st := s_law_own) l17 c17 k17, (fun_mk (st := s_law_own) l17 c17 k17).binds (ps := ["script", "k"]) fun _ _ _ _ _ _ us hl => of_len2 hl fun _ _ => rfl, PySem.W.mg_of X G a17⟩,
    ⟨f18, _, fun_mk (st := s_law_digit) l18 c18 k18, (fun_mk (st := s_law_digit) l18 c18 k18).binds (ps := ["row", "many"]) fun _ _ _ _ _ _ us hl => of_len2 hl fun _ _ => rfl, PySem.W.mg_of X G a18⟩,
    ⟨f19, _, fun_mk (st := s_law_names) l19 c19 k19, (fun_mk (st := s_law_names) l19 c19 k19).binds (ps := ["row", "many"]) fun _ _ _ _ _ _ us hl => of_len2 hl fun _ _ => rfl, PySem.W.mg_of X G a19⟩,
    ⟨f20, _, fun_mk (st := s_law_number_kind) l20 c20 k20, (fun_mk (st := s_law_number_kind) l20 c20 k20).binds (ps := ["row"]) fun _ _ _ _ _ _ us hl => of_len1 hl fun _ => rfl, PySem.W.mg_of X G a20⟩,
    ⟨f21, _, fun_mk (st := s_law_leaf_kind) l21 c21 k21, (fun_mk (st := s_law_leaf_kind) l21 c21 k21).binds (ps := ["row"]) fun _ _ _ _ _ _ us hl => of_len1 hl fun _ => rfl, PySem.W.mg_of X G a21⟩,
    ⟨f22, _, fun_mk (st := s_law_record_kind) l22 c22 k22, (fun_mk (st := s_law_record_kind) l22 c22 k22).binds (ps := ["row", "deep", "room"]) fun _ _ _ _ _ _ us hl => of_len3 hl fun _ _ _ => rfl, PySem.W.mg_of X G a22⟩,
    ⟨f23, _, fun_mk (st := s_law_rows_kind) l23 c23 k23, (fun_mk (st := s_law_rows_kind) l23 c23 k23).binds (ps := ["row", "deep", "room"]) fun _ _ _ _ _ _ us hl => of_len3 hl fun _ _ _ => rfl, PySem.W.mg_of X G a23⟩,
    ⟨f24, _, fun_mk (st := s_law_kind) l24 c24 k24, (fun_mk (st := s_law_kind) l24 c24 k24).binds (ps := ["row", "deep", "room"]) fun _ _ _ _ _ _ us hl => of_len3 hl fun _ _ _ => rfl, PySem.W.mg_of X G a24⟩,
    ⟨f25, _, fun_mk (st := s_law_odd) l25 c25 k25, (fun_mk (st := s_law_odd) l25 c25 k25).binds (ps := ["row"]) fun _ _ _ _ _ _ us hl => of_len1 hl fun _ => rfl, PySem.W.mg_of X G a25⟩,
    ⟨f26, _, fun_mk (st := s_law_spoilt) l26 c26 k26, (fun_mk (st := s_law_spoilt) l26 c26 k26).binds (ps := ["kind", "row", "odd"]) fun _ _ _ _ _ _ us hl => of_len3 hl fun _ _ _ => rfl, PySem.W.mg_of X G a26⟩,
    ⟨f27, _, fun_mk (st := s_law_refused) l27 c27 k27, (fun_mk (st := s_law_refused) l27 c27 k27).binds (ps := ["kind"]) fun _ _ _ _ _ _ us hl => of_len1 hl fun _ => rfl, PySem.W.mg_of X G a27⟩,
    ⟨f28, _, fun_mk (st := s_law_great) l28 c28 k28, (fun_mk (st := s_law_great) l28 c28 k28).binds (ps := ["row"]) fun _ _ _ _ _ _ us hl => of_len1 hl fun _ => rfl, PySem.W.mg_of X G a28⟩,
    ⟨f29, _, fun_mk (st := s_law) l29 c29 k29, (fun_mk (st := s_law) l29 c29 k29).binds (ps := ["script"]) fun _ _ _ _ _ _ us hl => of_len1 hl fun _ => rfl, PySem.W.mg_of X G a29⟩,
    ⟨PySem.W.mg_of X G xa0, xq0, ⟨xg0, xt0, xc0, xb0, xo0, _, xd0⟩, xk0⟩,
    ⟨PySem.W.mg_of X G xa1, xq1, ⟨xg1, xt1, xc1, xb1, xo1, _, xd1⟩, xk1⟩,
    ⟨PySem.W.mg_of X G xa2, xq2, ⟨xg2, xt2, xc2, xb2, xo2, _, xd2⟩, xk2⟩,
    ⟨_, PySem.W.mg_of X G g0⟩,
    ⟨_, PySem.W.mg_of X G g1⟩,
    ⟨_, PySem.W.mg_of X G g2⟩,
    ⟨_, PySem.W.mg_of X G g3⟩,
    ⟨_, PySem.W.mg_of X G g4⟩,
    ⟨_, PySem.W.mg_of X G g5⟩,
    ⟨_, PySem.W.mg_of X G g6⟩,
    ⟨_, PySem.W.mg_of X G g7⟩,
    ⟨_, PySem.W.mg_of X G g8⟩,
    ⟨_, PySem.W.mg_of X G g9, kdict_of gd9⟩,
    PySem.W.mg_none_of X G z0,
    PySem.W.mg_none_of X G z1,
    PySem.W.mg_none_of X G z2,
    PySem.W.mg_none_of X G z3,
    PySem.W.mg_none_of X G z4,
    PySem.W.mg_none_of X G z5,
    PySem.W.mg_none_of X G z6,
    PySem.W.mg_none_of X G z7,
    PySem.W.mg_none_of X G z8,
    PySem.W.mg_none_of X G z9,
    PySem.W.mg_none_of X G z10,
    PySem.W.mg_none_of X G z11,
    PySem.W.mg_none_of X G z12,
    PySem.W.mg_none_of X G z13,
    PySem.W.mg_none_of X G z14,
    q0,
    q1⟩
theorem law_binds {K : PySem.W.Frag} {f : Addr} {fd : FuncData} (F : Fun K "law" "law" s_law f fd) : ∀ (s : Shared) (u : Value), BindsTo s fd ⟨[u], []⟩ [("script", u)] := by
  obtain ⟨oc, od, kV, doc, pm, an, cdv, ct, osl, rfl, lk, hcd⟩ := F.ex
  exact fun s u => .of_eq rfl
end K03
open PySem PySem.W PyProof.Rows
set_option maxRecDepth 100000 in
set_option maxHeartbeats 0 in
theorem PySem.Challenge.cw_oldhands_k03_no_kinds_holds : PySem.Challenge.rw_oldhands_k03_no_kinds.Holds := by
  w_on; o_law; k_head; (case hw => w_witness2)
  k_fill
  refine L2.walk_ofK (l := PySem.Challenge.rw_oldhands_k03_no_kinds) (n := 63) (k := K03.depth) (x := "script") (CX := L2.CX0) (sp := K03.spLaw) rfl (by decide) rfl ⟨rfl, by decide, by decide⟩ (fun w h Y => PySem.W.kIn_of Y) ?F (fun _ _ a ns hl _ hS => ⟨a, ns, rfl, hS, hl, fun _ => rfl⟩) (fun _ _ _ _ z => z)
  case F =>
    intro w mg fa h KX G hmg
    have T : ∃ ad, K03.Tx (L2.KOf KX) mg ad := by
      dsimp only [L2.KOf]
      refine' ⟨_, K03.tx_mk KX G ?ya0 ?yl0 ?yc0 ?yk0 ?ya1 ?yl1 ?yc1 ?yk1 ?ya2 ?yl2 ?yc2 ?yk2 ?ya3 ?yl3 ?yc3 ?yk3 ?ya4 ?yl4 ?yc4 ?yk4 ?ya5 ?yl5 ?yc5 ?yk5 ?ya6 ?yl6 ?yc6 ?yk6 ?ya7 ?yl7 ?yc7 ?yk7 ?ya8 ?yl8 ?yc8 ?yk8 ?ya9 ?yl9 ?yc9 ?yk9 ?ya10 ?yl10 ?yc10 ?yk10 ?ya11 ?yl11 ?yc11 ?yk11 ?ya12 ?yl12 ?yc12 ?yk12 ?ya13 ?yl13 ?yc13 ?yk13 ?ya14 ?yl14 ?yc14 ?yk14 ?ya15 ?yl15 ?yc15 ?yk15 ?ya16 ?yl16 ?yc16 ?yk16 ?ya17 ?yl17 ?yc17 ?yk17 ?ya18 ?yl18 ?yc18 ?yk18 ?ya19 ?yl19 ?yc19 ?yk19 ?ya20 ?yl20 ?yc20 ?yk20 ?ya21 ?yl21 ?yc21 ?yk21 ?ya22 ?yl22 ?yc22 ?yk22 ?ya23 ?yl23 ?yc23 ?yk23 ?ya24 ?yl24 ?yc24 ?yk24 ?ya25 ?yl25 ?yc25 ?yk25 ?ya26 ?yl26 ?yc26 ?yk26 ?ya27 ?yl27 ?yc27 ?yk27 ?ya28 ?yl28 ?yc28 ?yk28 ?ya29 ?yl29 ?yc29 ?yk29 ?yxa0 ?yxq0 ?yxg0 ?yxt0 ?yxc0 ?yxb0 ?yxo0 ?yxd0 ?yxk0 ?yxa1 ?yxq1 ?yxg1 ?yxt1 ?yxc1 ?yxb1 ?yxo1 ?yxd1 ?yxk1 ?yxa2 ?yxq2 ?yxg2 ?yxt2 ?yxc2 ?yxb2 ?yxo2 ?yxd2 ?yxk2 ?yg0 ?yg1 ?yg2 ?yg3 ?yg4 ?yg5 ?yg6 ?yg7 ?yg8 ?yg9 ?ygd9 ?yz0 ?yz1 ?yz2 ?yz3 ?yz4 ?yz5 ?yz6 ?yz7 ?yz8 ?yz9 ?yz10 ?yz11 ?yz12 ?yz13 ?yz14 ?yq0 ?yq1⟩
      (case ya0 => k_is)
      (case yl0 => k_is)
      (case yc0 => k_is)
      (case yk0 => k_is)
      (case ya1 => k_is)
      (case yl1 => k_is)
      (case yc1 => k_is)
      (case yk1 => k_is)
      (case ya2 => k_is)
      (case yl2 => k_is)
      (case yc2 => k_is)
      (case yk2 => k_is)
      (case ya3 => k_is)
      (case yl3 => k_is)
      (case yc3 => k_is)
      (case yk3 => k_is)
      (case ya4 => k_is)
      (case yl4 => k_is)
      (case yc4 => k_is)
      (case yk4 => k_is)
      (case ya5 => k_is)
      (case yl5 => k_is)
      (case yc5 => k_is)
      (case yk5 => k_is)
      (case ya6 => k_is)
      (case yl6 => k_is)
      (case yc6 => k_is)
      (case yk6 => k_is)
      (case ya7 => k_is)
      (case yl7 => k_is)
      (case yc7 => k_is)
      (case yk7 => k_is)
      (case ya8 => k_is)
      (case yl8 => k_is)
      (case yc8 => k_is)
      (case yk8 => k_is)
      (case ya9 => k_is)
      (case yl9 => k_is)
      (case yc9 => k_is)
      (case yk9 => k_is)
      (case ya10 => k_is)
      (case yl10 => k_is)
      (case yc10 => k_is)
      (case yk10 => k_is)
      (case ya11 => k_is)
      (case yl11 => k_is)
      (case yc11 => k_is)
      (case yk11 => k_is)
      (case ya12 => k_is)
      (case yl12 => k_is)
      (case yc12 => k_is)
      (case yk12 => k_is)
      (case ya13 => k_is)
      (case yl13 => k_is)
      (case yc13 => k_is)
      (case yk13 => k_is)
      (case ya14 => k_is)
      (case yl14 => k_is)
      (case yc14 => k_is)
      (case yk14 => k_is)
      (case ya15 => k_is)
      (case yl15 => k_is)
      (case yc15 => k_is)
      (case yk15 => k_is)
      (case ya16 => k_is)
      (case yl16 => k_is)
      (case yc16 => k_is)
      (case yk16 => k_is)
      (case ya17 => k_is)
      (case yl17 => k_is)
      (case yc17 => k_is)
      (case yk17 => k_is)
      (case ya18 => k_is)
      (case yl18 => k_is)
      (case yc18 => k_is)
      (case yk18 => k_is)
      (case ya19 => k_is)
      (case yl19 => k_is)
      (case yc19 => k_is)
      (case yk19 => k_is)
      (case ya20 => k_is)
      (case yl20 => k_is)
      (case yc20 => k_is)
      (case yk20 => k_is)
      (case ya21 => k_is)
      (case yl21 => k_is)
      (case yc21 => k_is)
      (case yk21 => k_is)
      (case ya22 => k_is)
      (case yl22 => k_is)
      (case yc22 => k_is)
      (case yk22 => k_is)
      (case ya23 => k_is)
      (case yl23 => k_is)
      (case yc23 => k_is)
      (case yk23 => k_is)
      (case ya24 => k_is)
      (case yl24 => k_is)
      (case yc24 => k_is)
      (case yk24 => k_is)
      (case ya25 => k_is)
      (case yl25 => k_is)
      (case yc25 => k_is)
      (case yk25 => k_is)
      (case ya26 => k_is)
      (case yl26 => k_is)
      (case yc26 => k_is)
      (case yk26 => k_is)
      (case ya27 => k_is)
      (case yl27 => k_is)
      (case yc27 => k_is)
      (case yk27 => k_is)
      (case ya28 => k_is)
      (case yl28 => k_is)
      (case yc28 => k_is)
      (case yk28 => k_is)
      (case ya29 => k_is)
      (case yl29 => k_is)
      (case yc29 => k_is)
      (case yk29 => k_is)
      (case yxa0 => k_is)
      (case yxq0 => kernel_rfl)
      (case yxg0 => k_is)
      (case yxt0 => k_is)
      (case yxc0 => k_is)
      (case yxb0 => k_is)
      (case yxo0 => k_is)
      (case yxd0 => k_is)
      (case yxk0 => k_is)
      (case yxa1 => k_is)
      (case yxq1 => kernel_rfl)
      (case yxg1 => k_is)
      (case yxt1 => k_is)
      (case yxc1 => k_is)
      (case yxb1 => k_is)
      (case yxo1 => k_is)
      (case yxd1 => k_is)
      (case yxk1 => k_is)
      (case yxa2 => k_is)
      (case yxq2 => kernel_rfl)
      (case yxg2 => k_is)
      (case yxt2 => k_is)
      (case yxc2 => k_is)
      (case yxb2 => k_is)
      (case yxo2 => k_is)
      (case yxd2 => k_is)
      (case yxk2 => k_is)
      (case yg0 => k_is)
      (case yg1 => k_is)
      (case yg2 => k_is)
      (case yg3 => k_is)
      (case yg4 => k_is)
      (case yg5 => k_is)
      (case yg6 => k_is)
      (case yg7 => k_is)
      (case yg8 => k_is)
      (case yg9 => k_is)
      (case ygd9 => kernel_rfl)
      (case yz0 => k_is)
      (case yz1 => k_is)
      (case yz2 => k_is)
      (case yz3 => k_is)
      (case yz4 => k_is)
      (case yz5 => k_is)
      (case yz6 => k_is)
      (case yz7 => k_is)
      (case yz8 => k_is)
      (case yz9 => k_is)
      (case yz10 => k_is)
      (case yz11 => k_is)
      (case yz12 => k_is)
      (case yz13 => k_is)
      (case yz14 => k_is)
      (case yq0 => kernel_rfl)
      (case yq1 => kernel_rfl)
    obtain ⟨ad, T⟩ := T
    obtain ⟨fL, dL, L⟩ := T.law
    have e := hmg.symm.trans L.m
    cases e
    exact ⟨dL, K03.law_binds L.F, fun base _ _ => K03.ok_law T L⟩
#print axioms PySem.Challenge.cw_oldhands_k03_no_kinds_holds
